import PyProof.Rows.All
import Wide.All
import OpenK.AllK
import Wide.FinOn
import KE.KStateDown
import HandS.ForExc
import HandS.Defaults
import HandS.Head0
import HandS.Head1
import HandS.Head2
import HandS.HeadHook1
import HandS.HeadHook2
import HandS.HeadHook3
import HandS.HeadHook4
import HandS.HeadNt
import HandS.HeadWalk
import HandS.EndTab
import HandS.Star
import HandS.Property
import HandS.ExcField
import KE.KExcLine
import KE.KSuper
import HandS.ForMost
import HandS.FStr
import HandS.ExcInit
import HandS.ExcOwn
import HandS.Nested
import HandS.MakeKwOnly
import HandS.Walk
import HandS.More
import HandS.Lambda
import HandS.TryMany
import HandS.TupAny
import HandS.IsInst
import HandS.ClsMeth
import HandS.DeepEq
import HandS.Words
import HandS.Style
import HandS.RaiseMore
import HandS.SortKw
import KE.KSortKeySt
import HandS.Deep
import HandS.Dict
import HandS.Iter
import HandS.DictComp
import HandS.DictTup
import KE.KDictDisplayH
import KE.GoesMore
import PyProof.EnumMake
import PyProof.EnumFor
import PyProof.Draws
import HandS.List
import KE.KRevSl
import HandS.Text
import HandS.Rev
import PySem.Challenge.RW_shoepile_k09_invalid_comings_and_goings
set_option Elab.async false
set_option linter.all false
set_option maxRecDepth 100000
set_option maxHeartbeats 4000000
/-! Own errors over ValueError: made with keywords, their __init__ with super(). -/
namespace ShX
open PySem PySem.W PySem.HandSPX
open Builtin Builtin.ObjectAttr
section
variable {M : Model} {prog : Program} {w : World} {A : Around} {E : Value → Shared → Prop} {R : Result → Shared → Prop}
variable {h : Heap} {g : Array GenState} {d : Drawn} {t : Nat} {os : OsState}
variable {nm q : Str} {C N : Addr} {bs bm bmB : List Value} {hdct : Bool} {sn : List Str} {sub : List Value} {ab : Bool} {col : Option Bool} {dd : Option Addr} {k0 k1 k2 k3 k5 : Option Value} {B newId initId : String}

theorem chk_new (F : ExcBaseFacts B newId initId bmB) (hT : ∀ X : String, bm.contains (.type X) = bmB.contains (.type X)) {kw : List (Str × Value)} {Q : Unit → Shared → Prop}
    (hC : h.get? C = some (excClassObj nm q C N bs bm hdct sn sub ab col dd k0 k1 k2 k3 k5 newId)) (hq : Q () ⟨h, g, d, t, os⟩) :
    wpAny M A (checkBuiltinCall newId ⟨[.ref C], kw⟩) Q E ⟨h, g, d, t, os⟩ := by
  have has : (Value.ref C :: bm).contains (.type B) = true := by rw [List.contains_cons, hT, F.hasB, Bool.or_true]
  have star := F.noStar
  simp only [checkBuiltinCall, F.newKind, F.newSplit, F.newRow]
  repeat (first
    | refine wpAny_loadPart_at hC ?_
    | (refine wpAny_isSubtype_exc hC ?_; rw [has])
    | refine wpAny_staticBase_exc hC ?_
    | refine wpAny_madeBy_exc hC ?_
    | simp only [bne_self_eq_false, Bool.false_eq_true, if_false]
    | wp_step)
  exact hq

/-- the new object: its args are none, the keywords go to __init__ alone -/
theorem new_kw (F : ExcBaseFacts B newId initId bmB) (hT : ∀ X : String, bm.contains (.type X) = bmB.contains (.type X)) {kw : List (Str × Value)}
    (hC : h.get? C = some (excClassObj nm q C N bs bm hdct sn sub ab col dd k0 k1 k2 k3 k5 newId))
    (hq : R (.ok (.ret (.ref (h.objs.size + 1)))) ⟨(h.push (kdv_tup [])).push (excO C h.objs.size), g, d, t, os⟩) :
    codeAny (model prog w) A (.builtin newId ⟨[.ref C], kw⟩) R ⟨h, g, d, t, os⟩ := by
  have ends := F.ends
  have has : ∀ Y : String, (Value.ref C :: bm).contains (.type Y) = bmB.contains (.type Y) := fun Y => by rw [List.contains_cons, hT]; rfl
  have yes : (Value.ref C :: bm).contains (.type B) = true := (has _).trans F.hasB
  have no1 : (Value.ref C :: bm).contains (.type "AttributeError") = false := (has _).trans F.noAttr
  have no2 : (Value.ref C :: bm).contains (.type "NameError") = false := (has _).trans F.noName
  refine codeAny_builtinAt F.entry ?_
  unfold Builtin.«BaseException.__new__»
  refine wpAt_bind ?_
  show wpAt _ _ _ (stack >>= _) _ _ _
  refine wpAt_bind (wpAt_stack fun p below => wpAt_of_wpAny ?_)
  wp_walk
  refine wpAt_of_wpAny ?_
  rw [F.owner]
  repeat (first
    | with_reducible refine wpAny_madeHere_exc F.canon hC ?_
    | with_reducible refine wpAny_loadPart_at hC ?_
    | (with_reducible refine wpAny_isSubtype_exc hC ?_; first | rw [yes] | rw [no1] | rw [no2])
    | wp_step)
  show R _ _
  rw [Heap.size_push]
  exact hq

theorem tcall_kw (F : ExcBaseFacts B newId initId bmB) (hT : ∀ X : String, bm.contains (.type X) = bmB.contains (.type X)) {kw : List (Str × Value)} {fI : Addr} {Q : Fin → Shared → Prop}
    (hC : h.get? C = some (excClassObj nm q C N bs bm hdct sn sub ab col dd k0 k1 k2 k3 k5 newId))
    (hi : Looks (model prog w) h (typeLookup (.ref C) "__init__") (some (.ref fI))) (hb : ∀ self, Looks (model prog w) h (bindSpecial (.ref fI) self) (.ref fI, [self]))
    (hq : codeAny (model prog w) A (.call (.ref fI) ⟨[.ref (h.objs.size + 1)], kw⟩)
      (fun r s' => match r with
        | .ok (.ret v) => v = .none ∧ Q (.done (.ret (.ref (h.objs.size + 1)))) s'
        | .ok _ => False
        | .error e => E e s')
      ⟨(h.push (kdv_tup [])).push (excO C h.objs.size), g, d, t, os⟩) :
    wpAny (model prog w) A (Builtin.«type.__call__» ⟨[.ref C], kw⟩) Q E ⟨h, g, d, t, os⟩ := by
  repeat (first | with_reducible refine wpAny_loadPart_at hC ?_ | with_reducible refine wpAny_madeBy_exc hC ?_ | wp_step)
  refine codeAny_call_builtin_code (Code.quiet_builtin _ F.quiet) (chk_new F hT hC ?_)
  refine new_kw F hT hC ?_
  show wpAny _ _ _ _ _ _
  have kp : ∀ b o, h.get? b = some o → ((h.push (kdv_tup [])).push (excO C h.objs.size)).get? b = some o := fun b o e => Heap.get?_push_of_some _ (Heap.get?_push_of_some _ e)
  have cls1 := kp _ _ hC
  have new1 : ((h.push (kdv_tup [])).push (excO C h.objs.size)).get? (h.objs.size + 1) = some (excO C h.objs.size) := by heap_get
  have self1 : (Value.ref C :: bm).contains (.ref C) = true := by simp
  have look1 := hi.keeps kp
  have bind1 := (hb (.ref (h.objs.size + 1))).keeps kp
  unfold isInstance
  repeat (first | with_reducible refine wpAny_loadPart_at new1 ?_ | (with_reducible refine wpAny_isSubtype_exc cls1 ?_; rw [self1]) | wp_step)
  show wpAny _ _ (typeLookup (.ref C) _) _ _ _
  refine look1.at ?_
  refine wpAny_holding (wpAny_bind (bind1.at ?_))
  refine wpAny_bind (wpAny_call (codeAny_mono hq fun r s' z => ?_))
  rcases r with e | (v | _ | _ | _) <;> first | exact z | exact z.elim | skip
  obtain ⟨rfl, z⟩ := z
  first
    | exact wpAny_pure (wpAny_pure z)
    | (wp_walk; exact z)

theorem chk_tcall {kw : List (Str × Value)} {Q : Unit → Shared → Prop} (hC : h.get? C = some (excClassObj nm q C N bs bm hdct sn sub ab col dd k0 k1 k2 k3 k5 newId))
    (hq : Q () ⟨h, g, d, t, os⟩) : wpAny M A (checkBuiltinCall "type.__call__" ⟨[.ref C], kw⟩) Q E ⟨h, g, d, t, os⟩ := by
  have f3 := tc_sub
  have hT : (⟨h, g, d, t, os⟩ : Shared).TypeIs (.ref C) "type" := ⟨_, hC, rfl⟩
  simp only [checkBuiltinCall, tc_kind, tc_split]
  repeat (any_goals (first | assumption | with_reducible refine wpAny_loadPart_at hC ?_ | with_reducible refine wpAny_onRaise ?_ | with_reducible refine wpAny_map ?_ | wp_step))

theorem call_kw (F : ExcBaseFacts B newId initId bmB) (hT : ∀ X : String, bm.contains (.type X) = bmB.contains (.type X)) {kw : List (Str × Value)} {fI : Addr}
    (hC : h.get? C = some (excClassObj nm q C N bs bm hdct sn sub ab col dd k0 k1 k2 k3 k5 newId))
    (hi : Looks (model prog w) h (typeLookup (.ref C) "__init__") (some (.ref fI))) (hb : ∀ self, Looks (model prog w) h (bindSpecial (.ref fI) self) (.ref fI, [self]))
    (hq : codeAny (model prog w) (A.under (.builtin "type.__call__" ⟨[.ref C], kw⟩)) (.call (.ref fI) ⟨[.ref (h.objs.size + 1)], kw⟩) (InitBack (h.objs.size + 1) R)
      ⟨(h.push (kdv_tup [])).push (excO C h.objs.size), g, d, t, os⟩) :
    codeAny (model prog w) A (.call (.ref C) ⟨[], kw⟩) R ⟨h, g, d, t, os⟩ := by
  have f1 := tc_lookup
  have f2 := tc_bind (.ref C)
  have hTy : (⟨h, g, d, t, os⟩ : Shared).TypeIs (.ref C) "type" := ⟨_, hC, rfl⟩
  refine codeAny_of_tree ?_
  show wpAny _ _ (callAny (.ref C) _) _ _ _
  repeat (any_goals (first | assumption | with_reducible refine wpAny_loadPart_at hC ?_ | wp_step))
  refine ⟨rfl, ?_⟩
  refine codeAny_call_builtin_at (Code.quiet_builtin _ (by decide +kernel)) entry_typeCall (chk_tcall hC (tcall_kw F hT hC hi hb ?_))
  refine codeAny_mono hq fun r s' z => ?_
  rcases r with e | (v | _ | _ | _) <;> exact z
end
end ShX

namespace ShX
open PySem PySem.W PySem.Calls PyProof.Rows PySem.HandSPX
section
variable {prog : Program} {w : World} {A : Around} {E : Value → Shared → Prop} {h : Heap} {g : Array GenState} {d : Drawn} {t : Nat} {os : OsState}
variable {nm q : Str} {C N : Addr} {bs bm : List Value} {hdct : Bool} {sn : List Str} {sub : List Value} {ab : Bool} {col : Option Bool} {dd : Option Addr} {k0 k1 k2 k3 k5 : Option Value}
abbrev veI : String := "ValueError.__init__"
/-- ValueError's __init__, bound to the exception at e, called -/
theorem call_mw {u e t0 : Addr} {rest : List Value} {Q : Value → Shared → Prop}
    (hC : h.get? C = some (excClassObj nm q C N bs bm hdct sn sub ab col dd k0 k1 k2 k3 k5 "ValueError.__new__")) (he : h.get? e = some (excO C t0))
    (hu : h.get? u = some (kxs_mw veI e)) (hz : rest.length ≤ sizeLine)
    (hq : ∀ h' t1, (∀ b o, b ≠ e → h.get? b = some o → h'.get? b = some o) → h'.get? e = some (excO C t1) → Q .none ⟨h', g, d, t, os⟩) :
    wpAny (model prog w) A (call (.ref u) rest) Q E ⟨h, g, d, t, os⟩ := by
  refine wpAny_call (codeAny_of_tree ?_)
  show wpAny _ A.in1 (callAny (.ref u) ⟨rest, []⟩) _ _ _
  simp only [callAny]
  refine wpAny_bind (wpAny_load hu ?_)
  have yes : (Value.type "method-wrapper" == Value.type "method" || Value.type "method-wrapper" == Value.type "builtin_function_or_method" || Value.type "method-wrapper" == Value.type "method-wrapper") = true := by decide
  simp only [kxs_mw, yes, if_true]
  refine KFB.if_so (by decide) ?_
  refine wpAny_bind (check_bound_init F.excBase_ValueError.toExcCallFacts hC he rfl ?_)
  refine wpAny_bind (wpAny_pure (wpAny_pure ?_))
  refine ⟨plainId_quiet F.excBase_ValueError.init.plain _, codeAny_builtin F.excBase_ValueError.initEntry ?_⟩
  exact exc_init_tree (cls := .ref C) (t0 := t0) (dv := none) (c2 := .none) (c3 := .none) (b4 := .bool false) he hz fun h' k e' _ => hq h' _ k e'
end
end ShX
set_option Elab.async false
set_option linter.all false
set_option maxRecDepth 100000
set_option maxHeartbeats 4000000

namespace Sho
open PySem PySem.Spec PyProof.Rows L2 NdefX
/-- what the written part says of an own error's __init__ at f that says super() -/
structure SupTxt (P : Program) (K : PySem.W.Frag) (mg : Str → Option Value) (F : NF) (f cc D : Addr) : Prop where
  fn : ∃ (oc : Value) (od : Option Addr) (doc pm : Value) (an : Option Addr) (ct : Value) (osl : Array (Option Value)),
    K.lookup f = some ⟨oc, od, .func (PySem.W.ksFn F.name F.qual F.params F.body F.scope .none .none doc pm an (.ref F.c) ct cc), osl⟩
  cd : PySem.W.codeIn K (.ref F.c) F.qual = true
  cell : ∃ (cl : Value) (cld : Option Addr) (csl : Array (Option Value)), K.lookup cc = some ⟨cl, cld, .cell (some (.ref D)), csl⟩
  cls : F.cl = [(("__class__" : Str), cc)]
  file : ∃ (oc : Value) (od : Option Addr) (vs : Array Value) (sl : Array (Option Value)) (fl : Str) (tf : Tok), K.lookup F.c = some ⟨oc, od, .fields vs, sl⟩ ∧ vs[2]? = some (.str fl tf) ∧ ((P.main.file : Str) == fl) = true
  first : ∃ ar : Arg, (F.params.posonlyargs ++ F.params.args).head? = some ar ∧ ar.arg = ("self" : Str)
  sup : mg "super" = none
  top : (P.main.scope.names.lookup ("super" : Str)).isSome = false
  ks : F.scope.names.lookup ("super" : Str) = some .globalImplicit
  kc : F.scope.names.lookup ("__class__" : Str) = some .free
  kse : F.scope.names.lookup ("self" : Str) = some .local
  isD : PySem.W.isClsIn K D = true
  opq : PySem.W.nsIn K cStatics "thirdparty.any" = some none
/-- the context's class: C's __init__ from D on is ValueError's -/
structure SupCls (K : PySem.W.Frag) (C D : Addr) : Prop where
  o : OexC K C
  sub : PySem.W.mroIn K C (.ref D) = some true
  nxt : PySem.W.ks_superIn K C D "__init__" = some (some (.builtin ShX.veI))
  ve : PySem.W.subIn K (.ref C) (.type "ValueError") = some true
section
variable {X : Cx} {pins : List (Addr × Obj)} {σ : L2.St} {H : Hp} {s : Shared} {F : NF} {f cc D a C : Addr}
theorem cls_at {K : PySem.W.Frag} {h : Heap} {D : Addr} (X : K.In h) (i : PySem.W.isClsIn K D = true) : ∃ (o : Obj) (cd : ClassData), h.get? D = some o ∧ o.data = .cls cd ∧ PySem.W.clsIn K D = some cd := by
  have i2 : (PySem.W.clsIn K D).isSome = true := i
  cases e : PySem.W.clsIn K D with
  | none =>
    rw [e] at i2
    cases i2
  | some cd =>
    have e0 := e
    unfold PySem.W.clsIn at e
    split at e
    · rename_i c d cd' sl ho
      cases e
      exact ⟨_, _, X _ _ ho, rfl, rfl⟩
    · cases e
/-- super().__init__(e), the exception at a being made -/
theorem sup_stmt {pl : Sem Bool} {R : Hp → Prop} {body : List Stmt} {e : Expr} {te : TA} {p0 p1 p2 p3 p4 : Pos} {Qf : PySem.Flow → Shared → Prop} {Ex : Value → Shared → Prop} (T : SupTxt X.prog X.K X.mg F f cc D) (V : SupCls X.K C D)
    (hX : X.env = envF F f X.env.locals) (I : Inv X pins σ H s) (hi : X.N[0]? = some ("self" : Str)) (hv : σ[0]? = some (some (.ref a))) (ha : H a = some (exo a C none))
    (he : PA X [e] te) (hxe : ∀ v s', X.xe v s' → Ex v s') (hq : te σ H fun xs H1 => xs.length ≤ 1000 ∧ H1 a = some (exo a C none) ∧ R H1) (hR : ∀ H1 s', Inv X pins σ H1 s' → R H1 → Qf .next s')
    (hce : eval (.Call (.Attribute (.Call (.Name "super" p0) [] [] p1) "__init__" p2) [e] [] p3) X.env = (do
      let ov ← attributeBase (.Call (.Name "super" p0) [] [] p1) "__init__" X.env (eval (.Call (.Name "super" p0) [] [] p1) X.env)
      standAt p2.atName
      let (fx, first) ← holding [ov] (getMethod ov "__init__" pl)
      callWith p3 fx first (backTo p3 (starEach [e] X.env)) []))
    (hst : starEach [e] X.env = (false, eval e X.env) :: starEach [] X.env) :
    PySem.wpAt (model X.prog X.w) X.A (.func body X.env) (exec (.Expr (.Call (.Attribute (.Call (.Name "super" p0) [] [] p1) "__init__" p2) [e] [] p3) p4) X.env) Qf Ex s := by
  obtain ⟨fc, fod, doc, pm, an, ct, osl, hf⟩ := T.fn
  obtain ⟨cl, cld, csl, hcell⟩ := T.cell
  obtain ⟨oc, od, vs, sl, fl, tf, hcode, hvs, hfile⟩ := T.file
  obtain ⟨ar, hfirst, har⟩ := T.first
  obtain ⟨oD, cdD, hD1, hD2, _⟩ := cls_at I.kIn T.isD
  obtain ⟨t0, hx⟩ := exo_at I.hok ha
  obtain ⟨nm, q, N, bs, bm, sn, sub, ab, col, dd, k0, k1, k2, k3, k5, hC, hbm⟩ := V.o.cls
  have hclC : PySem.W.clsIn X.K C = some { name := nm, bases := bs, mro := .ref C :: bm, ns := N, qualname := q, hasDict := true, slotNames := sn, subclasses := sub, abstract := ab, collection := col, hasDel := false } := by unfold PySem.W.clsIn; rw [hC] <;> rfl
  have IA : PySem.W.InstAt s.heap a ({ cls := .ref C, data := .fields #[.ref t0, .none, .none, .none, .bool false, .none] } : Obj) C none := ⟨hx, rfl, rfl, True.intro⟩
  have kD : X.env.kindOf ("self" : Str) = some .local := by rw [hX]; exact T.kse
  have selfv : ∃ m, s.heap.Ns X.env.locals m ∧ m ("self" : Str) = some (.ref a) := by
    obtain ⟨m, hm, hl⟩ := I.loc
    obtain ⟨u, ru, lk⟩ := hl 0 _ _ hi hv (.inl (by have := kD; rw [hX] at this; rw [hX]; exact this))
    obtain rfl : u = Value.ref a := ru
    rcases lk with ⟨_, e⟩ | ⟨e, _⟩
    · exact ⟨m, hm, e⟩
    · rw [kD] at e
      rcases e with e | e <;> cases e
  obtain ⟨m, hm, hself⟩ := selfv
  obtain ⟨mb, hb1, hb2⟩ := I.mod.blt
  have ek : X.env.scope.kind = .function := I.ok.kind
  have e1 : X.env.kindOf ("super" : Str) = some .globalImplicit := by rw [hX]; exact T.ks
  have e2 : X.env.kindOf ("__class__" : Str) = some .free := by rw [hX]; exact T.kc
  have e3 : X.env.cells.lookup ("__class__" : Str) = some cc := by
    rw [hX]
    show F.cl.lookup _ = _
    rw [T.cls]
    rfl
  refine ks_wpAt_Expr_any ?_ (I.quiet) (by rfl)
  refine ks_wpAt_MethodCall ?_ hce
  refine ks_wpAt_super_base (prog := X.prog) (w := X.w) (f := f) (cc := F.c) e1 e2 (by rfl) (by rw [hX]) (I.kIn _ _ hf) rfl hfirst (by rw [hX]) (I.kIn _ _ hcode) rfl hvs hfile T.top ?_
  refine PySem.W.ks_loadName_global ek e1 (PySem.Calls.loadGlobal_builtin (by rw [I.ok.glob]; exact I.mod.glob.keeps I.bk) T.sup (by rw [I.ok.blt]; exact hb1.keeps I.bk) ((hb2 _ (by decide)).trans (by decide +kernel)) ⟨rfl, ?_⟩)
  refine wpAny_loadName_free ek e2 e3 ⟨_, I.kIn _ _ hcell, rfl⟩ ?_
  rw [har]
  refine wpAny_loadName_local ek kD hm hself ?_
  refine ks_wpAny_isType_cls hD1 hD2 ⟨rfl, ?_⟩
  obtain ⟨hp, g, d, tk, os⟩ := s
  refine ks_wpAny_call_super hD1 hD2 hx rfl (fun c z => by cases z) (PySem.W.looks_mroIn I.kIn V.sub) fun h1 so1 kp1 => ?_
  have I1 : Inv X pins σ H ⟨h1, g, d, tk, os⟩ := I.kept (t' := tk) kp1
  have nx := V.nxt
  unfold PySem.W.ks_superIn at nx
  rw [hclC] at nx
  have hxC : a ≠ C := by
    rintro rfl
    have z := I.kIn _ _ hC
    have z2 : hp.get? a = some (excClassObj nm q a N bs bm true sn sub ab col dd k0 k1 k2 k3 k5 "ValueError.__new__") := z
    rw [z2] at hx
    cases hx
  have hmro : PySem.W.Looks (model X.prog X.w) h1 (mroOf (.ref C)) (.ref C :: bm) := (PySem.W.looks_clsIn I1.kIn hclC).andThen .now
  have hinst : PySem.W.Looks (model X.prog X.w) h1 (isInstance (.ref a) (.type "ValueError")) true :=
    PySem.W.Looks.andThen (PySem.W.InstAt.type (⟨kp1 _ _ hx, rfl, rfl, True.intro⟩ : PySem.W.InstAt h1 a _ C none)) (PySem.W.looks_subIn I1.kIn V.ve)
  refine PySem.W.kxs_getMethod PySem.W.kxs_ValueError so1 (PySem.W.looks_opaque I1.kIn T.opq) hmro rfl I1.kIn nx hinst hxC (by decide) ?_
  generalize hu : h1.objs.size = u
  have kp2 : ∀ b o, h1.get? b = some o → (h1.push (PySem.W.kxs_mw ShX.veI a)).get? b = some o := fun b o z => Heap.get?_push_of_some _ z
  have I2 : Inv X pins σ H ⟨h1.push (PySem.W.kxs_mw ShX.veI a), g, d, tk + 1, os⟩ := I1.kept (t' := tk + 1) kp2
  have gu : (h1.push (PySem.W.kxs_mw ShX.veI a)).get? u = some (PySem.W.kxs_mw ShX.veI a) := by rw [← hu]; exact Heap.get?_push_size _ rfl
  have fu : FpOk X pins H u := I1.fpOk (by rw [← hu]; exact Nat.le_refl _) (I1.hok.fresh (by rw [← hu]; exact Nat.le_refl _))
  have I3 : Inv X ((u, PySem.W.kxs_mw ShX.veI a) :: pins) σ H ⟨h1.push (PySem.W.kxs_mw ShX.veI a), g, d, tk + 1, os⟩ := I2.pins_of fun p hp => by
    rcases List.mem_cons.mp hp with rfl | hp
    · exact ⟨gu, fu.1, fu.2.1, fu.2.2.1, fun v z => by cases z⟩
    · exact I2.pin p (List.mem_append_right _ hp)
  refine wpAny_mono (PySem.W.kxs_callWith (i := ShX.veI) (x := a) (Q := fun _ s' => Qf .next s') (E := X.xe) (by rw [hst]; rfl) ?_) (fun _ _ z => z) hxe
  rw [hst]
  refine PySem.Calls.evalArgs_plain ?_
  have hr := he.run p3 ((u, PySem.W.kxs_mw ShX.veI a) :: pins) _ σ H _ I3 hq
  rw [hst] at hr
  refine thn hr fun us s2 ⟨xs, H2, I4, rv, hl, ha2, q⟩ => ?_
  have gu2 := (I4.pin (u, PySem.W.kxs_mw ShX.veI a) (List.mem_append_right _ List.mem_cons_self)).1
  refine ⟨gu2, ?_⟩
  obtain ⟨t2, hx2⟩ := exo_at I4.hok ha2
  obtain ⟨hp2, g2, d2, tk2, os2⟩ := s2
  refine ShX.call_mw (I4.kIn _ _ hC) hx2 gu2 ?_ fun h' t3 k3 e3 => ?_
  · show us.length ≤ sizeLine
    rw [← rv.length, sizeLine_eq]
    omega
  · have J := I4.write (t' := tk2) (x := a) (e := a) (o := exo a C none) (by rw [ha2]; exact True.intro) (.inl rfl) k3 ⟨_, e3⟩ (exo_ok e3)
    have eu : upd H2 a (exo a C none) = H2 := by
      funext b
      by_cases hb : b = a
      · rw [hb, upd_same, ha2]
      · rw [upd_ne hb]
    rw [eu] at J
    refine hR _ _ (J.pins_of fun p hp => J.pin p (by
      rcases List.mem_append.mp (List.mem_append_right X.pn hp) with z | z
      · exact List.mem_append_left _ z
      · exact List.mem_append_right _ (List.mem_cons_of_mem _ z))) q
end
section
variable {CX : CXT} {P : Program} {w : World} {K : PySem.W.Frag} {mg : Str → Option Value} {base : Heap} {N ps : List Str} {F : NF} {f cc D C a : Addr} {A : Around} {outer : List Env} {s : Shared} {H : Hp} {E : XK} {Q : VK} {us : List Value} {vs : List V} {k : Nat}
/-- the __init__ of an own error that says super() first, run: a is the exception -/
theorem run_sup {pl : Sem Bool} {args : Args} {e : Expr} {te : TA} {tr : TS} {rest : List Stmt} {p0 p1 p2 p3 p4 : Pos} (T : SupTxt P K mg F f cc D) (VC : SupCls K C D) (S : NScope N ps ["__class__"] F.scope) (hr : Room (k + 1) A) (e0 : Env0 P w K mg base A outer s H)
    (hb : ∀ doc pm an ct, BindsTo s (PySem.W.ksFn F.name F.qual F.params F.body F.scope .none .none doc pm an (.ref F.c) ct cc) args (ps.zip us)) (hl : vs.length = ps.length) (r : Vals vs us)
    (h0 : vs[0]? = some (.ref a)) (hN : N[0]? = some ("self" : Str)) (ha : H a = some (exo a C none))
    (hbody : F.body = .Expr (.Call (.Attribute (.Call (.Name "super" p0) [] [] p1) "__init__" p2) [e] [] p3) p4 :: rest)
    (he : PA (ncx CX P w K mg base N F f A outer s H E) [e] te) (hrest : PSs (ncx CX P w K mg base N F f A outer s H E) rest tr)
    (hq : te (startF N vs [none]) H fun xs H1 => xs.length ≤ 1000 ∧ H1 a = some (exo a C none) ∧ tr { nx := fun _ H' => Q .non H', rt := Q } (startF N vs [none]) H1)
    (hce : ∀ L : Addr, eval (.Call (.Attribute (.Call (.Name "super" p0) [] [] p1) "__init__" p2) [e] [] p3) (envF F f L) = (do
      let ov ← attributeBase (.Call (.Name "super" p0) [] [] p1) "__init__" (envF F f L) (eval (.Call (.Name "super" p0) [] [] p1) (envF F f L))
      standAt p2.atName
      let (fx, first) ← holding [ov] (getMethod ov "__init__" pl)
      callWith p3 fx first (backTo p3 (starEach [e] (envF F f L))) []))
    (hst : ∀ L : Addr, starEach [e] (envF F f L) = (false, eval e (envF F f L)) :: starEach [] (envF F f L)) :
    codeAny (model P w) A (.call (.ref f) args) (CR CX outer P w H s Q E) s := by
  obtain ⟨fc, fod, doc, pm, an, ct, osl, hf⟩ := T.fn
  have kin : K.In s.heap := e0.mod.kin.keeps fun b o z => (e0.bs b o z).1
  have lim : s.heap.NoLimit := e0.mod.nolimit.keeps fun b o z => (e0.bs b o z).1
  obtain ⟨cl, cld, csl, hcell⟩ := T.cell
  have hcb : base.get? cc = some ⟨cl, cld, .cell (some (.ref D)), csl⟩ := e0.mod.kin _ _ hcell
  have CA : CellsAt F.cl ["__class__"] [none] s.heap H := by
    rw [T.cls]
    have one : ∀ {y : Str} {c : Addr}, List.lookup y [(("__class__" : Str), cc)] = some c → y = "__class__" ∧ c = cc := fun {y c} z => by
      by_cases hy : y = ("__class__" : Str)
      · subst hy
        rw [List.lookup_cons_self] at z
        exact ⟨rfl, (Option.some.inj z).symm⟩
      · have q : (y == ("__class__" : Str)) = false := by simpa using hy
        rw [List.lookup_cons, q] at z
        cases z
    refine ⟨rfl, fun y c z => ?_, fun x y c z1 z2 => (one z1).1.trans (one z2).1.symm, fun i y z => ?_⟩
    · obtain ⟨_, rfl⟩ := one z
      exact ⟨(e0.bs _ _ hcb).2, _, _, (e0.bs _ _ hcb).1, rfl⟩
    · match i with
      | 0 =>
        simp at z
        subst z
        exact ⟨cc, List.lookup_cons_self, fun v z => by simp at z⟩
      | i + 1 => simp at z
  refine ks_codeAny_call_defAt (fd := PySem.W.ksFn F.name F.qual F.params F.body F.scope .none .none doc pm an (.ref F.c) ct cc) (body := F.body) (binds := ps.zip us) hr.depth (kin _ _ hf) rfl lim (PySem.W.codeRec_of kin T.cd) rfl (hb _ _ _ _)
    S.nocell (fun ⟨n, _⟩ hy => S.par n (List.of_mem_zip hy).1) (fun h₁ hns kp => ?_) S.co S.gen S.kind
  have I : Inv (ncx CX P w K mg base N F f A outer s H E) [] (startF N vs [none]) H { s with heap := h₁, toks := s.toks + (ps.zip us).length } := inv_startN S hr.hd e0 hl r CA hns kp
  have env_eq : callEnv (PySem.W.ksFn F.name F.qual F.params F.body F.scope .none .none doc pm an (.ref F.c) ct cc) s.heap.objs.size f = envF F f s.heap.objs.size := by
    show PySem.W.envX _ _ _ _ _ [(("__class__" : Str), cc)] = PySem.W.envX _ _ _ _ _ F.cl
    rw [T.cls]
  rw [env_eq]
  show PySem.wpAt (model P w) (ncx CX P w K mg base N F f A outer s H E).A (.func F.body (envF F f s.heap.objs.size)) (execs F.body (envF F f s.heap.objs.size)) _ _ _
  rw [hbody]
  refine ks_wpAt_execs_cons ?_
  have hs0 : (startF N vs [none])[0]? = some (some (.ref a)) := by
    unfold startF
    cases vs with
    | nil => simp at h0
    | cons v vs =>
      simp at h0
      subst h0
      rfl
  refine sup_stmt (X := ncx CX P w K mg base N F f A outer s H E) (Ex := (ncx CX P w K mg base N F f A outer s H E).xe) T VC rfl I hN hs0 ha he (fun _ _ z => z) hq (fun H1 s1 I1 q1 => ?_) (hce _) (hst _)
  refine wpAt_of_wpAny (wpAny_mono (hrest.run [] s1 (startF N vs [none]) H1 _ I1 q1) (fun fl s' hs => ?_) fun e s' hs => hs)
  have fin : ∀ {σ' : L2.St} {H' : Hp} {v : V} {u : Value}, Inv (ncx CX P w K mg base N F f A outer s H E) [] σ' H' s' → L2.RelV v u → Q v H' → CE outer P w H s Q u s' :=
    fun {σ' H' v u} J rv q => ⟨v, H', J.os, J.bare, J.base, J.hok, rv, q⟩
  cases fl with
  | ret u =>
    obtain ⟨v, σ', H', J, rv, q⟩ := hs
    exact fin J rv q
  | next =>
    obtain ⟨σ', H', J, q⟩ := hs
    exact fin (v := V.non) (u := Value.none) J rfl q
  | brk =>
    obtain ⟨_, _, _, q⟩ := hs
    exact False.elim q
  | cont =>
    obtain ⟨_, _, _, q⟩ := hs
    exact False.elim q
end
/-- a value that an error's message may tell -/
def Tells (v : V) : Prop := (∃ y : Str, v = .str y ∧ y.length ≤ 100000) ∨ ∃ i : Int, v = .int i ∧ i.natAbs.log2 < 1920
/-- C(f = e) -/
def tMkW (C : Addr) (fld : Str) (te : TA) : L2.St → Hp → XK → Prop := fun σ H Q => te σ H fun xs H1 => ∃ v, xs = [v] ∧ Tells v ∧ ∀ d, H1 d = none → Q (.ref C) (some d) (upd H1 d (.xd [(fld, v)]))
section
variable {X : Cx} {CX : CXT} {C f cc D : Addr} {F : NF} {k : Nat} {fld x : Str} {e msg : Expr} {kws : List Keyword} {te : TA} {p pos p0 p1 p2 p3 p4 r1 r2 r3 r4 : Pos} {pl : Sem Bool}
theorem pmk_kw (T : SupTxt X.prog X.K X.mg F f cc D) (VC : SupCls X.K C D) (XC : XfC X.K C) (hno : PySem.W.findIn X.K (.ref C) fld = some none)
    (iC : PySem.W.findIn X.K (.ref C) "__init__" = some (some (.ref f))) (tI : PySem.W.typeIn X.K (.ref f) = some (.type "function"))
    (S : NScope ["self", fld, "__class__"] ["self", fld] ["__class__"] F.scope) (hr : Room (k + 2) X.A) (hx : Passes CX X (fun _ _ _ => False)) (hg : Gl X x) (hm : X.mg x = some (.ref C))
    (hkw : PK X kws te) (hall : (backToKw pos (keywordEach kws X.env)).all (·.1.isSome) = true) (hks : (backToKw pos (keywordEach kws X.env)).filterMap (·.1) = [fld])
    (hpl : ((backTo pos (starEach [] X.env)).any (·.1) || (backToKw pos (keywordEach kws X.env)).any (·.1.isNone)) = false)
    (hbody : F.body = [.Expr (.Call (.Attribute (.Call (.Name "super" p0) [] [] p1) "__init__" p2) [msg] [] p3) p4, .Assign [.Attribute (.Name "self" r1) fld r2] (.Name fld r3) r4])
    (hb : ∀ (s : Shared) (doc pm : Value) (an : Option Addr) (ct : Value) (xa : Addr) (u : Value), BindsTo s (PySem.W.ksFn F.name F.qual F.params F.body F.scope .none .none doc pm an (.ref F.c) ct cc) ⟨[.ref xa], [(fld, u)]⟩ [(("self" : Str), .ref xa), (fld, u)])
    (hmsg : ∀ (A : Around) (outer : List Env) (s : Shared) (H : Hp) (E : XK) (xa : Addr) (v : V), Tells v → ∃ tm, PA (ncx CX X.prog X.w X.K X.mg X.base ["self", fld, "__class__"] F f A outer s H E) [msg] tm ∧
      ∀ R : List V → Hp → Prop, (∀ y : Str, R [.str y] H) → tm (startF ["self", fld, "__class__"] [.ref xa, v] [none]) H R)
    (hce : ∀ L : Addr, eval (.Call (.Attribute (.Call (.Name "super" p0) [] [] p1) "__init__" p2) [msg] [] p3) (envF F f L) = (do
      let ov ← attributeBase (.Call (.Name "super" p0) [] [] p1) "__init__" (envF F f L) (eval (.Call (.Name "super" p0) [] [] p1) (envF F f L))
      standAt p2.atName
      let (fx, first) ← holding [ov] (getMethod ov "__init__" pl)
      callWith p3 fx first (backTo p3 (starEach [msg] (envF F f L))) []))
    (hst : ∀ L : Addr, starEach [msg] (envF F f L) = (false, eval msg (envF F f L)) :: starEach [] (envF F f L))
    (hsw : ∀ L : Addr, swapsWith (.Name fld r3) (some (.Attribute (.Name "self" r1) fld r2)) r4.line (envF F f L) = pure false)
    (hf1 : (fld == ("__debug__" : Str)) = false := by decide) (hf2 : (fld == ("__classdict__" : Str)) = false := by decide)
    (hdb : (x == ("__debug__" : Str)) = false := by decide) : PMk X (.Call (.Name x p) [] kws pos) (tMkW C fld te) := by
  intro pins s σ H Q I h
  obtain ⟨nm, q, N, bs, bm, sn, sub, ab, col, dd, k0, k1, k2, k3, k5, hC, hbm⟩ := VC.o.cls
  refine wpAny_Call_Name_kw (ld_glob I hg hm ?_ hdb)
  refine PySem.W.callWith_KW0 (h₀ := X.base) I.ok.mod.kin VC.o.kC hall ?_ hpl
  refine thn (hkw.run pos pins s σ H _ I h) fun ws s1 ⟨zs, H1, I1, rz, v, ezs, hv, q1⟩ => ⟨I1.kIn, ?_⟩
  subst ezs
  cases rz with
  | @cons _ u _ _ rv rn =>
  cases rn
  rw [hks]
  obtain ⟨hp, g, dr, tk, os⟩ := s1
  have hsz : hp.objs.size ≤ hp.objs.size + 1 := Nat.le_succ _
  have hn : H1 (hp.objs.size + 1) = none := I1.hok.fresh hsz
  generalize ha : hp.objs.size + 1 = a at hn hsz
  have kk : ∀ b o, hp.get? b = some o → ((hp.push (PySem.W.kdv_tup [])).push (PySem.HandSPX.excO C hp.objs.size)).get? b = some o := fun b o e => Heap.get?_push_of_some _ (Heap.get?_push_of_some _ e)
  have hget : ((hp.push (PySem.W.kdv_tup [])).push (PySem.HandSPX.excO C hp.objs.size)).get? a = some (PySem.HandSPX.excO C hp.objs.size) := by
    rw [← ha]
    heap_get
  generalize hh2 : (hp.push (PySem.W.kdv_tup [])).push (PySem.HandSPX.excO C hp.objs.size) = h2 at kk hget
  have I2 : Inv X pins σ (upd H1 a (exo a C none)) ⟨h2, g, dr, tk, os⟩ := I1.laid (t' := tk) (a := a) (o := exo a C none) (h' := h2) kk hsz (exo_ok hget)
  obtain ⟨tm, hpm, htm⟩ := hmsg (X.A.under (.builtin "type.__call__" ⟨[.ref C], [(fld, u)]⟩)) X.stack ⟨h2, g, dr, tk, os⟩ (upd H1 a (exo a C none)) (fun _ _ _ => False) a v hv
  refine wpAny_call (ShX.call_kw PySem.F.excBase_ValueError (fun Y => PySem.HandSPX.refsVE_contains Y bm hbm) (I1.kIn _ _ hC) (PySem.W.looks_findIn I1.kIn iC) (fun self => PySem.W.bind_fn I1.kIn self tI) ?_)
  rw [ha, hh2]
  have vis0 : Vis F.scope ("self" : Str) := .inl (S.par _ List.mem_cons_self)
  have vis1 : Vis F.scope fld := .inl (S.par _ (List.mem_cons_of_mem _ List.mem_cons_self))
  refine codeAny_mono (run_sup (CX := CX) (k := k) (N := ["self", fld, "__class__"]) (ps := ["self", fld]) (us := [.ref a, u]) (vs := [.ref a, v]) (E := fun _ _ _ => False)
    (Q := fun r H2 => r = .non ∧ ∃ (d : Addr) (fs : List (Str × V)), H2 a = some (exo a C (some d)) ∧ H2 d = some (exd d fs) ∧ H1 d = none ∧ Q (.ref C) (some d) (upd (del H2 a) d (.xd fs)))
    T VC S (hr.make C [] _) (I2.env0.make C [] _) ?_ rfl (.cons rfl (.cons rv .nil)) rfl rfl upd_same hbody hpm
    (pss_one (ps_ost (pe_var (i := 0) rfl vis0) (pe_var (i := 1) rfl vis1 hf1 hf2) (hsw _))) ?_ hce hst) fun r s' hq' => ?_
  · intro doc pm an ct
    exact hb _ doc pm an ct a u
  · refine htm _ fun y => ⟨by simp, upd_same, v, rfl, .ref a, rfl, a, C, rfl, VC.o, hno, .inl ⟨upd_same, fun dx hdx ndx => ?_⟩⟩
    have hdx1 : H1 dx = none := by
      rw [upd_ne ndx] at hdx
      exact hdx
    refine ⟨rfl, dx, [(fld, v)], upd_same, ?_, hdx1, ?_⟩
    · rw [upd_ne ndx, upd_same]
    · have eH : upd (del (upd (upd (upd H1 a (exo a C none)) dx (exd dx [(fld, v)])) a (exo a C (some dx))) a) dx (.xd [(fld, v)]) = upd H1 dx (.xd [(fld, v)]) := by
        funext b
        by_cases h1 : b = dx
        · rw [h1, upd_same, upd_same]
        · rw [upd_ne h1, upd_ne h1]
          by_cases h2 : b = a
          · rw [h2, del_same, hn]
          · rw [del_ne h2, upd_ne h2, upd_ne h1, upd_ne h2]
      rw [eH]
      exact q1 dx hdx1
  · cases r with
    | error er => exact hx pins σ _ _ er s' I2 hq'
    | ok fl =>
      cases fl with
      | ret uu =>
        obtain ⟨vv, H2, os2, bare2, un2, hok2, rv2, ev, d2, fs, ea, ed, hd1, q2⟩ := hq'
        subst ev
        obtain ⟨h3, g2, dr2, t2, os'⟩ := s'
        exact ⟨rv2, mk_end (raises_own VC.o.exC VC.o.tyC) I1 hsz kk un2 hok2 os2 bare2 ea ed hd1 q2⟩
      | next => exact False.elim hq'
      | brk => exact False.elim hq'
      | cont => exact False.elim hq'
end
end Sho
set_option Elab.async false
set_option linter.all false
set_option maxRecDepth 100000
set_option maxHeartbeats 2000000
/-! The head of a law with facts: defs with and without a closure, Bools of the written part, empty tables of code objects left out. -/
namespace Shh
open PySem PySem.Spec PyProof.Rows L2 He Sho
abbrev Fr : Type := PySem.W.Frag
/-! ### a def -/
abbrev FnS : Type := Option (Str × Str × Arguments × FuncBody × Scope)
def fnS (K : Fr) (a : Addr) : FnS := match K.lookup a with
  | some ⟨_, _, .func fd, _⟩ => some (fd.name, fd.qualname, fd.params, fd.body, fd.scope)
  | _ => none
def noneB : Value → Bool
  | .none => true
  | _ => false
theorem noneB_ok {v : Value} (h : noneB v = true) : v = .none := by
  cases v with
  | none => rfl
  | _ => cases h
def fnB (K : Fr) (a : Addr) (q : Str) (cl : List (Str × Addr)) : Bool := match K.lookup a with
  | some ⟨_, _, .func fd, _⟩ => decide (fd.globals = mainGlobals) && (decide (fd.closure = cl) && (decide (fd.builtins = builtinsNs) && (noneB fd.defaults && (noneB fd.kwdefaults && PySem.W.codeIn K fd.code q))))
  | _ => false
def codeA (K : Fr) (a : Addr) : Addr := match K.lookup a with
  | some ⟨_, _, .func fd, _⟩ => (match fd.code with
    | .ref c => c
    | _ => 0)
  | _ => 0
/-- the first cell of a function's closure -/
def cellA (K : Fr) (a : Addr) : Addr := match K.lookup a with
  | some ⟨_, _, .func fd, _⟩ => (match fd.closure with
    | (_, c) :: _ => c
    | _ => 0)
  | _ => 0
structure FunF (K : Fr) (x qual : Str) (st : Stmt) (cl : List (Str × Addr)) (f : Addr) : Prop where
  ex : ∃ (oc : Value) (od : Option Addr) (doc pm : Value) (an : Option Addr) (ct : Value) (osl : Array (Option Value)),
    K.lookup f = some ⟨oc, od, .func (PySem.W.fnX x qual (defArgs st) (defBody st) (defScope st) cl .none .none doc pm an (.ref (codeA K f)) ct), osl⟩ ∧ PySem.W.codeIn K (.ref (codeA K f)) qual = true
/-- one def: where it stands, its name, qualified name, statement, closure -/
structure Dn where
  at_ : Fr → Addr
  name : Str
  qual : Str
  st : Stmt
  cl : Fr → List (Str × Addr) := fun _ => []
def Dn.val (d : Dn) : FnS := some (d.name, d.qual, defArgs d.st, .stmts (defBody d.st), defScope d.st)
def Dn.ok (K : Fr) (d : Dn) : Bool := fnB K (d.at_ K) d.qual (d.cl K)
theorem Dn.funF {K : Fr} {d : Dn} (e : fnS K (d.at_ K) = d.val) (c : d.ok K = true) : FunF K d.name d.qual d.st (d.cl K) (d.at_ K) := by
  unfold Dn.ok fnB at c
  unfold fnS at e
  have ec : ∀ fd oc od osl, K.lookup (d.at_ K) = some ⟨oc, od, .func fd, osl⟩ → ∀ c, fd.code = .ref c → codeA K (d.at_ K) = c := fun fd oc od osl q c h => by
    unfold codeA
    rw [q]
    show (match fd.code with | .ref c => c | _ => 0) = c
    rw [h]
  cases q : K.lookup (d.at_ K) with
  | none =>
    rw [q] at c
    cases c
  | some o =>
    obtain ⟨oc, od, dt, osl⟩ := o
    rw [q] at c e
    cases dt with
    | func fd =>
      have ec' := ec fd oc od osl q
      obtain ⟨n1, n2, n3, n4, n5, n6, n7, n8, n9, n10, n11, n12, n13, n14, n15⟩ := fd
      have e2 : (some (n1, n2, n3, n4, n5) : FnS) = some (d.name, d.qual, defArgs d.st, .stmts (defBody d.st), defScope d.st) := e
      simp only [Option.some.injEq, Prod.mk.injEq] at e2
      obtain ⟨h1, h2, h3, h4, h5⟩ := e2
      obtain ⟨c1, c⟩ := ba c
      obtain ⟨c2, c⟩ := ba c
      obtain ⟨c3, c⟩ := ba c
      obtain ⟨c4, c⟩ := ba c
      obtain ⟨c5, c6⟩ := ba c
      have g1 : n6 = mainGlobals := of_decide_eq_true c1
      have g2 : n7 = d.cl K := of_decide_eq_true c2
      have g3 : n15 = builtinsNs := of_decide_eq_true c3
      have g4 : n8 = .none := noneB_ok c4
      have g5 : n9 = .none := noneB_ok c5
      obtain ⟨cc, hc⟩ := codeIn_ref c6
      have hc' : n13 = .ref cc := hc
      have e3 := ec' cc hc'
      subst h1 h2 h3 h4 h5 g1 g2 g3 g4 g5 hc'
      exact ⟨oc, od, n10, n11, n12, n14, osl, by rw [e3]; exact q, by rw [e3]; exact c6⟩
    | _ => cases c
/-! ### the Hook -/
def okAll (fa : List (Fr → Bool)) (fn : List Dn) (K : Fr) : Bool := (fa.all fun f => f K) && fn.all fun d => d.ok K
def tabsS (g : Addr → Option Obj) (tf : List (Fr → Addr)) (K : Fr) : Bool := tf.all fun p => PySem.W.codeHdIn K (codeA K (p K)) (tabOf K (codeA K (p K))) && (match g (tabOf K (codeA K (p K))) with
  | some o => emptyTab o
  | none => false)
def fragS (n : Nat) (g : Addr → Option Obj) : Fr := frT g (asD g n ++ [cStatics])
abbrev AlS : Type := Bool × List FnS
def obsS (n : Nat) (fa : List (Fr → Bool)) (fn : List Dn) (tf : List (Fr → Addr)) (g : Addr → Option Obj) : AlS := (okAll fa fn (fragS n g) && tabsS g tf (fragS n g), fn.map fun d => fnS (fragS n g) (d.at_ (fragS n g)))
def valS (fn : List Dn) : AlS := (true, fn.map Dn.val)
structure SaysS (fa : List (Fr → Bool)) (fn : List Dn) (tf : List (Fr → Addr)) (h : Heap) (K : Fr) : Prop where
  fa : ∀ f ∈ fa, f K = true
  fn : ∀ d ∈ fn, FunF K d.name d.qual d.st (d.cl K) (d.at_ K)
  hd : ∀ p ∈ tf, PySem.W.codeHdIn K (codeA K (p K)) (tabOf K (codeA K (p K))) = true
  out : ∀ p ∈ tf, K.lookup (tabOf K (codeA K (p K))) = none
  empty : ∀ p ∈ tf, h.get? (tabOf K (codeA K (p K))) = some { cls := .none, data := .fields #[] }
theorem saysS_of {n : Nat} {fa : List (Fr → Bool)} {fn : List Dn} {tf : List (Fr → Addr)} {h : Heap} (e : obsS n fa fn tf h.get? = valS fn) : SaysS fa fn tf h (fragS n h.get?) := by
  have e1 : (okAll fa fn (fragS n h.get?) && tabsS h.get? tf (fragS n h.get?)) = true := congrArg (fun z : AlS => z.1) e
  have e2 : (fn.map fun d => fnS (fragS n h.get?) (d.at_ (fragS n h.get?))) = fn.map Dn.val := congrArg (fun z : AlS => z.2) e
  obtain ⟨h1, h2⟩ := ba e1
  obtain ⟨h3, h4⟩ := ba h1
  have key : ∀ p ∈ tf, PySem.W.codeHdIn (fragS n h.get?) (codeA (fragS n h.get?) (p (fragS n h.get?))) (tabOf (fragS n h.get?) (codeA (fragS n h.get?) (p (fragS n h.get?)))) = true ∧
      ∃ o, h.get? (tabOf (fragS n h.get?) (codeA (fragS n h.get?) (p (fragS n h.get?)))) = some o ∧ emptyTab o = true := fun p hp => by
    obtain ⟨h5, h6⟩ := ba (List.all_eq_true.mp h2 p hp)
    refine ⟨h5, ?_⟩
    cases q : h.get? (tabOf (fragS n h.get?) (codeA (fragS n h.get?) (p (fragS n h.get?)))) with
    | none =>
      rw [q] at h6
      cases h6
    | some o =>
      rw [q] at h6
      exact ⟨o, rfl, h6⟩
  refine ⟨fun f hf => List.all_eq_true.mp h3 f hf, fun d hd => ?_, fun p hp => (key p hp).1, fun p hp => ?_, fun p hp => ?_⟩
  · obtain ⟨i, hi, ei⟩ := List.mem_iff_getElem.mp hd
    have e3 : (fn.map fun d => fnS (fragS n h.get?) (d.at_ (fragS n h.get?)))[i]? = (fn.map Dn.val)[i]? := by rw [e2]
    rw [List.getElem?_map, List.getElem?_map, List.getElem?_eq_getElem hi, ei] at e3
    exact Dn.funF (Option.some.inj e3) (List.all_eq_true.mp h4 d hd)
  · obtain ⟨_, o, q, z⟩ := key p hp
    exact frT_none q z
  · obtain ⟨_, o, q, z⟩ := key p hp
    rw [q, emptyTab_eq z]
def hookS (n : Nat) (fa : List (Fr → Bool)) (fn : List Dn) (tf : List (Fr → Addr)) : PySem.W.Hook where
  α := AlS
  obs := fun s => obsS n fa fn tf s.heap.get?
  val := fun _ => valS fn
  says := fun _ h => ∃ K : PySem.W.Frag, K.In h ∧ SaysS fa fn tf h K
  of := fun _ _ e => ⟨_, frT_in, saysS_of e⟩
  keeps := fun _ _ _ ⟨K, hK, c⟩ k => ⟨K, PySem.W.Frag.In.keeps hK k, ⟨c.fa, c.fn, c.hd, c.out, fun p hp => k _ _ (c.empty p hp)⟩⟩
theorem obsS_eq {n : Nat} {fa : List (Fr → Bool)} {fn : List Dn} {tf : List (Fr → Addr)} {g : Addr → Option Obj} {s : Shared} (h : ∀ a, g a = s.heap.get? a) : obsS n fa fn tf g = (hookS n fa fn tf).obs s := by
  have e : g = s.heap.get? := funext h
  rw [e] <;> rfl
section
variable {fa : List (Fr → Bool)} {fn : List Dn} {tf : List (Fr → Addr)} {h : Heap} {K : Fr}
theorem SaysS.fact (c : SaysS fa fn tf h K) (i : Nat) {f : Fr → Bool} (e : fa[i]? = some f := by rfl) : f K = true := c.fa f (List.mem_of_getElem? e)
theorem SaysS.def_ (c : SaysS fa fn tf h K) (i : Nat) {d : Dn} (e : fn[i]? = some d := by rfl) : FunF K d.name d.qual d.st (d.cl K) (d.at_ K) := c.fn d (List.mem_of_getElem? e)
end
/-! ### names of the module -/
section
variable {K : Fr} {h : Heap} {mg : Str → Option Value}
def gloB (K : Fr) (xs : List Str) : Bool := xs.all fun x => eqO (PySem.W.nsIn K mainGlobals x) (some (some (.ref (ga K x))))
theorem gloB_ok (X : K.In h) (G : h.Ns mainGlobals mg) {xs : List Str} (c : gloB K xs = true) {x : Str} (hx : x ∈ xs) : mg x = some (.ref (ga K x)) := PySem.W.mg_of X G (eqO_ok (List.all_eq_true.mp c x hx))
def freeB (K : Fr) (xs : List Str) : Bool := xs.all fun x => eqO (PySem.W.nsIn K mainGlobals x) (some none)
theorem freeB_ok (X : K.In h) (G : h.Ns mainGlobals mg) {xs : List Str} (c : freeB K xs = true) {x : Str} (hx : x ∈ xs) : mg x = none := PySem.W.mg_none_of X G (eqO_ok (List.all_eq_true.mp c x hx))
def keepB (K : Fr) (xs : List Str) : Bool := xs.all fun x => PySem.W.keepIn K (.ref (ga K x))
theorem keepB_ok {xs : List Str} (c : keepB K xs = true) {x : Str} (hx : x ∈ xs) : PySem.W.keepIn K (.ref (ga K x)) = true := List.all_eq_true.mp c x hx
end
/-! ### an own error whose __init__ says super().__init__(text) and stores a field -/
def oexB (K : Fr) (C : Addr) : Bool := match K.lookup C with
  | some ⟨.type t, _, .cls cd, sl⟩ => decide (t = "type") && (decide (cd.mro.head? = some (.ref C)) && (PySem.HandSPX.refsVE cd.mro.tail && (cd.hasDict && (!cd.hasDel && (match sl.toList with
    | [_, _, _, _, some (.builtin n), _] => decide (n = "ValueError.__new__")
    | _ => false)))))
  | _ => false
theorem oexB_ok {K : Fr} {C : Addr} (h : oexB K C = true) : ∃ nm q N bs bm sn sub ab col dd k0 k1 k2 k3 k5, K.lookup C = some (excClassObj nm q C N bs bm true sn sub ab col dd k0 k1 k2 k3 k5 "ValueError.__new__") ∧ PySem.HandSPX.refsVE bm = true := by
  unfold oexB at h
  split at h
  · rename_i t dd cd sl e
    obtain ⟨h1, h⟩ := ba h
    obtain ⟨h2, h⟩ := ba h
    obtain ⟨h3, h⟩ := ba h
    obtain ⟨h4, h⟩ := ba h
    obtain ⟨h5, h6⟩ := ba h
    split at h6
    · rename_i k0 k1 k2 k3 n k5 hs
      obtain ⟨nm, bs, mro, N, q, hd, sn, sub, ab, col, hdel⟩ := cd
      have a1 : t = "type" := of_decide_eq_true h1
      have a2 : mro.head? = some (.ref C) := of_decide_eq_true h2
      have a4 : hd = true := h4
      have a5 : hdel = false := by
        cases z : hdel with
        | false => rfl
        | true =>
          have h5' : (!hdel) = true := h5
          rw [z] at h5'
          cases h5'
      have a6 : n = "ValueError.__new__" := of_decide_eq_true h6
      have a7 : sl = #[k0, k1, k2, k3, some (.builtin n), k5] := by
        have z : sl.toList.toArray = [k0, k1, k2, k3, some (.builtin n), k5].toArray := by rw [hs]
        simpa using z
      cases mro with
      | nil => cases a2
      | cons m0 bm =>
        have a8 : m0 = .ref C := Option.some.inj a2
        subst a1 a4 a5 a6 a7 a8
        exact ⟨nm, q, N, bs, bm, sn, sub, ab, col, dd, k0, k1, k2, k3, k5, e, h3⟩
    · cases h6
  · cases h
def cellB (K : Fr) (cc C : Addr) : Bool := match K.lookup cc with
  | some ⟨_, _, .cell (some (.ref D)), _⟩ => decide (D = C)
  | _ => false
theorem cellB_ok {K : Fr} {cc C : Addr} (h : cellB K cc C = true) : ∃ (cl : Value) (cld : Option Addr) (csl : Array (Option Value)), K.lookup cc = some ⟨cl, cld, .cell (some (.ref C)), csl⟩ := by
  unfold cellB at h
  split at h
  · rename_i cl cld D csl e
    rw [of_decide_eq_true h] at e
    exact ⟨cl, cld, csl, e⟩
  · cases h
def fileB (K : Fr) (c : Addr) (file : Str) : Bool := match K.lookup c with
  | some ⟨_, _, .fields vs, _⟩ => (match (vs[2]? : Option Value) with
    | some (.str fl _) => file == fl
    | _ => false)
  | _ => false
theorem fileB_ok {K : Fr} {c : Addr} {file : Str} (h : fileB K c file = true) : ∃ (oc : Value) (od : Option Addr) (vs : Array Value) (sl : Array (Option Value)) (fl : Str) (tf : Tok), K.lookup c = some ⟨oc, od, .fields vs, sl⟩ ∧ vs[2]? = some (.str fl tf) ∧ (file == fl) = true := by
  unfold fileB at h
  split at h
  · rename_i oc od vs sl e
    split at h
    · rename_i fl tf e2
      exact ⟨oc, od, vs, sl, fl, tf, e, e2, h⟩
    · cases h
  · cases h
/-- where an error's __init__ stands -/
def eInit (K : Fr) (x : Str) : Addr := ma K (ga K x) "__init__"
def errB (file : Str) (K : Fr) (x fld : Str) : Bool :=
  oexB K (ga K x) && (cellB K (cellA K (eInit K x)) (ga K x) && (fileB K (codeA K (eInit K x)) file && (PySem.W.isClsIn K (ga K x) && (eqO (PySem.W.nsIn K cStatics "thirdparty.any") (some none) &&
  (decide (PySem.W.mroIn K (ga K x) (.ref (ga K x)) = some true) && (eqO (PySem.W.ks_superIn K (ga K x) (ga K x) "__init__") (some (some (.builtin ShX.veI))) && (decide (PySem.W.subIn K (.ref (ga K x)) (.type "ValueError") = some true) &&
  (xfB K (ga K x) && (eqO (PySem.W.findIn K (.ref (ga K x)) fld) (some none) && (decide (PySem.W.exmOne K (.ref (ga K x)) (.ref (ga K x)) = some true) && (eqO (PySem.W.findIn K (.ref (ga K x)) "__init__") (some (some (.ref (eInit K x)))) &&
  (decide (PySem.W.typeIn K (.ref (eInit K x)) = some (.type "function")) && (eqO (PySem.W.findIn K (.ref (ga K x)) "__setattr__") (some (some (.builtin "object.__setattr__"))) && (decide (PySem.W.subIn K (.ref (ga K x)) (.type "BaseException") = some true) &&
  (decide (PySem.W.typeIn K (.ref (ga K x)) = some (.type "type")) && PySem.W.keepIn K (.ref (ga K x)))))))))))))))))
section
variable {K : Fr} {h : Heap} {mg : Str → Option Value} {P : Program}
/-- the pieces of errB -/
structure ErrF (file : Str) (K : Fr) (x fld : Str) : Prop where
  oex : OexC K (ga K x)
  cell : ∃ (cl : Value) (cld : Option Addr) (csl : Array (Option Value)), K.lookup (cellA K (eInit K x)) = some ⟨cl, cld, .cell (some (.ref (ga K x))), csl⟩
  file : ∃ (oc : Value) (od : Option Addr) (vs : Array Value) (sl : Array (Option Value)) (fl : Str) (tf : Tok), K.lookup (codeA K (eInit K x)) = some ⟨oc, od, .fields vs, sl⟩ ∧ vs[2]? = some (.str fl tf) ∧ (file == fl) = true
  isC : PySem.W.isClsIn K (ga K x) = true
  opq : PySem.W.nsIn K cStatics "thirdparty.any" = some none
  sup : SupCls K (ga K x) (ga K x)
  xf : XfC K (ga K x)
  no : PySem.W.findIn K (.ref (ga K x)) fld = some none
  exm : PySem.W.exmOne K (.ref (ga K x)) (.ref (ga K x)) = some true
  ini : PySem.W.findIn K (.ref (ga K x)) "__init__" = some (some (.ref (eInit K x)))
  ity : PySem.W.typeIn K (.ref (eInit K x)) = some (.type "function")
theorem errB_ok {file x fld : Str} (c : errB file K x fld = true) : ErrF file K x fld := by
  obtain ⟨c1, c⟩ := ba c
  obtain ⟨c2, c⟩ := ba c
  obtain ⟨c3, c⟩ := ba c
  obtain ⟨c4, c⟩ := ba c
  obtain ⟨c5, c⟩ := ba c
  obtain ⟨c6, c⟩ := ba c
  obtain ⟨c7, c⟩ := ba c
  obtain ⟨c8, c⟩ := ba c
  obtain ⟨c9, c⟩ := ba c
  obtain ⟨c10, c⟩ := ba c
  obtain ⟨c11, c⟩ := ba c
  obtain ⟨c12, c⟩ := ba c
  obtain ⟨c13, c⟩ := ba c
  obtain ⟨c14, c⟩ := ba c
  obtain ⟨c15, c⟩ := ba c
  obtain ⟨c16, c17⟩ := ba c
  have O : OexC K (ga K x) := ⟨oexB_ok c1, eqO_ok c14, of_decide_eq_true c15, of_decide_eq_true c16, c17⟩
  exact ⟨O, cellB_ok c2, fileB_ok c3, c4, eqO_ok c5, ⟨O, of_decide_eq_true c6, eqO_ok c7, of_decide_eq_true c8⟩, xfB_ok c9, eqO_ok c10, of_decide_eq_true c11, eqO_ok c12, of_decide_eq_true c13⟩
/-- the text of its __init__ -/
theorem err_txt {file x fld qual : Str} {st : Stmt} (E : ErrF file K x fld) (D : FunF K "__init__" qual st [(("__class__" : Str), cellA K (eInit K x))] (eInit K x)) (hf : P.main.file = file) (sup : mg "super" = none)
    (h1 : ∃ ar : Arg, ((defArgs st).posonlyargs ++ (defArgs st).args).head? = some ar ∧ ar.arg = ("self" : Str)) (h2 : (P.main.scope.names.lookup ("super" : Str)).isSome = false)
    (h3 : (defScope st).names.lookup ("super" : Str) = some .globalImplicit) (h4 : (defScope st).names.lookup ("__class__" : Str) = some .free) (h5 : (defScope st).names.lookup ("self" : Str) = some .local) :
    SupTxt P K mg ⟨"__init__", qual, defArgs st, defBody st, defScope st, [(("__class__" : Str), cellA K (eInit K x))], codeA K (eInit K x)⟩ (eInit K x) (cellA K (eInit K x)) (ga K x) := by
  obtain ⟨oc, od, doc, pm, an, ct, osl, lk, hcd⟩ := D.ex
  exact ⟨⟨oc, od, doc, pm, an, ct, osl, lk⟩, hcd, E.cell, rfl, by rw [hf]; exact E.file, h1, sup, h2, h3, h4, h5, E.isC, E.opq⟩
end
/-! ### an own error without a field, a property, an operator -/
def ernB (K : Fr) (x : Str) : Bool := PySem.W.excIn K (ga K x) veBase "ValueError.__new__" && (PySem.W.keepIn K (.ref (ga K x)) && (decide (PySem.W.subIn K (.ref (ga K x)) (.type "BaseException") = some true) && (decide (PySem.W.typeIn K (.ref (ga K x)) = some (.type "type")) &&
  decide (PySem.W.exmOne K (.ref (ga K x)) (.ref (ga K x)) = some true))))
/-- the getter of a property -/
def getA (K : Fr) (C : Addr) (m : Str) : Addr := He5.wf K C "property" m
def propB (K : Fr) (C : Addr) (m : Str) : Bool := eqO (PySem.W.findIn K (.ref C) m) (some (some (.ref (ma K C m)))) && (eqO (PySem.W.specialIn K (.ref (ma K C m)) "__get__") (some (some (.builtin "property.__get__"))) && (decide (PySem.W.takesIn K (.ref (ma K C m)) = some true) &&
  (match PySem.W.recIn K (ma K C m) "property" with
    | some (.ref _ :: _) => true
    | _ => false)))
theorem propB_ok {K : Fr} {C : Addr} {m : Str} (c : propB K C m = true) : PropOf K C m (ma K C m) (getA K C m) := by
  obtain ⟨c1, c⟩ := ba c
  obtain ⟨c2, c⟩ := ba c
  obtain ⟨c3, c4⟩ := ba c
  refine ⟨eqO_ok c1, eqO_ok c2, of_decide_eq_true c3, ?_⟩
  unfold getA He5.wf
  split at c4
  · rename_i f r e
    exact ⟨r, by rw [e]⟩
  · cases c4
/-- a def of the class under a name that Python itself looks up -/
def dunB (K : Fr) (C : Addr) (m : Str) : Bool := eqO (PySem.W.findIn K (.ref C) m) (some (some (.ref (ma K C m)))) && (PySem.W.isFn K (.ref (ma K C m)) && (PySem.W.fnIn K (ma K C m) && PySem.W.keepIn K (.ref (ma K C m))))
structure DunF (K : Fr) (C : Addr) (m : Str) : Prop where
  at_ : PySem.W.findIn K (.ref C) m = some (some (.ref (ma K C m)))
  isF : PySem.W.isFn K (.ref (ma K C m)) = true
  fn : PySem.W.fnIn K (ma K C m) = true
  kp : PySem.W.keepIn K (.ref (ma K C m)) = true
theorem dunB_ok {K : Fr} {C : Addr} {m : Str} (c : dunB K C m = true) : DunF K C m := by
  obtain ⟨c1, c⟩ := ba c
  obtain ⟨c2, c⟩ := ba c
  obtain ⟨c3, c4⟩ := ba c
  exact ⟨eqO_ok c1, c2, c3, c4⟩
theorem DunF.meth {K : Fr} {C : Addr} {m : Str} (d : DunF K C m) : Meth K C m (ma K C m) := ⟨d.at_, d.isF, d.kp⟩
theorem DunF.mkr {K : Fr} {C : Addr} (d : DunF K C "__init__") (m : PySem.W.makesIn K C = true) (k : PySem.W.keepIn K (.ref C) = true) : Mk K C (ma K C "__init__") := ⟨m, d.at_, d.isF, k⟩
theorem DunF.callO {K : Fr} {C : Addr} (d : DunF K C "__call__") : StX.CallO K C (ma K C "__call__") := ⟨d.at_, d.isF, d.fn⟩
/-! ### functions without a closure -/
section
variable {K : Fr} {x qual : Str} {st : Stmt} {f : Addr}
/-- its object -/
theorem FunF.funW (F : FunF K x qual st [] f) (kp : PySem.W.keepIn K (.ref f) = true) : ∃ fd, L2.Fun K x qual st f fd ∧ (∀ ps : List Str, (∀ (kV doc pm : Value) (an : Option Addr) (cdv ct : Value) (us : List Value), us.length = ps.length → bindArgs (PySem.W.fnOf x qual (defArgs st) (defBody st) (defScope st) .none kV doc pm an cdv ct) ⟨us, []⟩ = pure (ps.zip us)) → Binds K fd ps []) ∧
    ∀ ps : List Str, (∀ (kV doc pm : Value) (an : Option Addr) (cdv ct : Value) (us : List Value), us.length = ps.length → bindArgs (PySem.W.fnOf x qual (defArgs st) (defBody st) (defScope st) .none kV doc pm an cdv ct) ⟨us, []⟩ = pure (ps.zip us)) → ∀ (s : Shared) (us : List Value), us.length = ps.length → BindsTo s fd ⟨us, []⟩ (ps.zip us) := by
  obtain ⟨oc, od, doc, pm, an, ct, osl, lk, hcd⟩ := F.ex
  exact ⟨_, ⟨⟨oc, od, .none, doc, pm, an, _, ct, osl, rfl, lk, hcd⟩, kp⟩, fun ps h => .all (h .none doc pm an _ ct), fun ps h s us hl => .of_eq (h .none doc pm an _ ct us hl)⟩
end
end Shh
set_option Elab.async false
set_option linter.all false
set_option maxRecDepth 100000
set_option maxHeartbeats 2000000
/-! A list comprehension whose element may rest on what the block's start knows of the heap itself. -/
namespace Sho
open PySem PySem.Spec PyProof.Rows L2
section
variable {X : Cx} {scope : Scope} {fp : List Addr} {own : List (Str × Nat)}
/-- the block's environment, made at s -/
abbrev blkEnv (X : Cx) (scope : Scope) (s : Shared) : Env := compEnvC scope (cellsFrom (s.heap.objs.size + 1) scope.names (cloFrom X.env.cells scope.names [])) s.heap.objs.size X.env
abbrev blkS (scope : Scope) (s : Shared) : Shared := { s with heap := pushCells (s.heap.push { cls := .type "dict", data := .dict #[] }) scope.names }
/-- out of the block: its state is one of the def's -/
theorem blk_out {pins : List (Addr × Obj)} {σ σ' : L2.St} {H H' : Hp} {s s' : Shared} (I : Inv X pins σ H s) (hfp : ∀ b ∈ fp, FpOk X pins H b)
    (J : Inv (X.blk s H scope (blkEnv X scope s) fp) [] σ' H' s') : Inv X pins σ H' s' ∧ ∃ m, s'.heap.Ns s.heap.objs.size m ∧ FpOk X pins H' s.heap.objs.size := by
  obtain ⟨m, hm, _⟩ := J.loc
  refine ⟨I.call' (ch := fp) J.os J.base J.hok J.bare fun b hb => ?_, m, hm, I.fpOk (Nat.le_refl _) J.free⟩
  obtain ⟨_, z1, z2, z3, z4, z5⟩ := hfp b hb
  exact ⟨z3, z1, z4, z5⟩
/-- a tracked list that grows -/
theorem grow {pins : List (Addr × Obj)} {σ : L2.St} {H : Hp} {s : Shared} (I : Inv X pins σ H s) :
    Inv X pins σ (upd H s.heap.objs.size (.lst [])) { s with heap := s.heap.push { cls := .type "list", data := .seq ([] : List Value).toArray } } :=
  I.laid (t' := s.toks) (fun b o e => Heap.get?_push_of_some _ e) (Nat.le_refl _) ⟨Nat.zero_le _, [], 0, .nil, Heap.get?_push_size _ rfl⟩

/-- the block's loop, by the readings of its target, tests and element -/
theorem lc_loop {B : Cx} {R : Result → Shared → Prop} {elt tg iter : Expr} {ifs : List Expr} {pos : Pos} {g : TG} {tt : TT} {te : TE} {J : It} {it D : Addr} {tn : Nat → Heap → Prop} {W : Nat → Nat → Hp → Prop} {σ : L2.St} {vs : List Nat}
    (hc : B.calm = true) (hxe : B.xe = fun _ _ => False) (T : Turn B.prog B.w B.K tg J fp it tn) (pg : PG B tg g) (pt : PTs B ifs tt) (pe : PE B elt te)
    (fpok : ∀ (pins : List (Addr × Obj)) (τ : L2.St) (H : Hp) (s : Shared), Inv B [] τ H s → (∀ b ∈ fp, H b = none) → ∀ b ∈ fp, FpOk B [] H b)
    (turn : ∀ (i m : Nat) (H : Hp), W i m H → (J.stop i H ∧ ∀ s, Inv B [] σ H s → R (.ok .next) s) ∨
      (J.go i H ∧ ∃ Nx : Hp → Prop, (∀ H', Nx H' → ∃ m', m' < m ∧ W (i + 1) m' H') ∧ ∀ x H', J.yld i H x H' → g x σ H' fun σ2 H2 => wipe σ2 vs = σ ∧ tt σ2 H2 fun b H3 =>
        if b = true then te σ2 H3 fun y H4 => ∃ acc, H4 D = some (.lst acc) ∧ acc.length < sizeLine ∧ Nx (upd H4 D (.lst (acc ++ [y]))) else Nx H3))
    {m : Nat} {H : Hp} {s : Shared} (I : Inv B [] σ H s) (st : tn 0 s.heap) (hn : ∀ b ∈ fp, H b = none) (w : W 0 m H) :
    codeAny (model B.prog B.w) B.A (.compLoop (.ListComp elt [⟨tg, iter, ifs, 0⟩] scope pos) 0 (.ref it) (.ref D) B.env) R s := by
  refine compLoop_any (fun n s' => ∃ i H', Inv B [] σ H' s' ∧ tn i s'.heap ∧ (∀ b ∈ fp, H' b = none) ∧ W i n H') ?_ m ⟨0, H, I, st, hn, w⟩
  rintro n s5 ⟨i, H5, I5, st5, n5, w5⟩
  rcases turn i n H5 w5 with ⟨stop, fin⟩ | ⟨go, Nx, less, step⟩
  · refine thnF (T.done B rfl rfl rfl hc i [] s5 σ H5 (fun _ _ => False) I5 (fpok [] _ _ _ I5 n5) st5 stop) fun r s6 x => ?_
    obtain ⟨rfl, I6⟩ := x
    exact fin _ I6
  · refine thnF (T.item B rfl rfl rfl hc i [] s5 σ H5 (fun _ _ => False) I5 (fpok [] _ _ _ I5 n5) st5 go) fun r s6 x => ?_
    obtain ⟨u, rfl, x⟩ := x
    refine thnF x fun _ s7 y => ?_
    obtain ⟨v, H7, I7, rv, yl, st7, n7⟩ := y
    have P7 := I7.pinned (fpok [] _ _ _ I7 n7) (T.obj _ _ st7)
    have pg1 := pg.run _ s7 σ H7 v u _ P7 rv (step v H7 yl)
    rw [hxe] at pg1
    refine thnF pg1 fun _ s8 x8 => ?_
    obtain ⟨σ8, H8, I8, back, q8⟩ := x8
    have pt1 := pt.run _ s8 σ8 H8 _ I8 q8
    rw [hxe] at pt1
    refine thnF pt1 fun b s9 x9 => ?_
    obtain ⟨H9, I9, q9⟩ := x9
    have next : ∀ (H' : Hp) (s' : Shared), Inv B ([] ++ pinsAt fp s7.heap) σ8 H' s' → Nx H' → ∃ m, m < n ∧ ∃ i H', Inv B [] σ H' s' ∧ tn i s'.heap ∧ (∀ b ∈ fp, H' b = none) ∧ W i m H' := fun H' s' I' nx => by
      obtain ⟨m', lt, w'⟩ := less H' nx
      have stay : ∀ b ∈ fp, ∀ o, s7.heap.get? b = some o → s'.heap.get? b = some o ∧ H' b = none := fun b hb o e => by
        have z := I'.pin (b, o) (List.mem_append_right _ (List.mem_append_right _ (mem_pinsAt hb e)))
        exact ⟨z.1, z.2.1⟩
      have lens : σ.length = σ8.length := by rw [← back, wipe_length]
      refine ⟨m', lt, i + 1, H', (I'.unpinned (pins := [])).weak lens (fun j v e => ?_), T.keep _ _ _ st7 fun b hb o e => (stay b hb o e).1, fun b hb => ?_, w'⟩
      · rw [← back] at e
        exact (wipe_some e).1
      · obtain ⟨o, e, _⟩ := T.obj _ _ st7 b hb
        exact (stay b hb o e).2
    cases b with
    | false =>
      rw [if_neg Bool.false_ne_true] at q9
      rw [if_neg Bool.false_ne_true]
      exact next _ _ I9 q9
    | true =>
      rw [if_pos rfl] at q9
      rw [if_pos rfl]
      have pe1 := pe.run _ s9 σ8 H9 _ I9 q9
      rw [hxe] at pe1
      refine thnF pe1 fun z s10 x10 => ?_
      obtain ⟨yv, H10, I10, r10, acc, hD, hz, nx⟩ := x10
      exact app_ok (X := B) I10 hD hz r10 fun s11 I11 => next _ _ I11 nx
/-- P: what the start of the block knows, of the slots and of the state; te: the element's reading, by the slots -/
theorem pe_lcS {P : L2.St → Shared → Hp → Prop} {elt tg iter : Expr} {ifs : List Expr} {pos : Pos} {wi : TI} {g : TG} {tt : TT} {te : L2.St → TE} (hc : X.calm = true) (hN : X.N.Nodup) (hi : PI X tg iter wi) (ok : BlkOk X.N X.env.scope scope own)
    (hP : ∀ (pins : List (Addr × Obj)) (σ : L2.St) (H : Hp) (s : Shared), Inv X pins σ H s → P σ s H)
    (hg : ∀ (s : Shared) (H : Hp) (C : Addr) (cl : List (Str × Addr)) (fp : List Addr), PG (X.blk s H scope (compEnvC scope cl C X.env) fp) tg g)
    (ht : ∀ (s : Shared) (H : Hp) (C : Addr) (cl : List (Str × Addr)) (fp : List Addr), PTs (X.blk s H scope (compEnvC scope cl C X.env) fp) ifs tt)
    (he : ∀ (σ : L2.St) (s : Shared) (H : Hp) (C : Addr) (cl : List (Str × Addr)) (fp : List Addr), P σ s H → (∀ b ∈ fp, ∃ o, s.heap.get? b = some o ∧ ∀ v, o.data ≠ .cell v) → PE (X.blk s H scope (compEnvC scope cl C X.env) fp) elt (te σ)) (hs : ∀ x, foldedSetIterable iter X.env x = pure x := by intro _; rfl) :
    PE X (.ListComp elt [⟨tg, iter, ifs, 0⟩] scope pos) (fun σ H Q => tLc wi g tt (te σ) (own.map (·.2)) σ H Q) := by
  refine ⟨fun pins s σ H Q I h => ?_⟩
  rw [eval_ListComp]
  have clo : ∀ y ∈ scope.names, y.2 = .free → ∃ c, X.env.cells.lookup y.1 = some c := fun y hy e => (ok.free y hy e).elim (fun k => I.ok.has _ (.inl k)) fun k => I.ok.has _ (.inr k)
  refine wpAny_comprehension_free (use := none) rfl hs (closure_ok clo) ok.kind (fun y hy e => (ok.uniq y hy).trans (congrArg some e))
    (thn (hi.run pins s σ H _ I h) fun xv s1 hx => thn hx fun itv s2 h2 => ?_)
  obtain ⟨it, fp, tn, J, H2, rfl, I2, T, st2, f2, q⟩ := h2
  refine wpAny_newObj_type (newEnv_comp ?_) (show 0 ≤ sizeLine by decide)
  have hDn : H2 s2.heap.objs.size = none := I2.hok.fresh (Nat.le_refl _)
  obtain ⟨W, ⟨m0, w0⟩, turn⟩ := q _ hDn
  have I3 := grow I2
  have old : ∀ b ∈ fp, b < s2.heap.objs.size := fun b hb => (T.obj _ _ st2 b hb).elim fun o e => Heap.lt_size e.1
  generalize hD : s2.heap.objs.size = D at *
  generalize hs3 : ({ s2 with heap := s2.heap.push { cls := .type "list", data := .seq ([] : List Value).toArray } } : Shared) = s3 at *
  have k3 : ∀ b o, s2.heap.get? b = some o → s3.heap.get? b = some o := fun b o e => by
    rw [← hs3]
    exact Heap.get?_push_of_some _ e
  have z3 : s3.heap.objs.size = D + 1 := by
    rw [← hs3, ← hD]
    exact Heap.size_push ..
  have st3 : tn 0 s3.heap := T.keep _ _ _ st2 fun b _ o e => k3 b o e
  have f3 : ∀ b ∈ fp, FpOk X pins (upd H2 D (.lst [])) b ∧ b < s3.heap.objs.size := fun b hb =>
    ⟨⟨(upd_ne (Nat.ne_of_lt (old b hb))).trans (f2 b hb).1, (f2 b hb).2⟩, by rw [z3]; exact Nat.lt_succ_of_lt (old b hb)⟩
  generalize hH3 : upd H2 D (.lst []) = H3 at *
  have know := hP pins σ H3 s3 I3
  have I4 := block_start I3 ok hN f3
  have pe := he σ s3 H3 s3.heap.objs.size (cellsFrom (s3.heap.objs.size + 1) scope.names (cloFrom X.env.cells scope.names [])) fp know (T.obj _ _ st3)
  have pg := hg s3 H3 s3.heap.objs.size (cellsFrom (s3.heap.objs.size + 1) scope.names (cloFrom X.env.cells scope.names [])) fp
  have pt := ht s3 H3 s3.heap.objs.size (cellsFrom (s3.heap.objs.size + 1) scope.names (cloFrom X.env.cells scope.names [])) fp
  show codeAny _ _ (.compStart (.ListComp elt [⟨tg, iter, ifs, 0⟩] scope pos) 0 (.ref it) (.ref D) (blkEnv X scope s3)) (compPost (model X.prog X.w) X.A X.xe none _ (.ref D) s3.heap.objs.size) (blkS scope s3)
  have st4 : tn 0 (blkS scope s3).heap := T.keep _ _ _ st3 fun b _ o e => pushCells_keeps _ _ _ _ (Heap.get?_push_of_some _ e)
  have nfp : ∀ b ∈ fp, H3 b = none := fun b hb => (f3 b hb).1.1
  have loop : codeAny (model X.prog X.w) X.A (.compLoop (.ListComp elt [⟨tg, iter, ifs, 0⟩] scope pos) 0 (.ref it) (.ref D) (blkEnv X scope s3))
      (compPost (model X.prog X.w) X.A X.xe none (EP X pins σ Q) (.ref D) s3.heap.objs.size) (blkS scope s3) := by
    refine lc_loop (B := X.blk s3 H3 scope (blkEnv X scope s3) fp) (σ := wipe σ (own.map (·.2))) (vs := own.map (·.2)) (W := W) hc rfl T pg pt pe (fun _ τ H' s' J' n' b hb => ?_) (fun i m H' w' => ?_) I4 st4 nfp w0
    · refine ⟨n' b hb, (J'.ok.exf b hb).1, J'.ok.exfs b hb, .inl hb, fun x c e => (J'.ok.exf b hb).2 x c e, fun p hp => ?_⟩
      exact absurd (show p ∈ ([] : List (Addr × Obj)) ++ [] from hp) (by simp)
    · rcases turn i m H' w' with ⟨a, b⟩ | ⟨a, Nx, b, c⟩
      · refine .inl ⟨a, fun s' J' => ?_⟩
        obtain ⟨I6, m6, ns6, f6⟩ := blk_out I3 (fun b hb => (f3 b hb).1) J'
        obtain ⟨f0, f1, f2, f3', f4, f5⟩ := f6
        exact ⟨m6, ns6, fun h'' sb => ⟨.ref D, H', I6.turned (t' := s'.toks) (fun b o hb e => (sb.2 b hb).trans e) f0 f1 f3' f4 f5, rfl, b⟩⟩
      · exact .inr ⟨a, Nx, b, c⟩
  exact codeAny_compStart_list loop (T.self X.A 0 _ _ _ st4 loop)
end

/-! ### what a comprehension gathers -/
section
/-- the values of the first n turns -/
def gather (f : Nat → Option V) (n : Nat) : List V := (List.range n).filterMap f
theorem gather_zero (f : Nat → Option V) : gather f 0 = [] := rfl
theorem gather_some {f : Nat → Option V} {n : Nat} {y : V} (h : f n = some y) : gather f (n + 1) = gather f n ++ [y] := by
  unfold gather
  rw [List.range_succ, List.filterMap_append]
  simp [h]
theorem gather_none {f : Nat → Option V} {n : Nat} (h : f n = none) : gather f (n + 1) = gather f n := by
  unfold gather
  rw [List.range_succ, List.filterMap_append]
  simp [h]
theorem gather_len (f : Nat → Option V) (n : Nat) : (gather f n).length ≤ n := by
  unfold gather
  exact Nat.le_trans (List.length_filterMap_le ..) (by simp)
/-- over a list: the items kept, each made anew -/
theorem gather_take {α : Type} (xs : List α) (p : α → Option V) : ∀ n, n ≤ xs.length → gather (fun i => (xs[i]?).bind p) n = (xs.take n).filterMap p
  | 0, _ => rfl
  | n + 1, h => by
    have ih := gather_take xs p n (by omega)
    have hn : xs[n]? = some (xs[n]'(by omega)) := List.getElem?_eq_getElem (by omega)
    rw [List.take_add_one, hn, List.filterMap_append, ← ih]
    cases e : p (xs[n]'(by omega)) with
    | none =>
      rw [gather_none (by rw [hn]; exact e)]
      simp [e]
    | some y =>
      rw [gather_some (y := y) (by rw [hn]; exact e)]
      simp [e]
theorem gather_list {α : Type} (xs : List α) (p : α → Option V) : gather (fun i => (xs[i]?).bind p) xs.length = xs.filterMap p := by
  rw [gather_take xs p _ (Nat.le_refl _), List.take_length]
theorem gather_map {α : Type} (xs : List α) (f : α → V) : gather (fun i => (xs[i]?).map f) xs.length = xs.map f := by
  have e : (fun i : Nat => (xs[i]?).map f) = fun i : Nat => (xs[i]?).bind fun x => some (f x) := by
    funext i
    cases xs[i]? <;> rfl
  rw [e, gather_list]
  simp
theorem gather_fn (f : Nat → V) (n : Nat) : gather (fun i => some (f i)) n = (List.range n).map f := by
  unfold gather
  simp
/-- a comprehension whose turns leave what is known: f i, what the i-th turn gives -/
theorem lc_gather {J : It} {n : Nat} {G : Hp → Prop} {Y : Nat → Hp → V → Hp → Prop} (w : Walk J n G Y) {g : TG} {tt : TT} {te : TE} {vs : List Nat} {σ : L2.St} {H1 : Hp} {D : Addr} {Qd : Hp → Prop} (f : Nat → Option V) (hD : H1 D = none) (hz : n ≤ sizeLine)
    (hG : ∀ H, Same H1 H → G H)
    (hs : ∀ i x H H', i < n → Same H1 H → Y i H x H' → ∀ R : Option V → Hp → Prop, (∀ H4, Same H H4 → R (f i) H4) →
      g x (wipe σ vs) H' fun σ2 H2 => wipe σ2 vs = wipe σ vs ∧ tt σ2 H2 fun b H3 => if b = true then te σ2 H3 fun y H4 => R (some y) H4 else R none H3)
    (hd : ∀ H, Same H1 H → H D = some (.lst (gather f n)) → Qd H) :
    ∃ W : Nat → Nat → Hp → Prop, (∃ m, W 0 m (upd H1 D (.lst []))) ∧ ∀ i m H, W i m H →
      (J.stop i H ∧ Qd H) ∨ (J.go i H ∧ ∃ Nx : Hp → Prop, (∀ H', Nx H' → ∃ m', m' < m ∧ W (i + 1) m' H') ∧ ∀ x H', J.yld i H x H' → g x (wipe σ vs) H' fun σ2 H2 => wipe σ2 vs = wipe σ vs ∧ tt σ2 H2 fun b H3 =>
        if b = true then te σ2 H3 fun y H4 => ∃ acc, H4 D = some (.lst acc) ∧ acc.length < sizeLine ∧ Nx (upd H4 D (.lst (acc ++ [y]))) else Nx H3) := by
  have s0 : ∀ o, Same H1 (upd H1 D o) := fun o b u e => by rw [upd_ne (ne_of_none e hD)]; exact e
  refine lc_it w (fun i H => Same H1 H ∧ H D = some (.lst (gather f i))) ⟨s0 _, upd_same⟩ (fun i H _ p => hG H p.1) (fun i x H H' hi p y => ?_) fun H p => hd H p.1 p.2
  obtain ⟨p1, p2⟩ := p
  refine hs i x H H' hi p1 y (fun oy H4 => match oy with
    | some y => ∃ acc, H4 D = some (.lst acc) ∧ acc.length < sizeLine ∧ Same H1 (upd H4 D (.lst (acc ++ [y]))) ∧ upd H4 D (.lst (acc ++ [y])) D = some (.lst (gather f (i + 1)))
    | none => Same H1 H4 ∧ H4 D = some (.lst (gather f (i + 1)))) fun H4 q => ?_
  have p4 := p1.trans q
  cases e : f i with
  | none => exact ⟨p4, by rw [gather_none e]; exact q _ _ p2⟩
  | some y =>
    refine ⟨gather f i, q _ _ p2, Nat.lt_of_le_of_lt (gather_len f i) (Nat.lt_of_lt_of_le hi hz), fun b u z => ?_, by rw [upd_same, gather_some e]⟩
    rw [upd_ne (ne_of_none z hD)]
    exact p4 b u z
/-- .. without tests -/
theorem lc_map {J : It} {n : Nat} {G : Hp → Prop} {Y : Nat → Hp → V → Hp → Prop} (w : Walk J n G Y) {g : TG} {te : TE} {vs : List Nat} {σ : L2.St} {H1 : Hp} {D : Addr} {Qd : Hp → Prop} (f : Nat → Option V) (hD : H1 D = none) (hz : n ≤ sizeLine)
    (hG : ∀ H, Same H1 H → G H)
    (hs : ∀ i x H H', i < n → Same H1 H → Y i H x H' → ∀ R : V → Hp → Prop, (∀ y H4, Same H H4 → f i = some y → R y H4) →
      g x (wipe σ vs) H' fun σ2 H2 => wipe σ2 vs = wipe σ vs ∧ te σ2 H2 R) (hf : ∀ i, i < n → ∃ y, f i = some y)
    (hd : ∀ H, Same H1 H → H D = some (.lst (gather f n)) → Qd H) :
    ∃ W : Nat → Nat → Hp → Prop, (∃ m, W 0 m (upd H1 D (.lst []))) ∧ ∀ i m H, W i m H →
      (J.stop i H ∧ Qd H) ∨ (J.go i H ∧ ∃ Nx : Hp → Prop, (∀ H', Nx H' → ∃ m', m' < m ∧ W (i + 1) m' H') ∧ ∀ x H', J.yld i H x H' → g x (wipe σ vs) H' fun σ2 H2 => wipe σ2 vs = wipe σ vs ∧ tYes σ2 H2 fun b H3 =>
        if b = true then te σ2 H3 fun y H4 => ∃ acc, H4 D = some (.lst acc) ∧ acc.length < sizeLine ∧ Nx (upd H4 D (.lst (acc ++ [y]))) else Nx H3) := by
  refine lc_gather w f hD hz hG (fun i x H H' hi s y R k => ?_) hd
  have z := hs i x H H' hi s y (fun y H4 => R (some y) H4) fun y H4 q e => by
    have := k H4 q
    rw [e] at this
    exact this
  exact z
/-- .. whose turns make new things: Rl i y H, what holds of the i-th -/
theorem lc_rel {J : It} {n : Nat} {G : Hp → Prop} {Y : Nat → Hp → V → Hp → Prop} (w : Walk J n G Y) {g : TG} {te : TE} {vs : List Nat} {σ : L2.St} {H1 : Hp} {D : Addr} {Qd : Hp → Prop} (Rl : Nat → V → Hp → Prop) (hD : H1 D = none) (hz : n ≤ sizeLine)
    (hG : ∀ H, Same H1 H → G H) (stable : ∀ i y H H', (∀ b xs, H b = some (.tup xs) → H' b = some (.tup xs)) → Rl i y H → Rl i y H')
    (hs : ∀ i x H H', i < n → Same H1 H → Y i H x H' → ∀ R : V → Hp → Prop, (∀ y H4, Same H H4 → Rl i y H4 → R y H4) →
      g x (wipe σ vs) H' fun σ2 H2 => wipe σ2 vs = wipe σ vs ∧ te σ2 H2 R)
    (hd : ∀ H ys, Same H1 H → H D = some (.lst ys) → ys.length = n → (∀ i y, ys[i]? = some y → Rl i y H) → Qd H) :
    ∃ W : Nat → Nat → Hp → Prop, (∃ m, W 0 m (upd H1 D (.lst []))) ∧ ∀ i m H, W i m H →
      (J.stop i H ∧ Qd H) ∨ (J.go i H ∧ ∃ Nx : Hp → Prop, (∀ H', Nx H' → ∃ m', m' < m ∧ W (i + 1) m' H') ∧ ∀ x H', J.yld i H x H' → g x (wipe σ vs) H' fun σ2 H2 => wipe σ2 vs = wipe σ vs ∧ tYes σ2 H2 fun b H3 =>
        if b = true then te σ2 H3 fun y H4 => ∃ acc, H4 D = some (.lst acc) ∧ acc.length < sizeLine ∧ Nx (upd H4 D (.lst (acc ++ [y]))) else Nx H3) := by
  have s0 : ∀ o, Same H1 (upd H1 D o) := fun o b u e => by rw [upd_ne (ne_of_none e hD)]; exact e
  refine lc_it w (fun i H => Same H1 H ∧ ∃ ys, H D = some (.lst ys) ∧ ys.length = i ∧ ∀ j y, ys[j]? = some y → Rl j y H) ⟨s0 _, [], upd_same, rfl, fun j y e => by simp at e⟩ (fun i H _ p => hG H p.1) (fun i x H H' hi p y => ?_) fun H p => ?_
  · obtain ⟨p1, ys, p2, p3, p4⟩ := p
    have z := hs i x H H' hi p1 y (fun y H4 => ∃ acc, H4 D = some (.lst acc) ∧ acc.length < sizeLine ∧ Same H1 (upd H4 D (.lst (acc ++ [y]))) ∧
      ∃ ys, upd H4 D (.lst (acc ++ [y])) D = some (.lst ys) ∧ ys.length = i + 1 ∧ ∀ j y', ys[j]? = some y' → Rl j y' (upd H4 D (.lst (acc ++ [y])))) fun y H4 q r => by
        have e4 := q _ _ p2
        have tups : ∀ o b xs, H4 b = some (.tup xs) → upd H4 D o b = some (.tup xs) := fun o b xs e => by
          by_cases hb : b = D
          · rw [hb, e4] at e
            cases e
          · rw [upd_ne hb]
            exact e
        refine ⟨ys, e4, by rw [p3]; exact Nat.lt_of_lt_of_le hi hz, fun b u e => by rw [upd_ne (ne_of_none e hD)]; exact (p1.trans q) b u e, ys ++ [y], upd_same, by simp [p3], fun j y' e => ?_⟩
        by_cases hj : j < ys.length
        · rw [List.getElem?_append_left hj] at e
          exact stable j y' H4 _ (tups _) (stable j y' H H4 (fun b xs e => q _ _ e) (p4 j y' e))
        · rw [List.getElem?_append_right (by omega)] at e
          have ej : j = ys.length := by
            have := (List.getElem?_eq_some_iff.mp e).1
            simp at this
            omega
          subst ej
          simp at e
          subst e
          rw [p3]
          exact stable _ _ H4 _ (tups _) r
    exact z
  · obtain ⟨p1, ys, p2, p3, p4⟩ := p
    exact hd H ys p1 p2 p3 p4
end
end Sho
set_option Elab.async false
set_option linter.all false
set_option maxRecDepth 100000
set_option maxHeartbeats 2000000
/-! Lambdas as objects that are known: made (with a default or without), called. -/
namespace Sho
open PySem PySem.Spec PyProof.Rows L2 LamX NdefX

/-- a lambda's words: those of a def without a body, its expression, its defaults -/
structure LF where
  F : NF
  e : Expr
  dV : Value
abbrev LF.fd (Z : LF) (pm ctv : Value) : FuncData :=
  { PySem.W.kla_fn Z.F.name Z.F.qual Z.F.params Z.e Z.F.scope Z.F.cl pm (.ref Z.F.c) ctv with defaults := Z.dV }
/-- the object at f is that lambda -/
def LamO (f : Addr) (Z : LF) : HO :=
  .ext fun g => ∃ pm ctv : Value, g.get? f = some (({ cls := .type "function", data := .func (Z.fd pm ctv) }) : Obj)
theorem lamO_ne {f : Addr} {Z : LF} (qs : Array Value) : LamO f Z ≠ .tbl qs := fun h => nomatch h
theorem lamO_at {P : Program} {w : World} {H : Hp} {h : Heap} {f : Addr} {Z : LF} (ok : HOk P w H h) (hf : H f = some (LamO f Z)) :
    ∃ pm ctv : Value, h.get? f = some (({ cls := .type "function", data := .func (Z.fd pm ctv) }) : Obj) := by
  obtain ⟨x, _, _⟩ := ok f _ hf
  exact x
/-- nothing that was known is forgotten, but for the tables -/
structure Grows (T : List (Addr × Str)) (H H1 : Hp) : Prop where
  ext : ExtN H H1
  tab : Tabs T H → Tabs T H1
theorem Grows.rfl' {T : List (Addr × Str)} (H : Hp) : Grows T H H := ⟨ExtN.refl H, id⟩
theorem Grows.trans {T : List (Addr × Str)} {H H1 H2 : Hp} (a : Grows T H H1) (b : Grows T H1 H2) : Grows T H H2 := ⟨a.ext.trans b.ext, fun t => b.tab (a.tab t)⟩
theorem Grows.upd {T : List (Addr × Str)} {H : Hp} {p : Addr} {o : HO} (hp : H p = none) : Grows T H (L2.upd H p o) := by
  have e : ∀ b u, H b = some u → L2.upd H p o b = some u := fun b u q => (upd_ne (ne_of_none q hp)).trans q
  exact ⟨ExtN.of e, fun t => Tabs.ext t e⟩
/-- the words of a lambda that is made in X -/
abbrev mkLF (X : Cx) (params : Arguments) (body : Expr) (scope : Scope) (c' : Addr) (dV : Value) : LF :=
  ⟨⟨"<lambda>", X.env.qual ++ "<lambda>", params, [], scope, cloFrom X.env.cells scope.names [], c'⟩, body, dV⟩
section
variable {M : Model} {A : Around} {E : Value → Shared → Prop} {s : Shared}
/-- the making's end, the code object by a premise -/
theorem tail_d {name qual : Str} {params : Arguments} {body : Expr} {scope : Scope} {env : Env} {dV : Value} {pos : Pos} {fl : Nat} {clos : List (Str × Addr)} {mg : Str → Option Value} {Pl : Addr} {Q : Value → Shared → Prop}
    (hcl : closureFor scope env = pure clos) (hge : env.globals = mainGlobals)
    (h : ∀ h1 ctv, (∀ b o, s.heap.get? b = some o → h1.get? b = some o) → s.heap.objs.size ≤ h1.objs.size →
      wpAny M A (functionCode env pos fl name qual params scope (.expr body)) (fun cv s2 => s2.heap.Ns mainGlobals mg ∧ s2.heap.BuiltinsAt mg Pl ∧
        Q (.ref s2.heap.objs.size) { s2 with heap := s2.heap.push { cls := .type "function", data := .func { PySem.W.kla_fn name qual params body scope clos ((mg "__name__").getD .none) cv ctv with defaults := dV } } }) E { s with heap := h1 }) :
    wpAny M A (makeTail name qual params (.expr body) scope env dV .none none pos fl) Q E s := by
  unfold makeTail
  rw [hcl]
  refine wpAny_bind (wpAny_pure ?_)
  cases clos with
  | nil =>
    simp only [List.isEmpty_nil, if_true]
    refine wpAny_bind (wpAny_pure (wpAny_bind (wpAny_mono (h s.heap .none (fun _ _ e => e) (Nat.le_refl _)) (fun cv s2 x => ?_) fun _ _ x => x)))
    obtain ⟨g2, ⟨bm, ob, b1, b2, _, _, b5, b6, b7, b8⟩, q⟩ := x
    rw [hge]
    exact wpAny_bind (wpAny_builtinsFor g2 b1 b2 b5 b6 b7 b8 (wpAny_bind (wpAny_nsGet g2 (wpAny_bind (wpAny_pure (wpAny_newObj_type q (by size_fits)))))))
  | cons c r =>
    simp only [List.isEmpty_cons, Bool.false_eq_true, if_false]
    refine wpAny_bind (wpAny_newTextTuple (wpAny_bind (wpAny_mono (h _ (.ref s.heap.objs.size) (fun _ _ e => Heap.get?_push_of_some _ e) (by rw [Heap.size_push]; omega)) (fun cv s2 x => ?_) fun _ _ x => x)))
    obtain ⟨g2, ⟨bm, ob, b1, b2, _, _, b5, b6, b7, b8⟩, q⟩ := x
    rw [hge]
    exact wpAny_bind (wpAny_builtinsFor g2 b1 b2 b5 b6 b7 b8 (wpAny_bind (wpAny_nsGet g2 (wpAny_bind (wpAny_pure (wpAny_newObj_type q (by size_fits)))))))
end
section
variable {X : Cx} {pins : List (Addr × Obj)} {σ : L2.St} {H : Hp} {s : Shared}
theorem lamO_new {Z : LF} {tk : Nat} {pm ctv : Value} (I : Inv X pins σ H s) :
    Inv X pins σ (upd H s.heap.objs.size (LamO s.heap.objs.size Z))
      { s with heap := s.heap.push (({ cls := .type "function", data := .func (Z.fd pm ctv) }) : Obj), toks := tk } := by
  refine I.laid (fun b u e => Heap.get?_push_of_some _ e) (Nat.le_refl _) ?_
  have here : (s.heap.push (({ cls := .type "function", data := .func (Z.fd pm ctv) }) : Obj)).get? s.heap.objs.size = some (({ cls := .type "function", data := .func (Z.fd pm ctv) }) : Obj) :=
    Heap.get?_push_size _ rfl
  exact ⟨⟨pm, ctv, here⟩, ⟨_, here⟩, fun g1 g2 ⟨p, t, z⟩ st => ⟨p, t, st _ z⟩⟩

theorem lam_made {T : List (Addr × Str)} {c P : Addr} {params : Arguments} {body : Expr} {scope : Scope} {pos : Pos} {dV : Value} {E : Value → Shared → Prop} {Q : Value → Shared → Prop}
    (I : Inv X pins σ H s) (TB : TabB X.base X.mg c P) (hcode : X.env.code = .ref c)
    (hm : (P, X.env.qual ++ "<lambda>") ∈ T) (hu : ∀ p ∈ T, p.1 = P → p.2 = X.env.qual ++ "<lambda>") (hT : Tabs T H)
    (hcl : ∀ y ∈ scope.names, y.2 = .free → ∃ c, X.env.cells.lookup y.1 = some c)
    (h : ∀ (f c' : Addr) (H1 : Hp) (s' : Shared), Inv X pins σ H1 s' → Grows T H H1 → H f = none →
      H1 f = some (LamO f (mkLF X params body scope c' dV)) → H1 c' = some (CodeO c' (X.env.qual ++ "<lambda>")) → Q (.ref f) s') :
    wpAny (model X.prog X.w) X.A (makeTail "<lambda>" (X.env.qual ++ "<lambda>") params (.expr body) scope X.env dV .none none pos pos.line) Q E s := by
  obtain ⟨qs, hP, tri, among⟩ := (show TabS H P (X.env.qual ++ "<lambda>") from hT _ hm)
  refine tail_d (mg := X.mg) (Pl := P) (closure_ok hcl) I.ok.glob fun h1 ctv k1 z1 => ?_
  have I1 : Inv X pins σ H { s with heap := h1 } := I.kept (t' := s.toks) k1
  have hgP : h1.get? P = some { cls := .none, data := .fields qs } := I1.hok P _ hP
  have hbP := TB.bm.keeps I1.bk
  have CH := TB.code.keeps I1.bk
  cases hit : codeAmong pos qs.toList with
  | some cv =>
    obtain ⟨c', rfl, kc⟩ := among pos cv hit
    refine wpAny_functionCode_hit hcode (CH.code hgP tri) hit ⟨I1.mod.glob.keeps I1.bk, hbP, ?_⟩
    have nF : H h1.objs.size = none := I1.hok.fresh (Nat.le_refl _)
    exact h h1.objs.size c' _ _ (lamO_new (Z := mkLF X params body scope c' dV) (pm := (X.mg "__name__").getD .none) (ctv := ctv) (tk := s.toks) I1) (Grows.upd nF) nF upd_same
      ((upd_ne (ne_of_none kc nF)).trans kc)
  | none =>
    refine wpAny_functionCodeX hcode (CH.code hgP tri) (CH.tab hgP) hit fun c' h' tk hx hge hlt _ hrec htb _ => ?_
    have gl := (I1.mod.glob.keeps I1.bk).extBut hx TB.gP
    have bl : h'.BuiltinsAt X.mg P := by
      obtain ⟨bm, ob, b1, b2, b3, b4, b5, b6⟩ := hbP
      exact ⟨bm, ob, b1, b2, b3, b4, hx _ _ b4 b5, b6⟩
    refine ⟨gl, bl, ?_⟩
    obtain ⟨c2, oc, vs, t, e2, hoc, hd, hv⟩ := hrec
    cases e2
    have nC : H c' = none := I1.hok.fresh hge
    have J := inv_table (q := X.env.qual ++ "<lambda>") (t' := tk) (more := #[rawInt pos.line, rawInt pos.col, .ref c']) (h' := h') I1 hP (fun b o hb e => hx b o hb e) htb.2 hge ⟨oc, vs, t, hoc, hd, hv⟩
    generalize hH2 : L2.upd (L2.upd H P (.tbl (qs ++ #[rawInt pos.line, rawInt pos.col, .ref c']))) c' (CodeO c' (X.env.qual ++ "<lambda>")) = H2 at J
    have kC : H2 c' = some (CodeO c' (X.env.qual ++ "<lambda>")) := by rw [← hH2]; exact upd_same
    have ext : ExtN H H2 := fun b o e n => by
      have nP : b ≠ P := by
        rintro rfl
        exact n qs (Option.some.inj (e.symm.trans hP))
      rw [← hH2, upd_ne (ne_of_none e nC), upd_ne nP]
      exact e
    have eL : (qs ++ #[rawInt pos.line, rawInt pos.col, .ref c']).toList = qs.toList ++ [rawInt pos.line, rawInt pos.col, .ref c'] := by simp
    have tabs2 : Tabs T H2 := by
      intro p hp
      by_cases hb : p.1 = P
      · rw [hu p hp hb, hb]
        refine ⟨qs ++ #[rawInt pos.line, rawInt pos.col, .ref c'], ?_, ?_, ?_⟩
        · rw [← hH2, upd_ne (ne_of_none hP nC), upd_same]
        · rw [eL]
          exact PySem.TriplesOk_snoc _ _ _ _ tri
        · intro p' cv hcv
          rw [eL] at hcv
          rcases among_app _ tri hcv with z | z
          · obtain ⟨c0, f1, f2⟩ := among p' cv z
            exact ⟨c0, f1, ext _ _ f2 codeO_ne⟩
          · exact ⟨c', z, kC⟩
      · obtain ⟨qs', q1, q2, q3⟩ := hT p hp
        refine ⟨qs', ?_, q2, ?_⟩
        · rw [← hH2, upd_ne (ne_of_none q1 nC), upd_ne hb]
          exact q1
        · intro p' cv hcv
          obtain ⟨c0, f1, f2⟩ := q3 p' cv hcv
          exact ⟨c0, f1, ext _ _ f2 codeO_ne⟩
    have nF : H2 h'.objs.size = none := J.hok.fresh (Nat.le_refl _)
    have g2 : Grows T H2 (L2.upd H2 h'.objs.size (LamO h'.objs.size (mkLF X params body scope c' dV))) := Grows.upd nF
    exact h h'.objs.size c' _ _ (lamO_new (Z := mkLF X params body scope c' dV) (pm := (X.mg "__name__").getD .none) (ctv := ctv) (tk := tk) J) (Grows.trans ⟨ext, fun _ => tabs2⟩ g2)
      (I1.hok.fresh (Nat.le_trans hge (Nat.le_of_lt hlt))) upd_same (g2.ext _ _ kC codeO_ne)
end

/-! ### calls -/
section
variable {CX : CXT} {P : Program} {w : World} {K : PySem.W.Frag} {mg : Str → Option Value} {base : Heap} {N ps fr : List Str} {Z : LF} {f : Addr} {k : Nat}
/-- the body's context, at its entry -/
abbrev lcx (CX : CXT) (P : Program) (w : World) (K : PySem.W.Frag) (mg : Str → Option Value) (base : Heap) (N : List Str) (Z : LF) (f : Addr) (A : Around) (outer : List Env) (s : Shared) (H : Hp) (E : XK) : Cx :=
  ncx CX P w K mg base N Z.F f A outer s H E
theorem lam_call {A : Around} {outer : List Env} {s : Shared} {H : Hp} {args : Args} {us : List Value} {vs : List V} {ws : List (Option V)} {Q : VK} {E : XK} {t : TE} {pm ctv : Value}
    (S : NScope N ps fr Z.F.scope) (hr : Room (k + 1) A) (e0 : Env0 P w K mg base A outer s H)
    (ho : s.heap.get? f = some (({ cls := .type "function", data := .func (Z.fd pm ctv) }) : Obj)) (hcr : s.heap.CodeRec (.ref Z.F.c) Z.F.qual)
    (hb : BindsTo s (Z.fd pm ctv) args (ps.zip us)) (hl : vs.length = ps.length) (C : CellsAt Z.F.cl fr ws s.heap H) (r : Vals vs us)
    (hbody : Room k (A.deeper (envF Z.F f s.heap.objs.size)) → PE (lcx CX P w K mg base N Z f A outer s H E) Z.e t) (hq : t (startF N vs ws) H Q) :
    codeAny (model P w) A (.call (.ref f) args) (CR CX outer P w H s Q E) s := by
  have nolim : s.heap.NoLimit := e0.mod.nolimit.keeps fun b o e => (e0.bs b o e).1
  refine PySem.W.kla_callFunE hr.depth ho rfl S.co S.gen rfl hcr ?_
  refine hb _ _ _ _ ?_
  refine wpAny_newFunctionEnv S.nocell (fun ⟨n, _⟩ hy => S.par n (List.of_mem_zip hy).1) (fun h₁ hns hsb => ⟨nolim.fresh _ hsb, ?_⟩) S.kind
  show codeAny _ _ (.expr Z.e (envF Z.F f s.heap.objs.size)) _ _
  have kp : ∀ b o, s.heap.get? b = some o → h₁.get? b = some o :=
    fun b o e => hsb.extBut b o (Nat.ne_of_lt (Heap.lt_size e)) (Heap.get?_push_of_some _ e)
  have J : Inv (lcx CX P w K mg base N Z f A outer s H E) [] (startF N vs ws) H { s with heap := h₁, toks := s.toks + (ps.zip us).length } :=
    inv_startN S hr.hd e0 hl r C hns kp
  refine PySem.W.kla_codeExpr (wpAny_mono ((hbody (hr.deeper _)).run [] _ _ H Q J hq) (fun v s' hh => ?_) fun e s' hh => hh)
  obtain ⟨v', H', J', rv, q⟩ := hh
  exact ⟨v', H', J'.os, J'.bare, J'.base, J'.hok, rv, q⟩
/-- what the heap knows of a lambda at f -/
structure LamAt (H : Hp) (f : Addr) (Z : LF) : Prop where
  o : H f = some (LamO f Z)
  c : H Z.F.c = some (CodeO Z.F.c Z.F.qual)
  d : ∀ T : Addr, Z.dV = .ref T → ∃ xs, H T = some (.tup xs) ∧ xs = [.int 0]
theorem LamAt.ext {H H1 : Hp} (a : LamAt H f Z) (e : ExtN H H1) : LamAt H1 f Z :=
  ⟨e _ _ a.o lamO_ne, e _ _ a.c codeO_ne, fun T h => (a.d T h).elim fun xs q => ⟨xs, e _ _ q.1 (fun ps z => nomatch z), q.2⟩⟩
abbrev SpL := List (Option V) → Hp → VK → XK → Prop
/-- f may be called without arguments; cl, fr: its captured cells; sp: by what they hold -/
def Act (P : Program) (w : World) (K : PySem.W.Frag) (mg : Str → Option Value) (base : Heap) (CX : CXT) (k : Nat) (cl : List (Str × Addr)) (fr : List Str) (sp : SpL) (f : Addr) (H : Hp) : Prop :=
  ∃ Z : LF, Z.F.cl = cl ∧ LamAt H f Z ∧ ∀ (A : Around) (outer : List Env) (s : Shared) (H' : Hp) (ws : List (Option V)) (Q : VK) (E : XK), Room k A → Env0 P w K mg base A outer s H' → LamAt H' f Z →
    CellsAt cl fr ws s.heap H' → sp ws H' Q E → codeAny (model P w) A (.call (.ref f) ⟨[], []⟩) (CR CX outer P w H' s Q E) s
theorem Act.ext {cl : List (Str × Addr)} {sp : SpL} {H H1 : Hp} (a : Act P w K mg base CX k cl fr sp f H) (e : ExtN H H1) : Act P w K mg base CX k cl fr sp f H1 := by
  obtain ⟨Z, h1, h2, h3⟩ := a
  exact ⟨Z, h1, h2.ext e, h3⟩
theorem Act.mono {cl : List (Str × Addr)} {sp sp' : SpL} {H : Hp} {k' : Nat} (a : Act P w K mg base CX k cl fr sp f H) (h : k ≤ k') (i : ∀ ws H Q E, sp' ws H Q E → sp ws H Q E) : Act P w K mg base CX k' cl fr sp' f H := by
  obtain ⟨Z, h1, h2, h3⟩ := a
  exact ⟨Z, h1, h2, fun A outer s H' ws Q E hr e0 l c q => h3 A outer s H' ws Q E (hr.mono h) e0 l c (i _ _ _ _ q)⟩
/-- a lambda without parameters -/
theorem act0 {sp : SpL} {H : Hp} (l : LamAt H f Z) (S : NScope N [] fr Z.F.scope) (hb : ∀ pm ctv : Value, bindArgs (Z.fd pm ctv) ⟨[], []⟩ = pure [])
    (hbody : ∀ (A : Around) (outer : List Env) (s : Shared) (H : Hp) (ws : List (Option V)) (Q : VK) (E : XK), Room k (A.deeper (envF Z.F f s.heap.objs.size)) → ws.length = fr.length → sp ws H Q E →
      ∃ t, PE (lcx CX P w K mg base N Z f A outer s H E) Z.e t ∧ t (startF N [] ws) H Q) : Act P w K mg base CX (k + 1) Z.F.cl fr sp f H := by
  refine ⟨Z, rfl, l, fun A outer s H' ws Q E hr e0 l' C h => ?_⟩
  obtain ⟨pm, ctv, ho⟩ := lamO_at e0.hok l'.o
  obtain ⟨t, ht, hq⟩ := hbody A outer s H' ws Q E (hr.deeper _) C.len h
  exact lam_call (ps := []) (us := []) S hr e0 ho (codeO_at e0.hok l'.c) (.of_eq (hb pm ctv)) rfl C .nil (fun _ => ht) hq
/-- .. of one parameter, whose default is 0 -/
theorem act1 {x : Str} {T : Addr} {sp : SpL} {H : Hp} (l : LamAt H f Z) (hT : Z.dV = .ref T) (S : NScope N [x] fr Z.F.scope)
    (hb : ∀ (pm ctv u : Value), ∃ kk, bindArgs (Z.fd pm ctv) ⟨[], []⟩ = seqItems? Z.dV >>= kk ∧ kk (some #[u]) = pure [(x, u)])
    (hbody : ∀ (A : Around) (outer : List Env) (s : Shared) (H : Hp) (ws : List (Option V)) (Q : VK) (E : XK), Room k (A.deeper (envF Z.F f s.heap.objs.size)) → ws.length = fr.length → sp ws H Q E →
      ∃ t, PE (lcx CX P w K mg base N Z f A outer s H E) Z.e t ∧ t (startF N [.int 0] ws) H Q) : Act P w K mg base CX (k + 1) Z.F.cl fr sp f H := by
  refine ⟨Z, rfl, l, fun A outer s H' ws Q E hr e0 l' C h => ?_⟩
  obtain ⟨pm, ctv, ho⟩ := lamO_at e0.hok l'.o
  obtain ⟨xs, hx, rfl⟩ := l'.d T hT
  obtain ⟨_, its, rv, ht1⟩ := e0.hok T _ hx
  cases rv with
  | @cons _ u _ _ ru rn =>
  cases rn
  obtain ⟨t, ht, hq⟩ := hbody A outer s H' ws Q E (hr.deeper _) C.len h
  obtain ⟨kk, b1, b2⟩ := hb pm ctv u
  obtain ⟨oT, g1, _, n, g3⟩ := ht1
  refine lam_call (ps := [x]) (us := [u]) S hr e0 ho (codeO_at e0.hok l'.c) ?_ rfl C (.cons ru .nil) (fun _ => ht) hq
  exact BindsTo.of_defaults (fd := Z.fd pm ctv) (k := kk) hT g1 g3 b1 b2
end

/-! ### the rules: a lambda as a value -/
section
variable {X : Cx} {T : List (Addr × Str)} {c P : Addr} {params : Arguments} {body : Expr} {scope : Scope} {pos : Pos}
/-- the new lambda stands at f; mk: its words by its code object and its defaults -/
def tLamO (T : List (Addr × Str)) (mk : Addr → Value → LF) : TE := fun σ H Q => Tabs T H ∧ ∀ (f c' : Addr) (H1 : Hp), Grows T H H1 → H f = none → LamAt H1 f (mk c' .none) → Q (.ref f) H1
def tLamD (T : List (Addr × Str)) (mk : Addr → Value → LF) : TE := fun σ H Q => Tabs T H ∧ ∀ (f c' t : Addr) (H1 : Hp), Grows T H H1 → H f = none → LamAt H1 f (mk c' (.ref t)) → Q (.ref f) H1
theorem pe_lam (TB : TabB X.base X.mg c P) (hcode : X.env.code = .ref c)
    (hm : (P, X.env.qual ++ "<lambda>") ∈ T) (hu : ∀ p ∈ T, p.1 = P → p.2 = X.env.qual ++ "<lambda>")
    (hfree : ∀ y ∈ scope.names, y.2 = .free → X.env.scope.names.lookup y.1 = some .cell ∨ X.env.scope.names.lookup y.1 = some .free) (hdef : defaultsOf params X.env = ([], []) := by exact rfl) :
    PE X (.Lambda params body scope pos) (tLamO T (mkLF X params body scope)) := by
  refine ⟨fun pins s σ H Q I ⟨hT, h⟩ => PySem.W.kla_eval hdef ?_⟩
  rw [makeFunction_eq]
  simp only [List.zip_nil_right, List.filterMap_nil, List.isEmpty_nil, if_true, pure_bind]
  refine lam_made I TB hcode hm hu hT (fun y hy e => I.ok.has _ (hfree y hy e)) fun f c' H1 s' I1 g n1 e1 e2 => ?_
  exact ⟨.ref f, H1, I1, rfl, h f c' H1 g n1 ⟨e1, e2, fun t z => nomatch z⟩⟩
/-- a default that is an int: 0 -/
theorem pe_lamD {d : Expr} (TB : TabB X.base X.mg c P) (hcode : X.env.code = .ref c)
    (hm : (P, X.env.qual ++ "<lambda>") ∈ T) (hu : ∀ p ∈ T, p.1 = P → p.2 = X.env.qual ++ "<lambda>")
    (hfree : ∀ y ∈ scope.names, y.2 = .free → X.env.scope.names.lookup y.1 = some .cell ∨ X.env.scope.names.lookup y.1 = some .free)
    (hd : PE X d (tC (.int 0))) (hdef : defaultsOf params X.env = ([eval d X.env], []) := by exact rfl) :
    PE X (.Lambda params body scope pos) (tLamD T (mkLF X params body scope)) := by
  refine ⟨fun pins s σ H Q I ⟨hT, h⟩ => ?_⟩
  rw [arm_eval_Lambda, hdef]
  show wpAny _ X.A (do
    let dv ← evalAll [eval d X.env]
    let kdv ← holding dv (evalAllOpt [])
    makeFunction "<lambda>" (X.env.qual ++ "<lambda>") params (.expr body) scope X.env dv kdv [] pos pos.line) _ _ s
  refine wpAny_bind ?_
  show wpAny _ X.A (eval d X.env >>= fun v => _) _ _ s
  refine wpAny_bind (thn (hd.run pins s σ H (fun v H1 => v = .int 0 ∧ H1 = H) I ⟨rfl, rfl⟩) fun v s1 x => ?_)
  obtain ⟨v0, H1, I1, rv, rfl, rfl⟩ := x
  refine wpAny_bind (wpAny_holding (wpAny_pure (wpAny_pure ?_)))
  refine wpAny_bind (wpAny_holding (wpAny_pure ?_))
  rw [makeFunction_eq]
  simp only [List.zip_nil_right, List.filterMap_nil, List.isEmpty_nil, List.isEmpty_cons, Bool.false_eq_true, if_true, if_false, pure_bind]
  refine wpAny_bind (wpAny_newTextTuple ?_)
  have nT : H1 s1.heap.objs.size = none := I1.hok.fresh (Nat.le_refl _)
  have I2 : Inv X pins σ (upd H1 s1.heap.objs.size (.tup [.int 0])) { s1 with heap := s1.heap.push { cls := .type "tuple", data := .seq [v].toArray } } :=
    I1.laid (t' := s1.toks) (fun b o e => Heap.get?_push_of_some _ e) (Nat.le_refl _) ⟨by decide, [v], .cons rv .nil, _, Heap.get?_push_size _ rfl, rfl, 0, rfl⟩
  have G2 : Grows T H1 (upd H1 s1.heap.objs.size (.tup [.int 0])) := Grows.upd nT
  refine lam_made I2 TB hcode hm hu (G2.tab hT) (fun y hy e => I2.ok.has _ (hfree y hy e)) fun f c' H3 s' I3 g n1 e1 e2 => ?_
  have tT : H3 s1.heap.objs.size = some (.tup [.int 0]) := g.ext _ _ upd_same fun ps z => nomatch z
  have nf : H1 f = none := by
    by_cases z : f = s1.heap.objs.size
    · rw [z]
      exact nT
    · rw [upd_ne z] at n1
      exact n1
  exact ⟨.ref f, H3, I3, rfl, h f c' s1.heap.objs.size H3 (G2.trans g) nf ⟨e1, e2, fun t z => by cases z; exact ⟨_, tT, rfl⟩⟩⟩
end
end Sho
set_option Elab.async false
set_option linter.all false
set_option maxRecDepth 100000
set_option maxHeartbeats 2000000
/-! A try whose clauses may each bind the exception or not. -/
namespace Sho
open PySem PySem.Spec PyProof.Rows L2
/-- a clause: the class, the slot of its name (if it has one), its suite's reading -/
structure Clause where
  c : Value
  i : Option Nat
  ts : Addr → Value → Option Addr → TS
def setO (σ : L2.St) : Option Nat → Option V → L2.St
  | none, _ => σ
  | some i, v => σ.set i v
/-- a suite's ends: the clause's name is gone -/
def endsO (D : Ends) (i : Option Nat) : Ends :=
  { nx := fun σ H => D.nx (setO σ i none) H, rt := D.rt, bk := fun σ H => D.bk (setO σ i none) H, ct := fun σ H => D.ct (setO σ i none) H }
def wClauses (K : PySem.W.Frag) (Wout : WX) (D : Ends) : List Clause → WX
  | [] => Wout
  | C :: r => fun cls d σ H => ∃ b, PySem.W.exmOne K cls C.c = some b ∧
    (b = true → ∀ a, H a = none → C.ts a cls d (endsO D C.i) (setO σ C.i (some (.ref a))) H) ∧ (b = false → wClauses K Wout D r cls d σ H)
def Bound (X : Cx) : Option Str → Option Nat → Prop
  | none, none => True
  | some n, some i => X.N[i]? = some n ∧ X.env.kindOf n = some .local
  | _, _ => False
inductive ClausesOk (X : Cx) : List ExceptHandler → List Clause → Prop
  | nil : ClausesOk X [] []
  | cons {x : Str} {n : Option Str} {C : Clause} {b₀ : Stmt} {suite : List Stmt} {np hp : Pos} {hds : List ExceptHandler} {l : List Clause} (hc : Names X x C.c) (hn : Bound X n C.i)
      (body : ∀ (a : Addr) (oe : Obj) (cls : Value) (d : Option Addr) (pn : List (Addr × Obj)), Zc cls d oe → (∃ vs, oe.data = .fields vs) → PSs (X.suite a ((a, oe) :: pn)) (b₀ :: suite) (C.ts a cls d))
      (rest : ClausesOk X hds l) : ClausesOk X (.ExceptHandler (some (.Name x np)) n (b₀ :: suite) hp :: hds) (C :: l)
/-- an exception that X's frame has caught, in the state s -/
structure Caught (X : Cx) (pins : List (Addr × Obj)) (σ : L2.St) (H : Hp) (B : Heap) (a : Addr) (cls : Value) (d : Option Addr) (s : Shared) : Prop where
  fly : HandSPX.FlyingZ B (X.env :: X.outer) a (Zc cls d) s.heap
  back : ∀ h, HandSPX.FlyingZ B (X.env :: X.outer) a (Zc cls d) h → s.heap.UpToSlots h → Inv X pins σ H { s with heap := h }
  on : ∀ h (W : WX), HandSPX.HeldZ B (X.env :: X.outer) a (Zc cls d) X.env.locals h → s.heap.UpToSlots h → W cls d σ H → XE X W (.ref a) { s with heap := h }
  free : H a = none
section
variable {X : Cx} {pins : List (Addr × Obj)} {σ : L2.St} {H : Hp} {B : Heap} {a : Addr} {cls : Value} {d : Option Addr} {s : Shared}
theorem Caught.inv (c : Caught X pins σ H B a cls d s) : Inv X pins σ H s := c.back s.heap c.fly (.refl _)
theorem Caught.apart (c : Caught X pins σ H B a cls d s) (hf : X.env.frame = some X.env.locals) : a ≠ X.env.locals ∧ a ∉ X.fs := by
  obtain ⟨oe, vs, he, _, hd⟩ := c.fly.there
  have out : a ∉ frs (X.env :: X.outer) := fun hm => by
    obtain ⟨_, o, e, nf⟩ := c.fly.2.2.1.mem hm
    rw [he] at e
    cases e
    exact nf _ hd
  refine ⟨fun z => out (List.mem_filterMap.mpr ⟨X.env, .head _, hf.trans (congrArg some z.symm)⟩), fun hm => ?_⟩
  obtain ⟨e, he2, q⟩ := List.mem_filterMap.mp hm
  exact out (List.mem_filterMap.mpr ⟨e, .tail _ he2, q⟩)
theorem caught_of {xe : Value → Shared → Prop} {W : WX} {u : Value} {Q : Shared → Prop} {E : Value → Shared → Prop} (hs : X.stack = X.env :: X.outer) (hf : X.env.frame = some X.env.locals) (ok : X.Ok)
    (x : XE (X.tr (X.pn ++ pins) xe) W u s)
    (h : ∀ a B σ H cls d h3, u = .ref a → Caught X pins σ H B a cls d { s with heap := h3 } → W cls d σ H → Q { s with heap := h3 }) :
    wpAny (model X.prog X.w) X.A (noteFrame u X.env) (fun _ s2 => wpAny (model X.prog X.w) X.A (setFlight u none) (fun _ s3 => Q s3) E s2) E s := by
  obtain ⟨a, B, s0, pins', σ1, H1, cls, d, rfl, J1, ground, up, sky, na, os, ag, w⟩ := x
  have J : Inv X pins σ1 H1 s0 := J1.ofTry ok
  have sky2 : Sky B (X.env :: X.outer) a (Zc cls d) X.env.locals s.heap := hs ▸ sky
  refine Sky.land Zc.steady (ok.frames.trans (congrArg some hs)) hf sky2 fun h3 fly up3 => ?_
  refine h a B σ1 H1 cls d h3 rfl ⟨fly, fun g fg ug => J.landed ground fg.1 (up.trans (up3.trans ug)) os ag, fun g W2 hg ug w2 => ?_, na⟩ w
  exact ⟨a, B, s0, pins, σ1, H1, cls, d, rfl, J, ground, up.trans (up3.trans ug), .inr (.inr (by rw [hs]; exact hg)), na, os, ag, w2⟩

theorem clauses_run {Wout : WX} {D : Ends} (hs : X.stack = X.env :: X.outer) (hf : X.env.frame = some X.env.locals) (hN : X.N.Nodup) (tk : Takes X Wout) (c : Caught X pins σ H B a cls d s)
    {hds : List ExceptHandler} {l : List Clause} (hk : ClausesOk X hds l) : wClauses X.K Wout D l cls d σ H →
    wpAny (model X.prog X.w) X.A (handleBy (.ref a) X.env hds) (SP X pins D) X.xe s := by
  have ok := c.inv.ok
  induction hk with
  | nil =>
    intro w
    refine wpAny_handleBy_nil ?_
    obtain ⟨_, _, _, oe, vs, T, oT, ts', he, hz, hd, h1, _⟩ := id c.fly
    unfold PySem.passOn
    refine wpAny_bind (wpAny_field he hd h1 ?_)
    rw [if_neg (show ¬ ((Value.ref T == Value.none) = true) by simp)]
    have up : wpAny (model X.prog X.w) X.A (setFlight (.ref a) X.env.frame) (fun _ s4 => wpAny (model X.prog X.w) X.A (throw (.ref a) : Sem PySem.Flow) (SP X pins D) X.xe s4) X.xe s := by
      rw [hf]
      exact HandSPX.setFlight_upZ c.fly fun g hg ug => wpAny_throw (tk _ _ (c.on g Wout hg ug w))
    first
      | exact wpAny_bind (wpAny_pure (wpAny_bind up))
      | exact wpAny_bind up
  | @cons x n C b₀ suite np hp hds2 l2 hc hn body rest ih =>
    intro w
    obtain ⟨b, hb, yes, no⟩ := w
    obtain ⟨oe, vs, he, hz, hd⟩ := c.fly.there
    obtain ⟨nL, nF⟩ := c.apart hf
    have I := c.inv
    have IS := I.suite he hd c.free nL nF
    refine wpAny_handleBy_cons (codeAny_handlers_test ?_) (by intro q; cases q)
    have lt : PySem.W.Looks (model X.prog X.w) s.heap (typeOf (.ref a)) cls := fun A Q E s k q => wpAny_typeOf_ref (k _ _ he) (by rw [hz.1]; exact q)
    have lm := PySem.W.exm_one (M := model X.prog X.w) I.kIn lt hb
    have named : ∀ {Q : Value → Shared → Prop} {E : Value → Shared → Prop}, Q C.c s → wpAny (model X.prog X.w) (X.A.mark (some (.ref a))) (eval (.Name x np) X.env) Q E s := fun {Q E} q => by
      obtain ⟨g1, g2, g3⟩ := hc
      rcases g3 with g3 | ⟨g3, g4, g5⟩
      · exact ld_glob (X := X.suite a ((a, oe) :: (X.pn ++ pins))) IS g1 g3 q g2
      · exact ld_blt (X := X.suite a ((a, oe) :: (X.pn ++ pins))) IS g1 g3 g4 q g5 g2
    refine named (lm.here ?_)
    cases b with
    | false => exact ih (no rfl)
    | true =>
      have go : ∀ g, HandSPX.FlyingZ B (X.env :: X.outer) a (Zc cls d) g → s.heap.UpToSlots g → ∃ oe4 vs4, Zc cls d oe4 ∧ oe4.data = .fields vs4 ∧ Inv (X.suite a ((a, oe4) :: (X.pn ++ pins))) [] σ H { s with heap := g } := fun g fg ug => by
        obtain ⟨oe4, vs4, he4, hz4, hd4⟩ := fg.there
        exact ⟨oe4, vs4, hz4, hd4, (c.back g fg ug).suite he4 hd4 c.free nL nF⟩
      cases n with
      | none =>
        match hi : C.i with
        | some i =>
          rw [hi] at hn
          exact hn.elim
        | none =>
          rw [hi] at yes
          refine codeAny_handlers_suite ?_
          refine HandSPX.lands_againZ c.fly fun g fg ug => ?_
          obtain ⟨oe4, vs4, hz4, hd4, I4⟩ := go g fg ug
          refine wpAny_mono ((body a oe4 cls d (X.pn ++ pins) hz4 ⟨_, hd4⟩).run [] _ _ H _ I4 (yes rfl a c.free)) (fun f s6 r => ?_) fun _ _ z => False.elim z
          cases f with
          | ret u =>
            obtain ⟨v6, σ6, H6, I6, r6, q6⟩ := r
            exact ⟨v6, σ6, H6, I6.unsuite ok, r6, q6⟩
          | next => obtain ⟨σ6, H6, I6, q6⟩ := r; exact ⟨σ6, H6, I6.unsuite ok, q6⟩
          | brk => obtain ⟨σ6, H6, I6, q6⟩ := r; exact ⟨σ6, H6, I6.unsuite ok, q6⟩
          | cont => obtain ⟨σ6, H6, I6, q6⟩ := r; exact ⟨σ6, H6, I6.unsuite ok, q6⟩
      | some n =>
        match hi : C.i with
        | none =>
          rw [hi] at hn
          exact hn.elim
        | some i =>
          rw [hi] at hn yes
          obtain ⟨hni, hln⟩ := hn
          refine codeAny_handlers_suite_as ?_
          refine HandSPX.lands_againZ c.fly fun g fg ug => ?_
          obtain ⟨oe4, vs4, hz4, hd4, I4⟩ := go g fg ug
          refine store_ok (X := X.suite a ((a, oe4) :: (X.pn ++ pins))) (v := .ref a) I4 hN hni (.inl hln) rfl (fun s5 I5 => ?_) (.inr hln)
          refine wpAny_mono ((body a oe4 cls d (X.pn ++ pins) hz4 ⟨_, hd4⟩).run [] s5 _ H _ I5 (yes rfl a c.free)) (fun f s6 r => ?_) fun _ _ z => False.elim z
          have gone : ∀ {σ6 : L2.St} {H6 : Hp} {Q : Shared → Prop}, Inv (X.suite a ((a, oe4) :: (X.pn ++ pins))) [] σ6 H6 s6 → (∀ s7, Inv X pins (σ6.set i none) H6 s7 → Q s7) →
              wpAny (model X.prog X.w) X.A (do bindName X.env n .none; unbindBehindTheSuite X.env n hp) (fun _ s7 => Q s7) X.xe s6 := fun {σ6 H6 Q} I6 k => gone_ok (I6.unsuite ok) hN hni hln k
          cases f with
          | ret u =>
            obtain ⟨v6, σ6, H6, I6, r6, q6⟩ := r
            exact gone I6 fun s7 I7 => ⟨v6, _, H6, I7, r6, q6⟩
          | next => obtain ⟨σ6, H6, I6, q6⟩ := r; exact gone I6 fun s7 I7 => ⟨_, H6, I7, q6⟩
          | brk => obtain ⟨σ6, H6, I6, q6⟩ := r; exact gone I6 fun s7 I7 => ⟨_, H6, I7, q6⟩
          | cont => obtain ⟨σ6, H6, I6, q6⟩ := r; exact gone I6 fun s7 I7 => ⟨_, H6, I7, q6⟩
end
section
variable {X : Cx} {body : List Stmt} {h₀ : ExceptHandler} {hds : List ExceptHandler} {l : List Clause} {pos : Pos} {tb : WX → TS} {Wout : WX}
/-- try: body / except A as e: .. / except B: .. -/
theorem ps_try (hs : X.stack = X.env :: X.outer) (hf : X.env.frame = some X.env.locals) (hN : X.N.Nodup) (tk : Takes X Wout)
    (hb : ∀ (W : WX) (pn : List (Addr × Obj)) (xe : Value → Shared → Prop), Takes (X.tr pn xe) W → PassesOwn (model X.prog X.w) X.A X.env xe → PSs (X.tr pn xe) body (tb W))
    (hk : ClausesOk X (h₀ :: hds) l) : PS X (.Try body (h₀ :: hds) [] [] pos) (fun D σ H => tb (wClauses X.K Wout D l) D σ H) := by
  refine ⟨fun pins s σ H D I h => wpAny_Try_except ?_⟩
  have ok := I.ok
  refine wpAny_mono ((hb (wClauses X.K Wout D l) (X.pn ++ pins) (fun e s₁ => wpAny (model X.prog X.w) X.A (noteFrame e X.env)
    (fun _ s₂ => wpAny (model X.prog X.w) X.A (setFlight e none) (fun _ s₃ => wpAny (model X.prog X.w) X.A (handleBy e X.env (h₀ :: hds)) (SP X pins D) X.xe s₃) X.xe s₂) X.xe s₁)
    (fun u s' x => ?_) PassesOwn.looking).run [] s σ H D (I.toTry _) h) (fun f s1 r => ?_) fun _ _ z => z
  · refine caught_of hs hf ok x fun a B σ1 H1 cls d h3 e c w => ?_
    subst e
    exact clauses_run hs hf hN tk c hk w
  · cases f with
    | ret u =>
      obtain ⟨v6, σ6, H6, I6, r6, q6⟩ := r
      exact ⟨v6, σ6, H6, I6.ofTry ok, r6, q6⟩
    | next => obtain ⟨σ6, H6, I6, q6⟩ := r; exact wpAny_execs_nil ⟨σ6, H6, I6.ofTry ok, q6⟩
    | brk => obtain ⟨σ6, H6, I6, q6⟩ := r; exact ⟨σ6, H6, I6.ofTry ok, q6⟩
    | cont => obtain ⟨σ6, H6, I6, q6⟩ := r; exact ⟨σ6, H6, I6.ofTry ok, q6⟩
end
end Sho
set_option Elab.async false
set_option linter.all false
set_option maxRecDepth 100000
set_option maxHeartbeats 2000000
/-! A callable that is handed on, called without arguments. -/
namespace Sho
open PySem PySem.Spec PyProof.Rows L2 LamX NdefX
section
variable {X : Cx} {pins : List (Addr × Obj)} {σ : L2.St} {H : Hp} {s : Shared} {cl : List (Str × Addr)} {fr : List Str} {ws : List (Option V)}
theorem cells_un {fs ex : List Addr} {H0 : Hp} {h0 h : Heap} (C : CellsAt cl fr ws h0 H0) (U : Un fs ex H0 H h0 h) (hex : ∀ y c, cl.lookup y = some c → c ∉ ex) : CellsAt cl fr ws h H := by
  have one : ∀ {y : Str} {c : Addr} {v : Option Value}, cl.lookup y = some c → h0.IsCell c v → h.IsCell c v := fun {y c v} e ⟨o, ho, hd⟩ => by
    by_cases hm : c ∈ fs
    · obtain ⟨sl, q⟩ := U.slot c o ho (C.all y c e).1 hm (hex y c e)
      exact ⟨_, q, hd⟩
    · exact ⟨o, U.keep c o ho (C.all y c e).1 hm (hex y c e), hd⟩
  refine ⟨C.len, fun y c e => ?_, C.inj, fun i y hi => ?_⟩
  · obtain ⟨n, v, o, ho, hd⟩ := C.all y c e
    exact ⟨U.free c o ho n (hex y c e), v, one e ⟨o, ho, hd⟩⟩
  · obtain ⟨c, e, k⟩ := C.has i y hi
    refine ⟨c, e, fun v hv => ?_⟩
    obtain ⟨u, r, z⟩ := k v hv
    exact ⟨u, r, one e z⟩
/-- cells of the entry's time stand as they stood -/
theorem cells_kept (I : Inv X pins σ H s) (C : CellsAt cl fr ws X.s_0.heap X.H_0) (hex : ∀ y c, cl.lookup y = some c → c ∉ X.ex) : CellsAt cl fr ws s.heap H := cells_un C I.base hex

/-- x(): x's slot holds a callable -/
def tAct (P : Program) (w : World) (K : PySem.W.Frag) (mg : Str → Option Value) (base : Heap) (CX : CXT) (k : Nat) (i : Nat) (cl : List (Str × Addr)) (fr : List Str) (ws : List (Option V)) (E : L2.St → XK) : TE := fun σ H Q =>
  ∃ f sp, σ[i]? = some (some (.ref f)) ∧ Act P w K mg base CX k cl fr sp f H ∧ sp ws H Q (E σ)
theorem pe_act {CX : CXT} {k i : Nat} {E : L2.St → XK} {x : Str} {p pos : Pos} (hr : Room k X.A) (C : CellsAt cl fr ws X.s_0.heap X.H_0) (hex : ∀ y c, cl.lookup y = some c → c ∉ X.ex) (hx : ∀ σ, PassesAt CX X σ (E σ))
    (hN : X.N[i]? = some x) (hv : Vis X.env.scope x) (hd : (x == ("__debug__" : Str)) = false := by decide) (hcd : (x == ("__classdict__" : Str)) = false := by decide) :
    PE X (.Call (.Name x p) [] [] pos) (tAct X.prog X.w X.K X.mg X.base CX k i cl fr ws E) := by
  refine ⟨fun pins s σ H Q I ⟨f, sp, hs, ⟨Z, ecl, hl, run⟩, h⟩ => ?_⟩
  refine wpAny_Call_Name_kw (thn ((pe_var (pos := p) (i := i) hN hv hd hcd).run pins s σ H (fun v H1 => v = .ref f ∧ H1 = H) I ⟨.ref f, hs, rfl, rfl⟩) fun u s1 y => ?_)
  obtain ⟨v, H1, I1, rv, rfl, rfl⟩ := y
  obtain rfl : u = Value.ref f := rv
  obtain ⟨pm, ctv, ho⟩ := lamO_at I1.hok hl.o
  refine PySem.W.callWith_F0 ⟨_, _, _, _, ho⟩ ?_
  refine wpAny_call (codeAny_mono (run X.A X.stack s1 H1 ws Q (E σ) hr I1.env0 hl (cells_kept I1 C hex) h) fun r s' hq => ?_)
  cases r with
  | error e => exact hx σ pins H1 s1 e s' I1 hq
  | ok fl =>
    cases fl with
    | ret u => exact I1.after hq
    | next => exact hq.elim
    | brk => exact hq.elim
    | cont => exact hq.elim

/-- g(e): a def of the module, its promise told of the very state; know: what the state at the call shows -/
theorem pe_callAt {CX : CXT} {E : XK} {know : L2.St → Shared → Hp → Prop} {sp : L2.St → V → Hp → VK → Prop} {g : Addr} {x : Str} {e : Expr} {ta : TA} {p pos : Pos} (hg : Gl X x) (hm : X.mg x = some (.ref g)) (hk : PySem.W.keepIn X.K (.ref g) = true)
    (hx : Passes CX X E) (hP : ∀ (pins : List (Addr × Obj)) (σ : L2.St) (H : Hp) (s : Shared), Inv X pins σ H s → know σ s H) (ha : PA X [e] ta)
    (run : ∀ (σ : L2.St) (s : Shared) (H : Hp) (u : Value) (v : V) (Q : VK), Env0 X.prog X.w X.K X.mg X.base X.A X.stack s H → know σ s H → RelV v u → sp σ v H Q →
      codeAny (model X.prog X.w) X.A (.call (.ref g) ⟨[u], []⟩) (CR CX X.stack X.prog X.w H s Q E) s)
    (hdb : (x == ("__debug__" : Str)) = false := by decide) (hst : starEach [e] X.env = (false, eval e X.env) :: starEach [] X.env := by rfl) :
    PE X (.Call (.Name x p) [e] [] pos) (fun σ H Q => ta σ H fun vs H1 => ∃ v, vs = [v] ∧ sp σ v H1 Q) := by
  refine ⟨fun pins s σ H Q I h => ?_⟩
  refine wpAny_Call_Name_kw (ld_glob I hg hm ?_ hdb)
  refine PySem.W.callWith_K (h₀ := X.base) I.ok.mod.kin hk (thn (ha.run pos pins s σ H _ I h) fun us s1 y => ?_) hst rfl
  · obtain ⟨vs, H1, I1, rv, v, rfl, q⟩ := y
    cases rv with
    | @cons _ u _ _ ru rn =>
    cases rn
    refine ⟨I1.kIn, wpAny_call (codeAny_mono (run σ s1 H1 u v Q I1.env0 (hP pins σ H1 s1 I1) ru q) fun r s' hq => ?_)⟩
    cases r with
    | error er => exact hx pins σ H1 s1 er s' I1 hq
    | ok fl =>
      cases fl with
      | ret w2 => exact I1.after hq
      | next => exact hq.elim
      | brk => exact hq.elim
      | cont => exact hq.elim
end
end Sho
set_option Elab.async false
set_option linter.all false
set_option maxRecDepth 100000
set_option maxHeartbeats 2000000
/-! Small words that every law's text uses. -/
namespace Shg
open PySem L2 Sho
theorem pair_len {α β : Type} {R : α → β → Prop} : ∀ {as : List α} {bs : List β}, PySem.Paired R as bs → as.length = bs.length
  | _, _, .nil => rfl
  | _, _, .cons _ r => congrArg Nat.succ (pair_len r)
theorem pair_get {α β : Type} {R : α → β → Prop} : ∀ {as : List α} {bs : List β} {i : Nat} {a : α}, PySem.Paired R as bs → as[i]? = some a → ∃ b, bs[i]? = some b ∧ R a b
  | _, _, i, a, .nil, h => by simp at h
  | _, _, 0, a, .cons h r, e => by
    simp at e
    subst e
    exact ⟨_, rfl, h⟩
  | _, _, i + 1, a, .cons h r, e => by
    simp at e
    obtain ⟨b, e2, r2⟩ := pair_get r e
    exact ⟨b, by simpa using e2, r2⟩
theorem pair_mono {α β : Type} {R S : α → β → Prop} (k : ∀ a b, R a b → S a b) : ∀ {as : List α} {bs : List β}, PySem.Paired R as bs → PySem.Paired S as bs
  | _, _, .nil => .nil
  | _, _, .cons h r => .cons (k _ _ h) (pair_mono k r)
theorem pair_app {α β : Type} {R : α → β → Prop} : ∀ {as : List α} {bs : List β} {cs : List α} {ds : List β}, PySem.Paired R as bs → PySem.Paired R cs ds → PySem.Paired R (as ++ cs) (bs ++ ds)
  | _, _, _, _, .nil, k => k
  | _, _, _, _, .cons h r, k => .cons h (pair_app r k)
theorem same_upd {p : Addr} {H : Hp} {o : HO} (hp : H p = none) : Same H (upd H p o) := fun b u e => by rw [upd_ne (ne_of_none e hp)]; exact e
theorem asg_seq {te : TE} {g : TG} {u : TS} {D : Ends} {σ : L2.St} {H : Hp} (h : te σ H fun x H1 => g x σ H1 (u D)) : tSeq (tAsg te g) u D σ H := h
theorem asg_one {te : TE} {g : TG} {D : Ends} {σ : L2.St} {H : Hp} (h : te σ H fun x H1 => g x σ H1 D.nx) : tAsg te g D σ H := h
theorem cons_of {te : TE} {ta : L2.TA} {σ : L2.St} {H : Hp} {Q : List V → Hp → Prop} (h : te σ H fun v H1 => ta σ H1 fun vs H2 => Q (v :: vs) H2) : tCons te ta σ H Q := h
theorem name_of {i : Nat} {v : V} {σ : L2.St} {H : Hp} {N : L2.St → Hp → Prop} {r : VK} {b c : L2.St → Hp → Prop} (h : N (σ.set i (some v)) H) : gName i v σ H (L2.Ends.nx { nx := N, rt := r, bk := b, ct := c }) := h
theorem name_at {i : Nat} {v : V} {σ : L2.St} {H : Hp} {N : L2.St → Hp → Prop} (h : N (σ.set i (some v)) H) : gName i v σ H N := h
theorem lst_of {t : L2.TA} {σ : L2.St} {H : Hp} {Q : VK} (h : t σ H fun xs H1 => xs.length ≤ sizeLine ∧ ∀ p, H1 p = none → Q (.ref p) (upd H1 p (.lst xs))) : tLst t σ H Q := h
theorem nx_of {N : L2.St → Hp → Prop} {r : VK} {b c : L2.St → Hp → Prop} {σ : L2.St} {H : Hp} (h : N σ H) : L2.Ends.nx { nx := N, rt := r, bk := b, ct := c } σ H := h
theorem asg_val {te : TE} {g : TG} {u : TS} {D : Ends} {σ : L2.St} {H : Hp} (v : V) (h1 : ∀ R : VK, (∀ H', Same H H' → R v H') → te σ H R) (h2 : ∀ H', Same H H' → g v σ H' (u D)) : tSeq (tAsg te g) u D σ H := h1 _ h2
theorem asg_rel {te : TE} {g : TG} {u : TS} {D : Ends} {σ : L2.St} {H : Hp} (P : V → Hp → Prop) (h1 : ∀ R : VK, (∀ v H', P v H' → R v H') → te σ H R) (h2 : ∀ v H', P v H' → g v σ H' (u D)) : tSeq (tAsg te g) u D σ H := h1 _ h2
theorem if_rel {c : TT} {A u : TS} {D : Ends} {σ : L2.St} {H : Hp} (P : Hp → Prop) (h1 : ∀ R : Bool → Hp → Prop, (∀ H', P H' → R false H') → c σ H R) (h2 : ∀ H', P H' → u D σ H') : tSeq (tIfS c A tNext) u D σ H :=
  h1 _ fun H' p => iteF (h2 H' p)
theorem if_rel1 {c : TT} {A : TS} {D : Ends} {σ : L2.St} {H : Hp} (P : Hp → Prop) (h1 : ∀ R : Bool → Hp → Prop, (∀ H', P H' → R false H') → c σ H R) (h2 : ∀ H', P H' → D.nx σ H') : tIfS c A tNext D σ H :=
  h1 _ fun H' p => iteF (h2 H' p)
theorem ok_no {P : Program} {w : World} {K : PySem.W.Frag} {mg : Str → Option Value} {base : Heap} {CX : CXT} {k : Nat} {f : Addr} {fd : FuncData} {ps : List Str} : FnOk P w K mg base CX k f fd ps (fun _ _ _ _ => False) :=
  ⟨fun _ _ _ _ h => h.elim, fun _ _ _ _ _ _ _ _ _ _ _ _ _ h => h.elim⟩
theorem free_by {sn os : List (Str × NameKind)} (h : (sn.all fun y => !decide (y.2 = .free) || (decide (os.lookup y.1 = some .cell) || decide (os.lookup y.1 = some .free))) = true) :
    ∀ y ∈ sn, y.2 = .free → os.lookup y.1 = some .cell ∨ os.lookup y.1 = some .free := fun y hy e => by
  have q := List.all_eq_true.mp h y hy
  rw [decide_eq_true e] at q
  simpa using q
abbrev scL (l : List (Str × NameKind)) : Scope := { kind := .function, names := l, isGenerator := false, isCoroutine := false }
theorem ne_lst {L b : Addr} {H : Hp} {xs : List V} {o : HO} (hL : H L = some (.lst xs)) (e : H b = some o) (n : ∀ ys, o ≠ .lst ys) : b ≠ L := fun z => by
  rw [z, hL] at e
  exact n xs (Option.some.inj e).symm
theorem seq_nat {j n : Nat} (h : j < n) : seqIndex? (j : Int) n = some j := by
  have e0 : (if (j : Int) < 0 then (j : Int) + n else (j : Int)) = (j : Int) := if_neg (by omega)
  show (if (decide (0 ≤ (if (j : Int) < 0 then (j : Int) + n else (j : Int))) && decide ((if (j : Int) < 0 then (j : Int) + n else (j : Int)) < (n : Int))) = true then some (if (j : Int) < 0 then (j : Int) + n else (j : Int)).toNat else none) = some j
  rw [e0]
  have e : (decide (0 ≤ (j : Int)) && decide ((j : Int) < (n : Int))) = true := by simp; omega
  rw [if_pos e]
  simp
theorem ixN_nat {n j : Nat} (hj : j < n) : ixN n (j : Int) = some j := by
  unfold ixN
  rw [if_pos (by omega), if_pos (by omega)]
  simp
theorem gather_filter {α : Type} (xs : List α) (p : α → Bool) (f : α → V) : gather (fun i => (xs[i]?).bind fun x => if p x = true then some (f x) else none) xs.length = (xs.filter p).map f := by
  rw [gather_list]
  induction xs with
  | nil => rfl
  | cons x xs ih =>
    rw [List.filterMap_cons, List.filter_cons]
    cases h : p x with
    | true =>
      simp only [if_true, List.map_cons, ih]
    | false =>
      simp only [Bool.false_eq_true, if_false, ih]
/-- an expression read in one of two ways -/
theorem pe_either {X : Cx} {e : Expr} {t1 t2 : TE} (h1 : PE X e t1) (h2 : PE X e t2) : PE X e (fun σ H Q => t1 σ H Q ∨ t2 σ H Q) :=
  ⟨fun pins s σ H Q I h => h.elim (h1.run pins s σ H Q I) (h2.run pins s σ H Q I)⟩
/-- the builtins that the text calls -/
structure Blt (mg : Str → Option Value) : Prop where
  len : mg "len" = none
  all : mg "all" = none
  isi : mg "isinstance" = none
  bool : mg "bool" = none
  tuple : mg "tuple" = none
  list : mg "list" = none
  range : mg "range" = none
  enum : mg "enumerate" = none
  int : mg "int" = none
  sup : mg "super" = none
  sorted : mg "sorted" = none
  dict : mg "dict" = none
  str : mg "str" = none
  min : mg "min" = none
  max : mg "max" = none
  ve : mg "ValueError" = none
  set : mg "set" = none
  sum : mg "sum" = none
  any : mg "any" = none
/-- all but two objects stay -/
def But2 (l S : Addr) (H H' : Hp) : Prop := ∀ b o, H b = some o → b ≠ l → b ≠ S → H' b = some o
theorem But2.refl {l S : Addr} (H : Hp) : But2 l S H H := fun _ _ e _ _ => e
theorem But2.trans {l S : Addr} {H H1 H2 : Hp} (a : But2 l S H H1) (b : But2 l S H1 H2) : But2 l S H H2 := fun c o e n m => b c o (a c o e n m) n m
theorem But2.of {l S : Addr} {H H' : Hp} (s : Same H H') : But2 l S H H' := fun b o e _ _ => s b o e
theorem But2.upd1 {l S : Addr} {H : Hp} {o : HO} : But2 l S H (upd H l o) := fun b u e nb _ => by rw [upd_ne nb]; exact e
theorem But2.upd2 {l S : Addr} {H : Hp} {o : HO} : But2 l S H (upd H S o) := fun b u e _ nb => by rw [upd_ne nb]; exact e
/-- all but two objects and the tables stay -/
def Keep2 (l S : Addr) (H H' : Hp) : Prop := ∀ b o, H b = some o → b ≠ l → b ≠ S → (∀ ps, o ≠ .tbl ps) → H' b = some o
theorem Keep2.trans {l S : Addr} {H H1 H2 : Hp} (a : Keep2 l S H H1) (b : Keep2 l S H1 H2) : Keep2 l S H H2 := fun c o e n m t => b c o (a c o e n m t) n m t
theorem Keep2.of {l S : Addr} {H H' : Hp} (s : Same H H') : Keep2 l S H H' := fun b o e _ _ _ => s b o e
theorem Keep2.but {l S : Addr} {H H' : Hp} (s : But2 l S H H') : Keep2 l S H H' := fun b o e n m _ => s b o e n m
theorem Keep2.ext {l S : Addr} {H H' : Hp} (s : LamX.ExtN H H') : Keep2 l S H H' := fun b o e _ _ t => s b o e t
/-- a def whose code object is known -/
structure FunL (K : PySem.W.Frag) (x qual : Str) (st : Stmt) (f c : Addr) (fd : FuncData) : Prop where
  ex : ∃ (oc : Value) (od : Option Addr) (kV doc pm : Value) (an : Option Addr) (ct : Value) (osl : Array (Option Value)),
    fd = PySem.W.fnOf x qual (defArgs st) (defBody st) (defScope st) .none kV doc pm an (.ref c) ct ∧ K.lookup f = some ⟨oc, od, .func (PySem.W.fnOf x qual (defArgs st) (defBody st) (defScope st) .none kV doc pm an (.ref c) ct), osl⟩ ∧ PySem.W.codeIn K (.ref c) qual = true
theorem FunL.okX {P : Program} {w : World} {K : PySem.W.Frag} {mg : Str → Option Value} {base : Heap} {x qual : Str} {st : Stmt} {f c : Addr} {fd : FuncData} {N ps : List Str} {k : Nat} {sp : Sp} (F : FunL K x qual st f c fd) (S : FnScope N ps (defScope st)) (len : ∀ vs H Q E, sp vs H Q E → vs.length = ps.length)
    (hbody : ∀ (A : Around) (outer : List Env) (s : Shared) (H : Hp) (vs : List V) (Q : VK) (E : XK), Room k (A.deeper (PyProof.Rows.envOfC qual (defScope st) s.heap.objs.size f (.ref c))) → sp vs H Q E →
      ∃ t, PSs (cxOf (L2.CX P w) P w K mg base N qual (defScope st) f (.ref c) A outer s H E) (defBody st) t ∧ t { nx := fun _ H' => Q .non H', rt := Q } (L2.start N vs) H) : FnOk P w K mg base (L2.CX P w) (k + 1) f fd ps sp := by
  obtain ⟨oc, od, kV, doc, pm, an, ct, osl, rfl, lk, hcd⟩ := F.ex
  exact fn_of lk hcd S len fun A outer s H vs Q E hr hsp => hbody A outer s H vs Q E hr hsp
theorem FunL.ok0 {P : Program} {w : World} {K : PySem.W.Frag} {mg : Str → Option Value} {base : Heap} {x qual : Str} {st : Stmt} {f c : Addr} {fd : FuncData} {N ps : List Str} {k : Nat} {sp : Sp} (F : FunL K x qual st f c fd) (S : FnScope N ps (defScope st)) (len : ∀ vs H Q E, sp vs H Q E → vs.length = ps.length)
    (hbody : ∀ (A : Around) (outer : List Env) (s : Shared) (H : Hp) (vs : List V) (Q : VK) (E : XK), Room k (A.deeper (PyProof.Rows.envOfC qual (defScope st) s.heap.objs.size f (.ref c))) → sp vs H Q E →
      ∃ t, PSs (cxOf CX0 P w K mg base N qual (defScope st) f (.ref c) A outer s H E).nox (defBody st) t ∧ t { nx := fun _ H' => Q .non H', rt := Q } (L2.start N vs) H) : FnOk P w K mg base CX0 (k + 1) f fd ps sp := by
  obtain ⟨oc, od, kV, doc, pm, an, ct, osl, rfl, lk, hcd⟩ := F.ex
  refine fn_of lk hcd S len fun A outer s H vs Q E hr hsp => ?_
  obtain ⟨t, h, q⟩ := hbody A outer s H vs Q E hr hsp
  exact ⟨t, h.nox, q⟩
end Shg
set_option Elab.async false
set_option linter.all false
set_option maxRecDepth 100000
set_option maxHeartbeats 2000000
/-! Facts of the head for laws without the ten errors. -/
namespace Shd
open PySem L2 Sho NdefX He Shh Shg
section
variable {K : Shh.Fr} {h : Heap} {mg : Str → Option Value}
abbrev bltNames : List Str := ["len", "all", "isinstance", "bool", "tuple", "list", "range", "enumerate", "int", "super", "sorted", "dict", "str", "min", "max", "ValueError", "set", "sum", "any"]
theorem blt_ok (X : K.In h) (G : h.Ns mainGlobals mg) (c : freeB K bltNames = true) : Shg.Blt mg := by
  have k : ∀ x, x ∈ bltNames → mg x = none := fun x hx => freeB_ok X G c hx
  exact ⟨k _ (by simp), k _ (by simp), k _ (by simp), k _ (by simp), k _ (by simp), k _ (by simp), k _ (by simp), k _ (by simp), k _ (by simp), k _ (by simp), k _ (by simp), k _ (by simp), k _ (by simp), k _ (by simp), k _ (by simp), k _ (by simp), k _ (by simp), k _ (by simp), k _ (by simp)⟩
end
theorem _root_.Shh.FunF.funL9 {K : Shh.Fr} {x qual : Str} {st : Stmt} {f : Addr} (F : FunF K x qual st [] f) : ∃ fd, Shg.FunL K x qual st f (codeA K f) fd ∧
    (∀ ps : List Str, (∀ (kV doc pm : Value) (an : Option Addr) (cdv ct : Value) (us : List Value), us.length = ps.length → bindArgs (PySem.W.fnOf x qual (defArgs st) (defBody st) (defScope st) .none kV doc pm an cdv ct) ⟨us, []⟩ = pure (ps.zip us)) → Binds K fd ps []) ∧
    ∀ ps : List Str, (∀ (kV doc pm : Value) (an : Option Addr) (cdv ct : Value) (us : List Value), us.length = ps.length → bindArgs (PySem.W.fnOf x qual (defArgs st) (defBody st) (defScope st) .none kV doc pm an cdv ct) ⟨us, []⟩ = pure (ps.zip us)) → ∀ (s : Shared) (us : List Value), us.length = ps.length → BindsTo s fd ⟨us, []⟩ (ps.zip us) := by
  obtain ⟨oc, od, doc, pm, an, ct, osl, lk, hcd⟩ := F.ex
  exact ⟨_, ⟨oc, od, .none, doc, pm, an, ct, osl, rfl, lk, hcd⟩, fun ps h => .all (h .none doc pm an _ ct), fun ps h s us hl => .of_eq (h .none doc pm an _ ct us hl)⟩
abbrev dn (x : Str) (st : Stmt) : Dn := ⟨fun K => ga K x, x, x, st, fun _ => []⟩
def tabA (K : Shh.Fr) (x : Str) : Addr := tabOf K (codeA K (ga K x))
end Shd
set_option Elab.async false
set_option linter.all false
set_option maxRecDepth 100000
set_option maxHeartbeats 2000000
/-! Operators of own classes by a promise; instances made with a star. -/
namespace Sho
open PySem PySem.Spec PyProof.Rows L2 StX

section
variable {P : Program} {w : World} {K : PySem.W.Frag} {mg : Str → Option Value} {base : Heap} {CX : CXT} {k : Nat} {f : Addr} {fd : FuncData} {ps : List Str} {sp : Sp}
/-- a def's promise by its values alone -/
theorem fnr_of (F : FnOk P w K mg base CX k f fd ps sp) (hb : Binds K fd ps []) : FnR P w K mg base CX k f sp := by
  intro A outer s H us vs Q E hr e0 r h
  have hl := F.len _ _ _ _ h
  have hk : K.In s.heap := e0.mod.kin.keeps fun b o e => (e0.bs b o e).1
  have b := hb s us hk (by rw [List.append_nil, ← r.length]; exact hl)
  rw [List.append_nil] at b
  exact F.run A outer s H ⟨us, []⟩ us vs Q E hr e0 b r h
end

section
variable {X : Cx} {CX : CXT} {k : Nat} {f C : Addr} {sp : Sp} {E : XK}
theorem run_r {pins : List (Addr × Obj)} {σ : L2.St} {H : Hp} {s : Shared} {Q : VK} {us : List Value} {vs : List V} (F : FnR X.prog X.w X.K X.mg X.base CX k f sp) (hr : Room k X.A) (hx : Passes CX X E)
    (I : Inv X pins σ H s) (r : Vals vs us) (h : sp vs H Q E) : wpAny (model X.prog X.w) X.A (call (.ref f) us) (EP X pins σ Q) X.xe s := by
  refine wpAny_call (codeAny_mono (F X.A X.stack s H us vs Q E hr I.env0 r h) fun r s' hq => ?_)
  cases r with
  | error e => exact hx pins σ H s e s' I hq
  | ok fl =>
    cases fl with
    | ret u => exact I.after hq
    | next => exact False.elim hq
    | brk => exact False.elim hq
    | cont => exact False.elim hq

theorem back_of {pins : List (Addr × Obj)} {σ : L2.St} {Q : VK} {u : Value} {s' : Shared} (h : EP X pins σ Q u s') : PySem.W.CmpBack (EP X pins σ Q) u s' := by
  obtain ⟨v, H', I, r, q⟩ := h
  cases u with
  | notImplemented => exact nomatch (show absV Value.notImplemented = some v from RelV.abs r)
  | _ => exact ⟨v, H', I, r, q⟩

/-- an own instance, the instance's own place in the heap -/
def InsAt (H : Hp) (a C : Addr) : Prop := ∃ dx fs, H a = some (.ins C dx fs)

/-- a op b, both of the class at C, C's own method -/
def rOwn2 (C : Addr) (sp : Sp) (E : XK) : R2 := fun x y H Q => ∃ a b, x = .ref a ∧ y = .ref b ∧ InsAt H a C ∧ InsAt H b C ∧ sp [.ref a, .ref b] H Q E
theorem op_own2 {op : Operator} (F : FnR X.prog X.w X.K X.mg X.base CX k f sp) (hr : Room k X.A) (hx : Passes CX X E) (hc : PySem.W.selfFirst X.K C = true)
    (hs : PySem.W.findIn X.K (.ref C) (PySem.dunder op.info.2) = some (some (.ref f))) (hf : PySem.W.isFn X.K (.ref f) = true) : OpR X (binaryOp op) (rOwn2 C sp E) := by
  rintro pins s σ H x y u v Q I rx ry ⟨a, b, rfl, rfl, ⟨dx, fs, ha⟩, ⟨dy, gs, hb⟩, h⟩
  cases rx
  cases ry
  obtain ⟨mA, J, _⟩ := ins_get I.hok ha
  obtain ⟨mB, J', _⟩ := ins_get I.hok hb
  obtain ⟨od, J, _⟩ := J.look
  obtain ⟨od', J', _⟩ := J'.look
  obtain ⟨m, hF⟩ := I.fr
  exact PySem.W.binop_K hF I.ok.mod.kin J J'.type hc hs hf (thn (run_r (vs := [.ref a, .ref b]) F hr hx I (.cons rfl (.cons rfl .nil)) h) fun u s' q => back_of q)

/-- a op b, a of the class at C, b of the built-in type T -/
def rOwnT (C : Addr) (sp : Sp) (E : XK) (isT : V → Prop) : R2 := fun x y H Q => ∃ a, x = .ref a ∧ isT y ∧ InsAt H a C ∧ sp [.ref a, y] H Q E
theorem op_ownT {op : Operator} {T : String} {isT : V → Prop} {fo ro rc : Option Value} (F : FnR X.prog X.w X.K X.mg X.base CX k f sp) (hr : Room k X.A) (hx : Passes CX X E) (hc : PySem.W.selfFirst X.K C = true)
    (hT : ∀ y v, isT y → RelV y v → typeOf v = pure (.type T))
    (hs : PySem.W.findIn X.K (.ref C) (PySem.dunder op.info.2) = some (some (.ref f))) (hf : PySem.W.isFn X.K (.ref f) = true)
    (hr2 : PySem.W.findIn X.K (.ref C) (dunderR op.info.2) = some rc) (hp : rc = none ∨ ∃ g : Addr, rc = some (.ref g))
    (h1 : PySem.W.findIn X.K (.type T) (PySem.dunder op.info.2) = some fo) (h2 : PySem.W.findIn X.K (.type T) (dunderR op.info.2) = some ro) (hsub : PySem.W.subIn X.K (.type T) (.ref C) = some false) :
    OpR X (binaryOp op) (rOwnT C sp E isT) := by
  rintro pins s σ H x y u v Q I rx ry ⟨a, rfl, ht, ⟨dx, fs, ha⟩, h⟩
  cases rx
  obtain ⟨mA, J, _⟩ := ins_get I.hok ha
  obtain ⟨od, J, _⟩ := J.look
  obtain ⟨m, hF⟩ := I.fr
  exact PySem.W.ksp_binT hF I.ok.mod.kin J (hT _ _ ht ry) hc hs hf hr2 hp h1 h2 hsub (thn (run_r (vs := [.ref a, y]) F hr hx I (.cons rfl (.cons ry .nil)) h) fun u s' q => back_of q)
def isInt : V → Prop := fun y => ∃ i, y = .int i
def isStr : V → Prop := fun y => ∃ i, y = .str i
theorem ty_int : ∀ y v, isInt y → RelV y v → typeOf v = pure (.type "int") := by
  rintro y v ⟨i, rfl⟩ ⟨t, rfl⟩
  rfl
theorem ty_str : ∀ y v, isStr y → RelV y v → typeOf v = pure (.type "str") := by
  rintro y v ⟨i, rfl⟩ ⟨t, rfl⟩
  rfl

/-- x in a, not in: a's own __contains__, which hands back a bool -/
def rOwnIn (C : Addr) (neg : Bool) (sp : Sp) (E : XK) : R2 := fun x y H Q => ∃ a, y = .ref a ∧ InsAt H a C ∧ sp [.ref a, x] H (fun r H' => ∃ c, r = .bl c ∧ Q (.bl (if neg then !c else c)) H') E
theorem op_ownIn (F : FnR X.prog X.w X.K X.mg X.base CX k f sp) (hr : Room k X.A) (hx : Passes CX X E)
    (hs : PySem.W.findIn X.K (.ref C) "__contains__" = some (some (.ref f))) (hf : PySem.W.isFn X.K (.ref f) = true) : OpR X (compareOp .In) (rOwnIn C false sp E) := by
  rintro pins s σ H x y u v Q I rx ry ⟨a, rfl, ⟨dx, fs, ha⟩, h⟩
  cases ry
  obtain ⟨mA, J, _⟩ := ins_get I.hok ha
  obtain ⟨od, J, _⟩ := J.look
  obtain ⟨m, hF⟩ := I.fr
  refine PySem.W.in_K hF I.ok.mod.kin J hs hf (thn (run_r (vs := [.ref a, x]) F hr hx I (.cons rfl (.cons rx .nil)) h) fun r s' q => ?_)
  obtain ⟨v2, H2, I2, r2, c, rfl, q2⟩ := q
  cases r2
  exact wpAny_truthy_bool ⟨.bl _, H2, I2, rfl, q2⟩
theorem op_ownNotIn (F : FnR X.prog X.w X.K X.mg X.base CX k f sp) (hr : Room k X.A) (hx : Passes CX X E)
    (hs : PySem.W.findIn X.K (.ref C) "__contains__" = some (some (.ref f))) (hf : PySem.W.isFn X.K (.ref f) = true) : OpR X (compareOp .NotIn) (rOwnIn C true sp E) := by
  rintro pins s σ H x y u v Q I rx ry ⟨a, rfl, ⟨dx, fs, ha⟩, h⟩
  cases ry
  obtain ⟨mA, J, _⟩ := ins_get I.hok ha
  obtain ⟨od, J, _⟩ := J.look
  obtain ⟨m, hF⟩ := I.fr
  refine PySem.W.notIn_K hF I.ok.mod.kin J hs hf (thn (run_r (vs := [.ref a, x]) F hr hx I (.cons rfl (.cons rx .nil)) h) fun r s' q => ?_)
  obtain ⟨v2, H2, I2, r2, c, rfl, q2⟩ := q
  cases r2
  exact wpAny_truthy_bool ⟨.bl _, H2, I2, rfl, q2⟩

/-- a[i]: a's own __getitem__ -/
def rOwnIx (C : Addr) (sp : Sp) (E : XK) : R2 := fun x y H Q => ∃ a, x = .ref a ∧ InsAt H a C ∧ sp [.ref a, y] H Q E
/-- C(*y), y a list or a tuple -/
def tMakeS (K : PySem.W.Frag) (C : Addr) (sp : Sp) (E : XK) (te : TE) : TE := fun σ H Q => te σ H fun y H1 => ∃ a xs, y = V.ref a ∧ (SqT K H1 a xs ∨ SqL K H1 a xs) ∧ ∀ x dx, H1 x = Option.none → H1 dx = Option.none → dx ≠ x →
  sp (V.ref x :: xs) (upd (upd H1 dx (.own x)) x (.ins C dx [])) (fun v H2 => v = .non ∧ Q (.ref x) H2) E
theorem pe_makeS {x : Str} {e : Expr} {te : TE} {p sp_ pos : Pos} (M : Mk X.K C f) (F : FnR X.prog X.w X.K X.mg X.base CX k f sp) (hr : Room (k + 1) X.A) (hg : Gl X x) (hm : X.mg x = some (.ref C)) (hx : Passes CX X E) (he : PE X e te) (hd : (x == ("__debug__" : Str)) = false := by decide)
    (hst : starEach [.Starred e sp_] X.env = [(true, eval e X.env)] := by rfl) : PE X (.Call (.Name x p) [.Starred e sp_] [] pos) (tMakeS X.K C sp E te) := by
  refine ⟨fun pins s σ H Q I h => ?_⟩
  refine wpAny_Call_Name_kw (ld_glob I hg hm ?_ hd)
  refine PySem.W.callWith_S (h₀ := X.base) I.ok.mod.kin M.kp (thn (he.run pins s σ H _ I h) fun v s1 ⟨y, H1, I1, ry, a, xs, ey, hxs, q⟩ => ?_) hst
  subst ey
  obtain rfl : v = Value.ref a := ry
  exact star_any I1 hxs fun us s2 I2 rv => ⟨I2.kIn, run_makeR M F hr hx I2 rv q⟩
/-- C() -/
theorem pe_makeR0 {x : Str} {p pos : Pos} (M : Mk X.K C f) (F : FnR X.prog X.w X.K X.mg X.base CX k f sp) (hr : Room (k + 1) X.A) (hg : Gl X x) (hm : X.mg x = some (.ref C)) (hx : Passes CX X E) (hdb : (x == ("__debug__" : Str)) = false := by decide) :
    PE X (.Call (.Name x p) [] [] pos) (tMakeR C sp E tNil) := by
  refine ⟨fun pins s σ H Q I h => ?_⟩
  refine wpAny_Call_Name_kw (ld_glob I hg hm ?_ hdb)
  exact PySem.W.callWith_K0 I.kIn M.kp (run_makeR (us := []) M F hr hx I .nil h)
end
end Sho
set_option Elab.async false
set_option linter.all false
namespace Sh1
open PySem L2
abbrev pw : Program := PySem.Challenge.pw_shoepile_k09_invalid_comings_and_goings
def top (i : Nat) : Stmt := PySem.Challenge.pw_shoepile_k09_invalid_comings_and_goings.main.body.getD i (.Pass ⟨0, 0, 0, 0⟩)
abbrev sWall : Stmt := top 0
abbrev cPartyError : Stmt := top 2
abbrev cInvalidStay : Stmt := top 3
abbrev sInvInit : Stmt := inClass (top 3) 0
abbrev cTooManyGuests : Stmt := top 4
abbrev cInvalidGoings : Stmt := top 5
abbrev sGoingsInit : Stmt := inClass (top 5) 0
abbrev sIsName : Stmt := top 9
abbrev sIsWithin : Stmt := top 10
abbrev sBottomUp : Stmt := top 11
abbrev sCheckComings : Stmt := top 14
abbrev sCheckGoings : Stmt := top 15
abbrev sAfterGoing : Stmt := top 16
abbrev sWaysToGo : Stmt := top 17
abbrev cGoingObserver : Stmt := top 18
abbrev sGoingObserver_Init : Stmt := inClass (top 18) 0
abbrev sGoingObserver_Records : Stmt := inClass (top 18) 1
abbrev sGoingObserver_CheckIndex : Stmt := inClass (top 18) 2
abbrev sGoingObserver_Names : Stmt := inClass (top 18) 3
abbrev sGoingObserver_WaysWith : Stmt := inClass (top 18) 4
abbrev sGoingObserver_Accept : Stmt := inClass (top 18) 5
abbrev sGoingObserver_SeeLift : Stmt := inClass (top 18) 6
abbrev sGoingObserver_SeeGuest : Stmt := inClass (top 18) 7
abbrev sGoingObserver_WayCount : Stmt := inClass (top 18) 8
abbrev sGoingObserver_PossibleGuests : Stmt := inClass (top 18) 9
abbrev sGoingObserver_FindParty : Stmt := inClass (top 18) 10
abbrev sStart : Stmt := top 20
abbrev sDrawn : Stmt := top 21
abbrev sSame : Stmt := top 22
abbrev sOut : Stmt := top 23
abbrev sLawFault : Stmt := top 24
abbrev sLaw : Stmt := top 25
abbrev nDue : PySem.Str := "_law_due"
end Sh1
set_option Elab.async false
set_option linter.all false
set_option maxRecDepth 100000
set_option maxHeartbeats 2000000
namespace Sh1
open PySem L2 Sho
abbrev Stay := Str × Int × Int
def StayV (H : Hp) (v : V) (x : Stay) : Prop := ∃ t, v = .ref t ∧ H t = some (.tup [.str x.1, .int x.2.1, .int x.2.2])
/-- the builtins that the text calls -/
structure Blt (mg : Str → Option Value) : Prop where
  len : mg "len" = none
  all : mg "all" = none
  isi : mg "isinstance" = none
  bool : mg "bool" = none
  tuple : mg "tuple" = none
  list : mg "list" = none
  range : mg "range" = none
  enum : mg "enumerate" = none
  int : mg "int" = none
  sup : mg "super" = none
  sorted : mg "sorted" = none
section
variable {P : Program} {w : World} {K : PySem.W.Frag} {mg : Str → Option Value} {base : Heap}
/-! ### is_name -/
def letter (c : Nat) : Bool := !decide (c < 97) && !decide (122 < c)
def okName (z : Str) : Bool := decide ((1 : Int) ≤ z.length) && (decide ((z.length : Int) ≤ 8) && z.cps.toList.all letter)
theorem one_lt (c d : Nat) : ([c] < [d]) ↔ c < d := by
  rw [List.cons_lt_cons_iff]
  simp
theorem cps_a : (Str.ofString "a").cps.toList = [97] := by decide +kernel
theorem cps_z : (Str.ofString "z").cps.toList = [122] := by decide +kernel
def spIsName : Sp := fun vs H Q _ => ∃ z : Str, vs = [.str z] ∧ z.length ≤ sizeLine ∧ ∀ H', Same H H' → Q (.bl (okName z)) H'
theorem scIsName : FnScope ["word", "letter"] ["word"] (defScope sIsName) := ⟨rfl, rfl, rfl, by decide +kernel, rfl, by decide +kernel, by decide +kernel⟩
theorem ok_isName {f : Addr} {fd : FuncData} {t8 : Tok} (F : Fun K "is_name" "is_name" sIsName f fd) (B : Blt mg) (g8 : mg "LONGEST_NAME" = some (.int 8 t8)) : FnOk P w K mg base CX0 1 f fd ["word"] spIsName := by
  refine F.ok scIsName (fun vs H Q E h => ?_) (fun cdv A outer s H vs Q E hr h => ?_)
  · obtain ⟨z, rfl, _⟩ := h
    rfl
  · obtain ⟨z, rfl, hz, k⟩ := h
    refine ⟨_, pss_one (ps_ret (pe_and (pe_chain op_le op_le pe_int (pe_callB call_len_str (by rfl) B.len PySem.boot_len (pa_cons (pv 0) pa_nil)) (pe_glob (v := .int 8) rfl g8 ⟨_, rfl⟩)) (pe_one
      (pe_callB (cr_all rfl) (by rfl) B.all (by decide +kernel) (pa_cons (pe_lc (own := [("letter", 1)]) (g := gName 1) (tt := tYes) rfl scIsName.nd (pi_str (pv 0)) (blkOk_by (own := [("letter", 1)]) (N := ["word", "letter"]) (sc := defScope sIsName) (by decide +kernel))
        (fun _ _ _ _ _ => pg_name (i := 1) scIsName.nd rfl (Or.inl rfl)) (fun _ _ _ _ _ => pts_nil)
        (fun _ _ _ _ _ => pe_chain op_le_str op_le_str pe_str (pv 1) pe_str)) pa_nil))))), ?_⟩
    refine ⟨_, rfl, z, rfl, hz, _, _, rfl, rfl, _, rfl, ?_⟩
    refine ite2 (fun h1 => ?_) (fun h1 => ?_)
    · refine ⟨_, _, rfl, rfl, _, rfl, ?_⟩
      refine ite2 (fun h2 => ?_) (fun h2 => ?_)
      · refine ⟨_, rfl, z, rfl, fun D hD => ?_⟩
        refine lc_map (walk_str (z := z)) (fun i => (z.cps.toList[i]?).map fun c => .bl (letter c)) hD hz (fun _ _ => trivial) (fun i x H1 H' hi s1 y R k1 => ?_) (fun i hi => ⟨_, by rw [List.getElem?_eq_getElem (by simpa using hi)]; rfl⟩) fun H1 s1 e1 => ?_
        · obtain ⟨rfl, c, hc, rfl⟩ := y
          refine ⟨rfl, _, rfl, _, _, rfl, rfl, _, rfl, ?_⟩
          have fi : Option.map (fun c => V.bl (letter c)) z.cps.toList[i]? = some (.bl (letter c)) := by
            rw [Array.getElem?_toList, hc]
            rfl
          have e1 : decide (({ cps := #[c] } : Str).cps.toList < (Str.ofString "a").cps.toList) = decide (c < 97) := by
            rw [cps_a]
            exact decide_eq_decide.mpr (one_lt c 97)
          have e2 : decide ((Str.ofString "z").cps.toList < ({ cps := #[c] } : Str).cps.toList) = decide (122 < c) := by
            rw [cps_z]
            exact decide_eq_decide.mpr (one_lt 122 c)
          rw [e1]
          by_cases h3 : c < 97
          · rw [decide_eq_true h3]
            refine iteF (k1 _ _ (Same.refl _) ?_)
            rw [fi]
            simp [letter, h3]
          · rw [decide_eq_false h3]
            refine iteT ⟨_, _, rfl, rfl, ?_⟩
            rw [e2]
            refine k1 _ _ (Same.refl _) ?_
            rw [fi]
            simp [letter, h3]
        · refine ⟨D, z.cps.toList.map letter, rfl, ?_, ?_⟩
          · have e2 : gather (fun i => (z.cps.toList[i]?).map fun c => V.bl (letter c)) z.cps.size = (z.cps.toList.map letter).map V.bl := by
              have := gather_map z.cps.toList fun c => V.bl (letter c)
              rw [Array.length_toList] at this
              rw [this, List.map_map]
              rfl
            rw [← e2]
            exact SqL.of e1
          · have e3 : okName z = (z.cps.toList.map letter).all id := by
              unfold okName
              have h1' : (1 : Int) ≤ z.length := of_decide_eq_true h1
              have h2' : (z.length : Int) ≤ 8 := of_decide_eq_true h2
              rw [decide_eq_true h1', decide_eq_true h2', List.all_map]
              rfl
            rw [← e3]
            exact k _ s1
      · have e3 : okName z = false := by
          unfold okName
          have h2' : ¬ (z.length : Int) ≤ 8 := fun q => h2 (decide_eq_true q)
          rw [decide_eq_false h2']
          simp
        have := k H (Same.refl H)
        rw [e3] at this
        exact this
    · have e3 : okName z = false := by
        unfold okName
        have h1' : ¬ (1 : Int) ≤ z.length := fun q => h1 (decide_eq_true q)
        rw [decide_eq_false h1']
        rfl
      have := k H (Same.refl H)
      rw [e3] at this
      exact ⟨_, rfl, iteF this⟩
end
end Sh1
set_option Elab.async false
set_option linter.all false
set_option maxRecDepth 100000
set_option maxHeartbeats 2000000
namespace Sh1
open PySem L2 Sho NdefX
abbrev nfInv (cc cda : Addr) : NF := ⟨"__init__", "InvalidStay.__init__", defArgs sInvInit, defBody sInvInit, defScope sInvInit, [("__class__", cc)], cda⟩
/-- an own error that stores one field -/
structure ErrC (P : Program) (K : PySem.W.Frag) (mg : Str → Option Value) (x fld : Str) (F : Addr → Addr → NF) (C : Addr) : Prop where
  txt : ∃ f cc cda, SupTxt P K mg (F cc cda) f cc C ∧ PySem.W.findIn K (.ref C) "__init__" = some (some (.ref f)) ∧ PySem.W.typeIn K (.ref f) = some (.type "function")
  cls : SupCls K C C
  xf : XfC K C
  no : PySem.W.findIn K (.ref C) fld = some none
  gm : mg x = some (.ref C)
  exm : PySem.W.exmOne K (.ref C) (.ref C) = some true
section
variable {X : Cx} {CX : CXT} {C : Addr} {k : Nat} {kws : List Keyword} {te : TA} {p pos : Pos}
theorem tells_len {v : V} (h : Tells v) : (∃ y : Str, v = .str y ∧ y.length ≤ 100000) ∨ ∃ i : Int, v = .int i ∧ i.natAbs.log2 < 1920 ∧ (Str.ofString (toString i)).length ≤ 100000 := by
  rcases h with ⟨y, rfl, hy⟩ | ⟨i, rfl, hi⟩
  · exact .inl ⟨y, rfl, hy⟩
  · exact .inr ⟨i, rfl, hi, Nat.le_trans (PyProof.Rows.int_text_len_1921 hi) (by decide)⟩
theorem small_cat {a b : Str} {n m : Nat} (ha : a.length ≤ n) (hb : b.length ≤ m) : (a ++ b).length ≤ n + m := by
  rw [PySem.Str.length_append]
  omega
theorem pmk_inv (EC : ErrC X.prog X.K X.mg "InvalidStay" "index" nfInv C) (hr : Room (k + 2) X.A) (hx : Passes CX X (fun _ _ _ => False)) (hg : Gl X "InvalidStay")
    (hkw : PK X kws te) (hall : (backToKw pos (keywordEach kws X.env)).all (·.1.isSome) = true) (hks : (backToKw pos (keywordEach kws X.env)).filterMap (·.1) = [("index" : Str)])
    (hpl : ((backTo pos (starEach [] X.env)).any (·.1) || (backToKw pos (keywordEach kws X.env)).any (·.1.isNone)) = false) : PMk X (.Call (.Name "InvalidStay" p) [] kws pos) (tMkW C "index" te) := by
  obtain ⟨f, cc, cda, T, iC, tI⟩ := EC.txt
  have S : NScope ["self", "index", "__class__"] ["self", "index"] ["__class__"] (defScope sInvInit) := nscope_by (by decide +kernel)
  refine pmk_kw (F := nfInv cc cda) (fld := "index") (k := k) T EC.cls EC.xf EC.no iC tI S hr hx hg EC.gm hkw hall hks hpl rfl (fun s doc pm an ct xa u => .of_eq rfl) (fun A outer s H E xa v hv => ?_) (fun L => rfl) (fun L => rfl) (fun L => rfl)
  refine ⟨_, pa_cons (pe_joined (.cons pe_str (.cons (pe_fmt (pv 1)) (.cons pe_str .nil)))) pa_nil, fun R hR => ?_⟩
  have e0 : (Str.empty ++ Str.ofString "stay ").length ≤ 10 := by decide +kernel
  have e2 : (Str.ofString " is not allowed").length ≤ 20 := by decide +kernel
  refine ⟨_, rfl, Nat.le_trans e0 (by decide), v, rfl, ?_⟩
  rcases tells_len hv with ⟨y, rfl, hy⟩ | ⟨i, rfl, hi, hl⟩
  · have l1 := small_cat e0 hy
    have l2 := small_cat l1 e2
    exact .inl ⟨y, rfl, Nat.le_trans hy (by decide), y, rfl, Nat.le_trans l1 (by decide), _, rfl, Nat.le_trans l2 (by decide), hR _⟩
  · have l1 := small_cat e0 hl
    have l2 := small_cat l1 e2
    exact .inr ⟨i, rfl, hi, _, rfl, Nat.le_trans l1 (by decide), _, rfl, Nat.le_trans l2 (by decide), hR _⟩
end
end Sh1
set_option Elab.async false
set_option linter.all false
/-! What is asked of an own error class without an own __init__. -/
namespace Sho
open PySem L2
structure ErrO (K : PySem.W.Frag) (mg : Str → Option Value) (x : Str) (C : Addr) : Prop where
  ex : PySem.W.excIn K C [.type "ValueError", .type "Exception", .type "BaseException", .type "object"] "ValueError.__new__" = true
  gm : mg x = some (.ref C)
  kp : PySem.W.keepIn K (.ref C) = true
  be : PySem.W.subIn K (.ref C) (.type "BaseException") = some true
  ty : PySem.W.typeIn K (.ref C) = some (.type "type")
  exm : PySem.W.exmOne K (.ref C) (.ref C) = some true
theorem cat_le {a b : Str} {n m : Nat} (ha : a.length ≤ n) (hb : b.length ≤ m) : (a ++ b).length ≤ n + m := by
  rw [PySem.Str.length_append]
  omega
end Sho
set_option Elab.async false
set_option linter.all false
set_option maxRecDepth 100000
set_option maxHeartbeats 4000000
/-! is_within. -/
namespace Sh4
open PySem L2 Sho NdefX Shg Sh1
section
variable {P : Program} {w : World} {K : PySem.W.Frag} {mg : Str → Option Value} {base : Heap}
def spIsWithin : Sp := fun vs H Q _ => ∃ n a b : Int, vs = [.int n, .int a, .int b] ∧ Q (.bl (decide (a ≤ n) && decide (n ≤ b))) H
theorem scIsWithin : FnScope ["number", "low", "high"] ["number", "low", "high"] (defScope sIsWithin) := ⟨rfl, rfl, rfl, by decide +kernel, rfl, by decide +kernel, by decide +kernel⟩
theorem ok_isWithin {f : Addr} {fd : FuncData} (F : Fun K "is_within" "is_within" sIsWithin f fd) (B : Shg.Blt mg) : FnOk P w K mg base CX0 1 f fd ["number", "low", "high"] spIsWithin := by
  refine F.ok scIsWithin (fun vs H Q E h => ?_) (fun cdv A outer s H vs Q E hr h => ?_)
  · obtain ⟨n, a, b, rfl, _⟩ := h
    rfl
  · obtain ⟨n, a, b, rfl, k⟩ := h
    refine ⟨_, pss_one (ps_ret (pe_and (pe_not (pe_callB call_isi (by rfl) B.isi (by decide +kernel) (pa_cons (pv 0) (pa_cons (pe_bltn (v := .ty "bool") (by rfl) B.bool (by decide +kernel) rfl) pa_nil))))
      (pe_one (pe_chain op_le op_le (pv 1) (pv 0) (pv 2))))), ?_⟩
    refine ⟨_, rfl, .int n, .ty "bool", .type "int", .type "bool", false, rfl, .ty _, .base (.int n), kit_ty (by decide +kernel), _, rfl, _, rfl, iteT ⟨_, rfl, _, rfl, _, _, rfl, rfl, _, rfl, ?_⟩⟩
    refine ite2 (fun h1 => ?_) (fun h1 => ?_)
    · refine ⟨_, rfl, _, _, rfl, rfl, ?_⟩
      rw [h1] at k
      exact k
    · rw [Bool.eq_false_iff.mpr h1] at k
      exact k
end
end Sh4
set_option Elab.async false
set_option linter.all false
set_option maxRecDepth 100000
set_option maxHeartbeats 4000000
/-! sorted(xs, key=lambda ..): a stable order by whole numbers. -/
namespace Sho
open PySem PySem.Spec PyProof.Rows L2 LamX NdefX

/-! ### the order -/
section
variable {α β : Type}
def insK (p : Int × α) : List (Int × α) → List (Int × α)
  | [] => [p]
  | q :: r => if p.1 ≤ q.1 then p :: q :: r else q :: insK p r
def sortK : List (Int × α) → List (Int × α)
  | [] => []
  | p :: r => insK p (sortK r)
/-- ys in the order of their numbers kz; who stands first stays first among equals -/
def sortV (kz : List Int) (ys : List α) : List α := (sortK (kz.zip ys)).map Prod.snd
theorem insK_perm (p : Int × α) : ∀ l, (insK p l).Perm (p :: l)
  | [] => .refl _
  | q :: r => by
    unfold insK
    split
    · exact .refl _
    · exact ((insK_perm p r).cons q).trans (.swap p q r)
theorem sortK_perm : ∀ l : List (Int × α), (sortK l).Perm l
  | [] => .refl _
  | p :: r => (insK_perm p (sortK r)).trans ((sortK_perm r).cons p)
theorem insK_pair (p : Int × α) : ∀ {l : List (Int × α)}, l.Pairwise (fun a b => a.1 ≤ b.1) → (insK p l).Pairwise (fun a b => a.1 ≤ b.1)
  | [], _ => List.pairwise_singleton _ _
  | q :: r, h => by
    have hh := List.pairwise_cons.mp h
    unfold insK
    split
    · rename_i le
      refine List.pairwise_cons.mpr ⟨fun b hb => ?_, h⟩
      rcases List.mem_cons.mp hb with rfl | hb
      · exact le
      · exact Int.le_trans le (hh.1 b hb)
    · rename_i le
      refine List.pairwise_cons.mpr ⟨fun b hb => ?_, insK_pair p hh.2⟩
      rcases List.mem_cons.mp ((insK_perm p r).mem_iff.mp hb) with rfl | hb
      · omega
      · exact hh.1 b hb
theorem sortK_pair : ∀ l : List (Int × α), (sortK l).Pairwise (fun a b => a.1 ≤ b.1)
  | [] => .nil
  | p :: r => insK_pair p (sortK_pair r)
theorem insK_filter (p : Int × α) (c : Int) : ∀ l : List (Int × α), (insK p l).filter (fun q => q.1 == c) = (p :: l).filter (fun q => q.1 == c)
  | [] => rfl
  | q :: r => by
    unfold insK
    split
    · rfl
    · rename_i le
      have ih := insK_filter p c r
      rw [List.filter_cons, ih, List.filter_cons (x := p), List.filter_cons (x := p), List.filter_cons (x := q)]
      by_cases h1 : (p.1 == c) = true
      · have h2 : (q.1 == c) = false := by
          have := beq_iff_eq.mp h1
          simp only [beq_eq_false_iff_ne, ne_eq]
          omega
        simp [h1, h2]
      · simp [h1]
theorem sortK_filter (c : Int) : ∀ l : List (Int × α), (sortK l).filter (fun q => q.1 == c) = l.filter (fun q => q.1 == c)
  | [] => rfl
  | p :: r => by
    show (insK p (sortK r)).filter _ = _
    rw [insK_filter, List.filter_cons, List.filter_cons, sortK_filter c r]
/-- a sorted list that keeps equals in order is the only one -/
theorem stable_one : ∀ {l m : List (Int × α)}, l.Pairwise (fun a b => a.1 ≤ b.1) → m.Pairwise (fun a b => a.1 ≤ b.1) → (∀ c, l.filter (fun q => q.1 == c) = m.filter (fun q => q.1 == c)) → l = m
  | [], [], _, _, _ => rfl
  | [], q :: m, _, _, h => by
    have := h q.1
    simp at this
  | p :: l, [], _, _, h => by
    have := h p.1
    simp at this
  | p :: l, q :: m, hl, hm, h => by
    have hl' := List.pairwise_cons.mp hl
    have hm' := List.pairwise_cons.mp hm
    have mem1 : p ∈ (q :: m) := by
      have e := h p.1
      have : p ∈ (p :: l).filter (fun z => z.1 == p.1) := List.mem_filter.mpr ⟨List.mem_cons_self, by simp⟩
      rw [e] at this
      exact (List.mem_filter.mp this).1
    have mem2 : q ∈ (p :: l) := by
      have e := h q.1
      have : q ∈ (q :: m).filter (fun z => z.1 == q.1) := List.mem_filter.mpr ⟨List.mem_cons_self, by simp⟩
      rw [← e] at this
      exact (List.mem_filter.mp this).1
    have e1 : q.1 ≤ p.1 := by
      rcases List.mem_cons.mp mem1 with z | z
      · rw [z]; exact Int.le_refl _
      · exact hm'.1 _ z
    have e2 : p.1 ≤ q.1 := by
      rcases List.mem_cons.mp mem2 with z | z
      · rw [z]; exact Int.le_refl _
      · exact hl'.1 _ z
    have ek : p.1 = q.1 := Int.le_antisymm e2 e1
    have hp : p = q := by
      have e := h p.1
      rw [List.filter_cons, List.filter_cons] at e
      simp only [beq_self_eq_true, ek, if_true] at e
      exact (List.cons.inj e).1
    subst hp
    rw [stable_one hl'.2 hm'.2 fun c => ?_]
    have e := h c
    rw [List.filter_cons, List.filter_cons] at e
    split at e
    · exact (List.cons.inj e).2
    · exact e
theorem sortK_one {l m : List (Int × α)} (hm : m.Pairwise (fun a b => a.1 ≤ b.1)) (h : ∀ c, m.filter (fun q => q.1 == c) = l.filter (fun q => q.1 == c)) : m = sortK l :=
  stable_one hm (sortK_pair l) fun c => (h c).trans (sortK_filter c l).symm
theorem sortV_length {kz : List Int} {ys : List α} (h : kz.length = ys.length) : (sortV kz ys).length = ys.length := by
  unfold sortV
  rw [List.length_map, (sortK_perm _).length_eq, List.length_zip, h, Nat.min_self]
end

/-! ### list.sort by a key, whatever stands around -/
section
variable {prog : Program} {w : World} {A : Around} {E : Value → Shared → Prop} {a : Addr} {vs : List Value} {kz : List Int}
/-- all objects of a heap but three -/
def rest3 (h : Heap) (L x y : Addr) : List (Addr × Obj) := (List.range h.objs.size).filterMap fun b => if b = L ∨ b = x ∨ b = y then none else (h.get? b).map fun o => (b, o)
theorem mem_rest3 {h : Heap} {L x y b : Addr} {o : Obj} (h1 : b ≠ L) (h2 : b ≠ x) (h3 : b ≠ y) (e : h.get? b = some o) : (b, o) ∈ rest3 h L x y :=
  List.mem_filterMap.mpr ⟨b, List.mem_range.mpr (Heap.lt_size e), by simp [h1, h2, h3, e]⟩
theorem of_rest3 {h : Heap} {L x y : Addr} {p : Addr × Obj} (hp : p ∈ rest3 h L x y) : p.1 ≠ L ∧ p.1 ≠ x ∧ p.1 ≠ y ∧ h.get? p.1 = some p.2 := by
  obtain ⟨b, _, e⟩ := List.mem_filterMap.mp hp
  split at e
  · cases e
  · rename_i hn
    cases q : h.get? b with
    | none =>
      rw [q] at e
      cases e
    | some o =>
      rw [q] at e
      cases e
      exact ⟨fun z => hn (.inl z), fun z => hn (.inr (.inl z)), fun z => hn (.inr (.inr z)), q⟩

/-- the end: from the list of the numbers -/
theorem sortkey_end {s : Shared} {kS L : Addr} {m : Str → Option Value} {keys : Array Value} {e e1 : Nat} {P : PySem.Fin → Shared → Prop} (hn : s.heap.Ns L m) (hkL : kS ≠ L) (haL : a ≠ L) (hka : kS ≠ a)
    (hkS : s.heap.get? kS = some (seqObj "list" keys e)) (ha : s.heap.get? a = some (seqObj "list" #[] e1)) (hk : IntsAre keys.toList kz) (hlen : kz.length = vs.length) (hZ : vs.length ≤ sizeLine)
    (h : ∀ h' tk out c, h'.Ns L m → (∀ b o, b ≠ L → b ≠ kS → b ≠ a → s.heap.get? b = some o → h'.get? b = some o) → h'.get? a = some (seqObj "list" out c) → KskOutSt false kz vs out.toList → P (.done (.ret .none)) { s with heap := h', toks := tk }) :
    wpAny (model prog w) A (ksk_end a false vs.toArray e1 (.ref kS) keys) P E s := by
  have F := Att.fr_all hn
  refine ksk_end_St (h₀ := Att.noObjs s.heap) (news := rest3 s.heap L kS a) (L := L) (m := m) (kz := kz) (vs := vs) (e := e) F (fun p hp => ?_) hka (fun p hp => (of_rest3 hp).2.1) (fun p hp => (of_rest3 hp).2.2.1) hk hlen hZ fun h' tk out c F' N' k' => ?_
  · rcases List.mem_append.mp hp with hp | hp
    · obtain ⟨p1, _, _, p4⟩ := of_rest3 hp
      exact ⟨p4, p1, Att.noObjs_get _ _⟩
    · rcases List.mem_cons.mp hp with rfl | hp
      · exact ⟨hkS, hkL, Att.noObjs_get _ _⟩
      · rw [List.mem_singleton.mp hp]
        exact ⟨ha, haL, Att.noObjs_get _ _⟩
  · refine h h' tk out c F'.ns (fun b o b1 b2 b3 eb => ?_) (N' _ List.mem_cons_self).1 k'
    exact (N' _ (List.mem_cons_of_mem _ (mem_rest3 b1 b2 b3 eb))).1

theorem sortkey_rest {f : Value} {s : Shared} {kS L : Addr} {m : Str → Option Value} {e1 : Nat} {P : PySem.Fin → Shared → Prop} (J : Shared → Prop) (hkL : kS ≠ L) (haL : a ≠ L) (hka : kS ≠ a) (hlen : kz.length = vs.length) (hZ : vs.length ≤ sizeLine) (h0 : J s)
    (hns : ∀ s', J s' → s'.heap.Ns L m)
    (hkS : s.heap.get? kS = some (seqObj "list" #[] 0)) (ha : s.heap.get? a = some (seqObj "list" #[] e1))
    (hup : ∀ s' g, J s' → J { s' with heap := s'.heap.update kS (Obj.mapSeq g) })
    (turn : ∀ (i : Nat) (v : Value) (k : Int), vs[i]? = some v → kz[i]? = some k → ∀ s', J s' →
      wpAny (model prog w) A (call f [v]) (fun u s2 => ∃ t, u = .int k t ∧ J s2 ∧ (∀ o, s'.heap.get? kS = some o → s2.heap.get? kS = some o) ∧ (∀ o, s'.heap.get? a = some o → s2.heap.get? a = some o)) (fun _ _ => False) s')
    (h : ∀ s' h' tk out c, J s' → h'.Ns L m → (∀ b o, b ≠ L → b ≠ kS → b ≠ a → s'.heap.get? b = some o → h'.get? b = some o) → h'.get? a = some (seqObj "list" out c) → KskOutSt false kz vs out.toList → P (.done (.ret .none)) { s' with heap := h', toks := tk }) :
    wpAny (model prog w) A (ksk_rest a f false vs.toArray e1 (.ref kS)) P E s := by
  have hZ2 := hZ
  rw [sizeLine_eq] at hZ2
  unfold ksk_rest
  refine wpAny_bind (wpAny_rule ?_)
  first
    | rw [List.forIn_toArray]
    | (rw [← Array.forIn_toList]; simp only [List.toList_toArray])
  refine wpAny_bind (ksk_fold (fun i s' => ∃ kA e, J s' ∧ s'.heap.get? kS = some (seqObj "list" kA e) ∧ s'.heap.get? a = some (seqObj "list" #[] e1) ∧ IntsAre kA.toList (kz.take i)) vs 0 s
    ⟨#[], 0, h0, hkS, ha, by simpa using IntsAre.nil⟩ ?step ?done)
  case step =>
    rintro j x s' hx ⟨kA, e, hJ, gk, ga, hk⟩
    simp only [Nat.zero_add] at hk ⊢
    have hj := (List.getElem?_eq_some_iff.mp hx).1
    obtain ⟨k, hkj⟩ : ∃ k, kz[j]? = some k := ⟨_, List.getElem?_eq_getElem (by omega)⟩
    have hz : kA.size ≤ vs.length := by
      have h1 := hk.length
      rw [Array.length_toList, List.length_take] at h1
      omega
    refine wpAny_bind (wpAny_attempt (wpAny_mono (turn j x k hx hkj s' hJ) (fun v s2 he => ?_) fun _ _ hF => hF.elim))
    obtain ⟨t2, rfl, J2, q1, q2⟩ := he
    try dsimp only
    have gk2 := q1 _ gk
    have ek : kz.take (j + 1) = kz.take j ++ [k] := by rw [List.take_add_one, hkj]; simp
    have ea : (kA.push (Value.int k t2)).toList = kA.toList ++ [Value.int k t2] := by simp
    refine wpAny_bind (listUpdate_at gk2 rfl ?_ (by rw [sizeLine_eq]; omega) (Nat.le_trans (Nat.le_of_eq (Array.size_push ..)) (by rw [sizeLine_eq]; omega)))
    refine wpAny_pure ⟨rfl, kA.push (.int k t2), _, hup s2 _ J2, get?_update_seq gk2 (·.push (.int k t2)), ?_, by rw [ea, ek]; exact ksk_snoc hk⟩
    exact ((Heap.SameBut.update s2.heap kS _).2 a hka.symm).trans (q2 _ ga)
  case done =>
    rintro s' ⟨kA, e, hJ, gk, ga, hk⟩
    have hk' : IntsAre kA.toList kz := by
      have e3 : kz.take (0 + vs.length) = kz := List.take_of_length_le (by omega)
      rw [e3] at hk
      exact hk
    try dsimp only
    refine wpAny_bind (listItems_at gk rfl ?_)
    exact sortkey_end (hns s' hJ) hkL haL hka gk ga hk' hlen hZ fun h' tk out c n1 n2 n3 n4 => h s' h' tk out c hJ n1 n2 n3 n4
end

/-! ### at the layer -/
theorem abs_of {x : V} {u : Value} (r : L2.RelV x u) : absV u = some x := RelV.abs r
def unV (u : Value) : V := (absV u).getD .non
theorem unV_of {x : V} {u : Value} (r : L2.RelV x u) : unV u = x := by
  unfold unV
  rw [abs_of r]
  rfl
theorem zip_unV : ∀ {ys : List V} {us : List Value} (kz : List Int), Vals ys us → (kz.zip us).map (fun p => (p.1, unV p.2)) = kz.zip ys
  | _, _, [], _ => rfl
  | _, _, _ :: _, .nil => by simp
  | _, _, k :: kz, .cons r rs => by
    simp only [List.zip_cons_cons, List.map_cons]
    rw [unV_of r, zip_unV kz rs]
theorem vals_mem : ∀ {ys : List V} {us : List Value} {u : Value}, Vals ys us → u ∈ us → L2.RelV (unV u) u
  | _, _, _, .cons r rs, h => by
    rcases List.mem_cons.mp h with rfl | h
    · rw [unV_of r]
      exact r
    · exact vals_mem rs h
theorem vals_un : ∀ {us : List Value}, (∀ u ∈ us, L2.RelV (unV u) u) → Vals (us.map unV) us
  | [], _ => .nil
  | u :: us, h => .cons (h u List.mem_cons_self) (vals_un fun v hv => h v (List.mem_cons_of_mem _ hv))
theorem out_sorted {ys : List V} {vs out : List Value} {kz : List Int} (r : Vals ys vs) (hl : kz.length = vs.length) (h : KskOutSt false kz vs out) : Vals (sortV kz ys) out := by
  obtain ⟨ps, h1, rfl, h2, h3⟩ := h
  have mem : ∀ u ∈ ps.map Prod.snd, L2.RelV (unV u) u := fun u hu => by
    obtain ⟨p, hp, rfl⟩ := List.mem_map.mp hu
    have q := h1.mem_iff.mp hp
    exact vals_mem r (List.of_mem_zip (a := p.1) (b := p.2) q).2
  have e1 : (ps.map fun p => (p.1, unV p.2)) = sortK (kz.zip ys) := by
    refine sortK_one ?_ fun c => ?_
    · refine List.pairwise_map.mpr (h2.imp fun {x y} z => ?_)
      simpa using z
    · rw [← zip_unV kz r, List.filter_map, List.filter_map]
      have e := h3 c
      exact congrArg (List.map fun p => (p.1, unV p.2)) e
  have e2 : sortV kz ys = (ps.map Prod.snd).map unV := by
    unfold sortV
    rw [← e1, List.map_map, List.map_map]
    rfl
  rw [e2]
  exact vals_un mem

/-- a list or a tuple, collected: the very heap behind it -/
theorem collect_any {prog : Program} {w : World} {A : Around} {E : Value → Shared → Prop} {s : Shared} {l : Addr} {vs : List Value} {o : Obj} {n : Nat} {T : String} {Q : List Value → Shared → Prop} (hT : T = "list" ∨ T = "tuple") (ho : s.heap.get? l = some o) (hc : o.cls = .type T) (hd : o.data = .seq vs.toArray n)
    (h : Q vs { s with heap := (s.heap.push (seqObj "list" #[] 0)).update s.heap.objs.size (Obj.mapSeq (· ++ vs.toArray)) }) (hsz : vs.length ≤ sizeLine) :
    wpAny (model prog w) A (collect (.ref l)) Q E s := by
  have new : (s.heap.push (seqObj "list" #[] 0)).get? s.heap.objs.size = some (seqObj "list" #[] 0) := Heap.get?_push_size _ rfl
  have size : vs.toArray.size ≤ sizeLine := by simpa using hsz
  have grown := Heap.get?_update_self (Obj.mapSeq (· ++ vs.toArray)) new rfl
  have fin : ∀ s', s' = { s with heap := (s.heap.push (seqObj "list" #[] 0)).update s.heap.objs.size (Obj.mapSeq (· ++ vs.toArray)) } → wpAny (model prog w) A (load s.heap.objs.size >>= fun o => match o.data with
      | .seq xs _ => pure xs.toList
      | _ => unsupported "internal:collect") Q E s' := by
    rintro _ rfl
    refine wpAny_bind (wpAny_load grown ?_)
    show wpAny _ _ (pure (#[] ++ vs.toArray).toList) _ _ _
    have e : ((#[] : Array Value) ++ vs.toArray).toList = vs := by simp
    rw [e]
    exact wpAny_pure h
  unfold collect
  refine wpAny_bind (wpAny_runValue (codeAny_builtin F.entry_proto_collect ?_))
  rw [Around.under_plainId F.plain_proto_collect _]
  refine wpAny_bind (m := newList []) (wpAny_newList (wpAny_pure ⟨plainId_quiet F.plain_list_iadd _, codeAny_builtin F.entry_list_iadd ?_⟩))
  rw [Around.under_plainId F.plain_list_iadd _]
  have run := wpAny_extend_seq (prog := prog) (w := w) (A := A) (s := { s with heap := s.heap.push (seqObj "list" #[] 0) }) (R := fun r s' => r = .ok (.ret (.ref s.heap.objs.size)) ∧ s' = { s with heap := (s.heap.push (seqObj "list" #[] 0)).update s.heap.objs.size (Obj.mapSeq (· ++ vs.toArray)) })
    s.heap.objs.size l (.ref s.heap.objs.size) 0 hT new (Heap.get?_push_of_some _ ho) hc hd ⟨rfl, rfl⟩ size
  refine wpAny_mono run (fun f s' q => ?_) fun _ _ q => nomatch q.1
  cases f with
  | done r =>
    obtain ⟨e, q⟩ := q
    cases e
    exact fin _ q
  | again c => exact ⟨q.1, codeAny_mono q.2 fun r s'' z => by
      obtain ⟨rfl, z⟩ := z
      exact fin _ z⟩
section
variable {X : Cx} {k : Nat}
/-- sorted(xs, key=f): f a lambda, hands back whole numbers and leaves all as it was -/
def rSortL (X : Cx) (k : Nat) : List V → List V → Hp → VK → Prop := fun xs zs H Q => ∃ (a f : Addr) (Z : LF) (ys : List V) (kz : List Int), xs = [V.ref a] ∧ zs = [V.ref f] ∧ (SqL X.K H a ys ∨ SqT X.K H a ys) ∧ LamAt H f Z ∧ kz.length = ys.length ∧
  (∀ (A : Around) (outer : List Env) (s : Shared) (i : Nat) (v : V) (n : Int) (u : Value), Room k A → Env0 X.prog X.w X.K X.mg X.base A outer s H → ys[i]? = some v → kz[i]? = some n → RelV v u →
    codeAny (model X.prog X.w) A (.call (.ref f) ⟨[u], []⟩) (CR CX0 outer X.prog X.w H s (fun r H' => r = .int n ∧ H' = H) E0) s) ∧
  ∀ p, H p = none → Q (.ref p) (upd H p (.lst (sortV kz ys)))
theorem cr_sortedLam (hr : Room (k + 3) X.A) : CallRK X (.builtin "sorted") [Str.ofString "key"] (rSortL X k) := by
  rintro pins s σ H xs zs us ws Q I rx rz ⟨l, f, Z, ys, kz, rfl, rfl, hl, hf, hlen, hkey, hq⟩
  obtain ⟨us1, rfl⟩ : ∃ u, us = [u] := by cases rx with | cons r t => cases t; exact ⟨_, rfl⟩
  obtain ⟨ws1, rfl⟩ : ∃ u, ws = [u] := by cases rz with | cons r t => cases t; exact ⟨_, rfl⟩
  obtain rfl : us1 = .ref l := by cases rx with | cons r t => exact r
  obtain rfl : ws1 = .ref f := by cases rz with | cons r t => exact r
  obtain ⟨vs, T, o1, n1, rv, hT, e1, e2, e3, hZ⟩ : ∃ (vs : List Value) (T : String) (o1 : Obj) (n1 : Nat), Vals ys vs ∧ (T = "list" ∨ T = "tuple") ∧ s.heap.get? l = some o1 ∧ o1.cls = .type T ∧ o1.data = .seq vs.toArray n1 ∧ ys.length ≤ sizeLine := by
    rcases hl with hl | hl
    · obtain ⟨vs, rv, pl, hZ⟩ := I.list hl
      obtain ⟨o, n, e1, e2, _, e3⟩ := pl
      exact ⟨vs, "list", o, n, rv, .inl rfl, e1, e2, e3, hZ⟩
    · obtain ⟨vs, rv, pl, hZ⟩ := I.tuple hl
      obtain ⟨o, e1, e2, n, e3⟩ := pl
      exact ⟨vs, "tuple", o, n, rv, .inr rfl, e1, e2, e3, hZ⟩
  have hlv : kz.length = vs.length := by rw [hlen, rv.length]
  have hZv : vs.length ≤ sizeLine := by rw [← rv.length]; exact hZ
  have hZ2 := hZv
  rw [sizeLine_eq] at hZ2
  show wpAny _ _ (call (.builtin "sorted") [.ref l] [(Str.ofString "key", .ref f)]) _ _ _
  refine call_function_entry_kw kind_sorted plain_sorted entry_sorted (ksk_s1 _ _) ?_
  unfold Builtin.«sorted»
  refine wpAny_bind (m := checkCount "sorted" 1 1 _) (wpAny_pure ?_)
  refine wpAny_bind (collect_any hT e1 e2 e3 ?_ hZv)
  refine wpAny_bind (wpAny_newList ?_ (by rw [sizeLine_eq]; omega))
  generalize hh1 : ((s.heap.push (seqObj "list" #[] 0)).update s.heap.objs.size (Obj.mapSeq (· ++ vs.toArray))) = h1
  have z1 : h1.objs.size = s.heap.objs.size + 1 := by rw [← hh1, Heap.size_update, size_push']
  have k1 : ∀ b o, s.heap.get? b = some o → h1.get? b = some o := fun b o q => by
    have lt := Heap.lt_size q
    rw [← hh1, Heap.get?_update_ne _ _ _ _ (Nat.ne_of_lt lt), Heap.get?_push_ne _ _ _ (Nat.ne_of_lt lt)]
    exact q
  show wpAny _ _ _ _ _ { s with heap := h1.push (seqObj "list" vs.toArray 0) }
  have k2 : ∀ b o, s.heap.get? b = some o → (h1.push (seqObj "list" vs.toArray 0)).get? b = some o := fun b o q => Heap.get?_push_of_some _ (k1 b o q)
  have g2 : (h1.push (seqObj "list" vs.toArray 0)).get? h1.objs.size = some (seqObj "list" vs.toArray 0) := Heap.get?_push_size _ rfl
  generalize ha0 : h1.objs.size = a0 at g2 ⊢
  generalize hh2 : h1.push (seqObj "list" vs.toArray 0) = h2 at g2 k2 ⊢
  have a0s : s.heap.objs.size ≤ a0 := by omega
  have z2 : h2.objs.size = a0 + 1 := by rw [← hh2, size_push', ha0]
  refine wpAny_bind (wpAny_holding (wpAny_call_entry_kw slot_list_sort ⟨_, g2, rfl⟩ entry_list_sort ?body (ksk_l1 _ _)))
  case body =>
    show wpAny _ X.A.in1.in1 (Builtin.«list.sort» ⟨[.ref a0], [(Str.ofString "key", .ref f)]⟩) _ _ _
    rw [ksk_t1]
    unfold ksk_tree
    have sb3 := Heap.SameBut.update h2 a0 (Obj.mapSeq fun _ => (#[] : Array Value))
    obtain ⟨e1, g3⟩ : ∃ e1, (h2.update a0 (Obj.mapSeq fun _ => (#[] : Array Value))).get? a0 = some (seqObj "list" #[] e1) := ⟨_, get?_update_seq g2 fun _ => #[]⟩
    have z3 : (h2.update a0 (Obj.mapSeq fun _ => (#[] : Array Value))).objs.size = a0 + 1 := by rw [Heap.size_update, z2]
    refine wpAny_bind (listItems_at g2 rfl ?_)
    refine wpAny_bind (listUpdate_at g2 rfl ?_ (by rw [List.size_toArray, sizeLine_eq]; omega) (Nat.zero_le _))
    refine wpAny_bind (seqEpoch_at g3 rfl ?_)
    have k3 : ∀ b o, s.heap.get? b = some o → (h2.update a0 (Obj.mapSeq fun _ => (#[] : Array Value))).get? b = some o := fun b o q =>
      (sb3.2 b (Nat.ne_of_lt (Nat.lt_of_lt_of_le (Heap.lt_size q) a0s))).trans (k2 b o q)
    generalize h2.update a0 (Obj.mapSeq fun _ => (#[] : Array Value)) = h3 at g3 k3 z3
    refine wpAny_bind (wpAny_newTuple ?_ (by show vs.length ≤ _; rw [sizeLine_eq]; omega))
    refine wpAny_bind (wpAny_newList ?_ (Nat.zero_le _))
    refine wpAny_holding ?_
    have z4 : (h3.push (seqObj "tuple" vs.toArray 0)).objs.size = a0 + 2 := by rw [size_push', z3]
    have k5 : ∀ b o, h3.get? b = some o → ((h3.push (seqObj "tuple" vs.toArray 0)).push (seqObj "list" #[] 0)).get? b = some o := fun b o q => Heap.get?_push_of_some _ (Heap.get?_push_of_some _ q)
    have gk : ((h3.push (seqObj "tuple" vs.toArray 0)).push (seqObj "list" #[] 0)).get? (h3.push (seqObj "tuple" vs.toArray 0)).objs.size = some (seqObj "list" #[] 0) := Heap.get?_push_size _ rfl
    have ga := k5 _ _ g3
    generalize hkS : (h3.push (seqObj "tuple" vs.toArray 0)).objs.size = kS at gk
    have hkS2 : kS = a0 + 2 := by rw [← hkS]; exact z4
    have h5k : ∀ b o, s.heap.get? b = some o → ((h3.push (seqObj "tuple" vs.toArray 0)).push (seqObj "list" #[] 0)).get? b = some o := fun b o q => k5 b o (k3 b o q)
    show wpAny _ _ (ksk_rest a0 (.ref f) false vs.toArray e1 (.ref kS)) _ _ { s with heap := (h3.push (seqObj "tuple" vs.toArray 0)).push (seqObj "list" #[] 0) }
    generalize (h3.push (seqObj "tuple" vs.toArray 0)).push (seqObj "list" #[] 0) = h5 at gk ga h5k
    have I5 : Inv X pins σ H { s with heap := h5 } := I.kept (t' := s.toks) h5k
    have na : H a0 = none := I.hok.fresh a0s
    have nk : H kS = none := I.hok.fresh (by omega)
    have fa := I.fpOk a0s na
    have fk := I.fpOk (b := kS) (by omega) nk
    have hka : kS ≠ a0 := by omega
    obtain ⟨m, hm, _⟩ := I5.loc
    have nstk : ∀ b, FpOk X pins H b → b ∉ frs X.stack := fun b fb hb => by
      rcases List.mem_cons.mp (I.stkSub b hb) with z | z
      · exact fb.2.1 z
      · exact fb.2.2.1 z
    have nsOne : ∀ {g : Heap} {m1 m2 : Str → Option Value}, g.Ns X.env.locals m1 → g.Ns X.env.locals m2 → m1 = m2 := by
      rintro g m1 m2 ⟨o, es, ep, q1, q2, _, q3⟩ ⟨o', es', ep', r1, r2, _, r3⟩
      rw [q1] at r1
      cases r1
      rw [q2] at r2
      cases r2
      funext y
      rw [← q3, ← r3]
    refine sortkey_rest (kz := kz) (m := m) (L := X.env.locals) (fun s' => Inv X pins σ H s' ∧ s'.heap.Ns X.env.locals m) fk.2.1 fa.2.1 hka hlv hZv ⟨I5, hm⟩ (fun s' q => q.2) gk ga (fun s' g q => ?_) (fun i v n hv hn s' q => ?_)
      fun s' h' tk out c q n1 n2 n3 n4 => ?_
    · have sb := Heap.SameBut.update s'.heap kS (Obj.mapSeq g)
      refine ⟨q.1.turned (t' := s'.toks) (fun b o hb e => (sb.2 b hb).trans e) nk fk.2.1 fk.2.2.2.1 fk.2.2.2.2.1 fk.2.2.2.2.2, ?_⟩
      exact q.2.sameBut sb (Ne.symm fk.2.1)
    · obtain ⟨I', hm'⟩ := q
      obtain ⟨y, hy⟩ : ∃ y, ys[i]? = some y := by
        cases e : ys[i]? with
        | some y => exact ⟨y, rfl⟩
        | none =>
          rw [rv.none_of e] at hv
          cases hv
      obtain ⟨v2, hv2, ry⟩ := rv.get hy
      rw [hv] at hv2
      cases hv2
      have e0 := I'.env0.in1.in1
      have room : Room k X.A.in1.in1 := (((hr.mono (show k + 2 ≤ k + 3 by omega)).in1).in1).mono (Nat.le_refl _)
      have run := hkey X.A.in1.in1 X.stack s' i y n v room e0 hy hn ry
      refine wpAny_call (codeAny_mono run fun r s2 hq2 => ?_)
      cases r with
      | error e => exact False.elim hq2
      | ok fl =>
        cases fl with
        | ret u =>
          have hq3 : CE X.stack X.prog X.w H s' (fun r H' => r = .int n ∧ H' = H) u s2 := hq2
          have un := hq3
          obtain ⟨_, _, _, _, un, _⟩ := un
          obtain ⟨w2, H2, I2, r2, rfl, rfl⟩ := I'.after hq3
          obtain ⟨t, rfl⟩ := (show ∃ t, u = Value.int n t from r2)
          refine ⟨t, rfl, ⟨I2, ?_⟩, fun o e => un.keep kS o e nk (nstk kS fk) (by simp), fun o e => un.keep a0 o e na (nstk a0 fa) (by simp)⟩
          obtain ⟨o, es, ep, ho, hd, hs, hf'⟩ := hm'
          by_cases hL : X.env.locals ∈ frs X.stack
          · obtain ⟨sl, e2⟩ := un.slot _ o ho I'.free hL (by simp)
            exact ⟨_, es, ep, e2, hd, hs, hf'⟩
          · exact ⟨o, es, ep, un.keep _ o ho I'.free hL (by simp), hd, hs, hf'⟩
        | next => exact False.elim hq2
        | brk => exact False.elim hq2
        | cont => exact False.elim hq2
    · obtain ⟨I', hm'⟩ := q
      have rout : Vals (sortV kz ys) out.toList := out_sorted rv hlv n4
      have ex : ∀ b o, b ≠ X.env.locals → b ∉ [kS, a0] → s'.heap.get? b = some o → h'.get? b = some o := fun b o b1 b2 e => by
        simp only [List.mem_cons, List.not_mem_nil, or_false, not_or] at b2
        exact n2 b o b1 b2.1 b2.2 e
      have tr : ∀ b u, H b = some u → b ≠ a0 := fun b u e z => by rw [z, na] at e; cases e
      have up : ∀ b u, H b = some u → upd H a0 (.lst (sortV kz ys)) b = some u := fun b u e => by rw [upd_ne (tr b u e)]; exact e
      have off : ∀ b u, H b = some u → b ≠ X.env.locals ∧ b ∉ [kS, a0] := fun b u e => by
        refine ⟨fun z => ?_, fun z => ?_⟩
        · rw [z, I'.free] at e
          cases e
        · simp only [List.mem_cons, List.not_mem_nil, or_false] at z
          rcases z with z | z
          · rw [z, nk] at e
            cases e
          · exact tr b u e z
      refine ⟨_, rfl, ?_⟩
      refine wpAny_pure ⟨_, rfl, .ref a0, upd H a0 (.lst (sortV kz ys)), ?_, rfl, hq a0 na⟩
      refine I'.step (g' := s'.gens) (d' := s'.drawn) (t' := tk) (h' := h') (ch := [kS, a0]) (fun b hb => ?_) (fun b o b1 _ b3 e _ => ex b o b1 b3 e) (fun b o b1 _ b3 e _ => ⟨o.slots, ex b o b1 b3 e⟩)
        (fun b o b3 e n => ?_) (fun b o b3 e => ?_) (fun b u e => up b _ e) (fun b o u e => up b _ e) (fun b ps e => ⟨#[], by rw [up b _ e]; simp⟩) (fun m' hm2 => ?_) (fun b u e => ?_) I'.bare
      · simp only [List.mem_cons, List.not_mem_nil, or_false] at hb
        rcases hb with rfl | rfl
        · exact ⟨fk.2.2.2.1, fk.2.1, fk.2.2.2.2.1, fk.2.2.2.2.2⟩
        · exact ⟨fa.2.2.2.1, fa.2.1, fa.2.2.2.2.1, fa.2.2.2.2.2⟩
      · simp only [List.mem_cons, List.not_mem_nil, or_false, not_or] at b3
        rw [upd_ne b3.2]
        exact n
      · by_cases bL : b = X.env.locals
        · rw [bL]
          obtain ⟨o', _, _, q, _⟩ := n1
          exact ⟨o', q⟩
        · exact ⟨o, ex b o bL b3 e⟩
      · rw [nsOne hm2 hm']
        exact n1
      · by_cases hb : b = a0
        · subst hb
          rw [upd_same] at e
          cases e
          have el : (sortV kz ys).length ≤ sizeLine := by
            rw [sortV_length hlen]
            exact hZ
          exact ⟨el, out.toList, c, rout, by rw [n3]⟩
        · rw [upd_ne hb] at e
          refine (I'.hok b u e).stay (fun d v hd q => ?_) (fun d q => up d _ q) fun d xs q => up d _ q
          rcases hd with rfl | hd
          · exact ex _ v (off _ _ e).1 (off _ _ e).2 q
          · exact ex _ v (off _ _ hd).1 (off _ _ hd).2 q
end
end Sho
set_option Elab.async false
set_option linter.all false
set_option maxRecDepth 100000
set_option maxHeartbeats 4000000
namespace Sh1
open PySem L2 Sho NdefX Shg
abbrev qBot : Str := "bottom_up.<locals>.<lambda>"
theorem sql_grows {K : PySem.W.Frag} {H H' : Hp} {a : Addr} {xs : List V} (e : LamX.ExtN H H') (h : SqL K H a xs) : SqL K H' a xs := by
  rcases h with (h | ⟨o, h⟩) | h
  · exact .inl (.inl (e _ _ h fun _ z => nomatch z))
  · exact .inl (.inr ⟨o, e _ _ h fun _ z => nomatch z⟩)
  · exact .inr h
theorem sqt_grows {K : PySem.W.Frag} {H H' : Hp} {a : Addr} {xs : List V} (e : LamX.ExtN H H') (h : SqT K H a xs) : SqT K H' a xs := by
  rcases h with (h | ⟨o, h⟩) | h
  · exact .inl (.inl (e _ _ h fun _ z => nomatch z))
  · exact .inl (.inr ⟨o, e _ _ h fun _ z => nomatch z⟩)
  · exact .inr h
/-- a key lambda: its tuple's item j -/
theorem key_item {P : Program} {w : World} {K : PySem.W.Frag} {mg : Str → Option Value} {base : Heap} {Z : LF} {f : Addr} {H : Hp} {j : Nat} {x : Str} (l : LamAt H f Z) (S : NScope [x] [x] [] Z.F.scope) (hcl : Z.F.cl = []) (hb : ∀ (pm ctv u : Value), bindArgs (Z.fd pm ctv) ⟨[u], []⟩ = pure [(x, u)])
    (body : ∀ (A : Around) (outer : List Env) (s : Shared), PE (lcx CX0 P w K mg base [x] Z f A outer s H E0) Z.e (tOp (rIxT K) (tVar 0) (tC (.int (j : Int)))))
    {A : Around} {outer : List Env} {s : Shared} {v : V} {n : Int} {u : Value} (hr : Room 1 A) (e0 : Env0 P w K mg base A outer s H) (hv : ∃ t ws, v = .ref t ∧ H t = some (.tup ws) ∧ ws[j]? = some (.int n)) (ru : RelV v u) :
    codeAny (model P w) A (.call (.ref f) ⟨[u], []⟩) (CR CX0 outer P w H s (fun r H' => r = .int n ∧ H' = H) E0) s := by
  obtain ⟨pm, ctv, ho⟩ := lamO_at e0.hok l.o
  obtain ⟨t, ws, rfl, ht, hw⟩ := hv
  have C : CellsAt Z.F.cl [] [] s.heap H := by
    rw [hcl]
    exact ⟨rfl, fun _ _ e => (nomatch e), fun _ _ _ e => (nomatch e), fun i y e => (nomatch e)⟩
  refine lam_call (ps := [x]) (us := [u]) (vs := [.ref t]) S hr e0 ho (codeO_at e0.hok l.c) (.of_eq (hb pm ctv u)) rfl C (.cons ru .nil) (fun _ => body A outer s) ?_
  exact ⟨_, rfl, t, ws, _, .int n, rfl, rfl, SqT.of ht, atI_nat hw, rfl, rfl⟩
section
variable {P : Program} {w : World} {K : PySem.W.Frag} {mg : Str → Option Value} {base : Heap}
def spBottom (K : PySem.W.Frag) (T : List (Addr × Str)) : Sp := fun vs H Q _ => ∃ (a : Addr) (ys : List V) (kz : List Int), vs = [.ref a] ∧ (SqL K H a ys ∨ SqT K H a ys) ∧ kz.length = ys.length ∧
  (∀ (i : Nat) (v : V) (n : Int), ys[i]? = some v → kz[i]? = some n → ∃ t ws, v = .ref t ∧ H t = some (.tup ws) ∧ ws[1]? = some (.int n)) ∧ LamX.Tabs T H ∧
  ∀ p H', Grows T H H' → H' p = some (.lst (sortV kz ys)) → Q (.ref p) H'
theorem scBottom : FnScope ["stays"] ["stays"] (defScope sBottomUp) := ⟨rfl, rfl, rfl, by decide +kernel, rfl, by decide +kernel, by decide +kernel⟩
theorem ok_bottom {f c TP : Addr} {fd : FuncData} {T : List (Addr × Str)} (F : Shg.FunL K "bottom_up" "bottom_up" sBottomUp f c fd) (B : Shg.Blt mg) (TB : LamX.TabB base mg c TP) (hm : (TP, qBot) ∈ T) (hu : ∀ p ∈ T, p.1 = TP → p.2 = qBot) :
    FnOk P w K mg base CX0 5 f fd ["stays"] (spBottom K T) := by
  refine Shg.FunL.ok0 F scBottom (fun vs H Q E h => ?_) (fun A outer s H vs Q E hr h => ?_)
  · obtain ⟨a, ys, kz, rfl, _⟩ := h
    rfl
  · obtain ⟨a, ys, kz, rfl, ha, hl, hk, hT, k⟩ := h
    refine ⟨_, pss_one (ps_ret (pe_callBK (cr_sortedLam (k := 1) hr) (by rfl) B.sorted (by decide +kernel) (pa_cons (pv 0) pa_nil) (pk_cons (pe_lam TB rfl hm hu (Shg.free_by (os := (defScope sBottomUp).names) (by decide +kernel))) pk_nil))), ?_⟩
    refine ⟨_, rfl, hT, fun f0 c0 H1 G1 n0 l0 => ⟨a, f0, _, ys, kz, rfl, rfl, ha.imp (sql_grows G1.ext) (sqt_grows G1.ext), l0, hl, fun A' outer' s' i v n u hr' e0 hv hn ru => ?_, fun p hp => ?_⟩⟩
    · obtain ⟨t, ws, e, ht, hw⟩ := hk i v n hv hn
      exact key_item (j := 1) l0 (nscope_by (sc := Shg.scL [("stay", .local)]) (by decide +kernel)) rfl (fun _ _ _ => rfl) (fun A outer s => pe_ix ix_tup (pv 0) pe_int (fun _ _ => rfl)) hr' e0 ⟨t, ws, e, G1.ext _ _ ht (fun _ z => nomatch z), hw⟩ ru
    · exact k p _ (G1.trans (Grows.upd hp)) upd_same
end
end Sh1
set_option Elab.async false
set_option linter.all false
set_option maxRecDepth 100000
set_option maxHeartbeats 2000000
/-! Answers of readings that stand in every law. -/
namespace Shg
open PySem L2 Sho NdefX
/-- a op b op c of ints -/
theorem chainI {f g : Int → Int → Bool} {ta tb tc : TE} {σ : L2.St} {H : Hp} {R : Bool → Hp → Prop} (i j k : Int) (h1 : ∀ Q : VK, Q (.int i) H → ta σ H Q) (h2 : ∀ Q : VK, Q (.int j) H → tb σ H Q) (h3 : ∀ Q : VK, Q (.int k) H → tc σ H Q) (h : R (f i j && g j k) H) :
    tTest (tChain (rI0 fun i j => .bl (f i j)) (rI0 fun i j => .bl (g i j)) ta tb tc) σ H R := by
  refine h1 _ (h2 _ ⟨i, j, rfl, rfl, f i j, rfl, ?_⟩)
  cases e : f i j with
  | false =>
    rw [if_neg Bool.false_ne_true]
    rw [e] at h
    exact ⟨_, rfl, h⟩
  | true =>
    rw [if_pos rfl]
    rw [e] at h
    exact h3 _ ⟨j, k, rfl, rfl, _, rfl, h⟩
theorem chainN {f g : Int → Int → Bool} {ta tb tc : TE} {σ : L2.St} {H : Hp} {R : Bool → Hp → Prop} (i j k : Int) (h1 : ∀ Q : VK, Q (.int i) H → ta σ H Q) (h2 : ∀ Q : VK, Q (.int j) H → tb σ H Q) (h3 : ∀ Q : VK, Q (.int k) H → tc σ H Q) (h : R (!(f i j && g j k)) H) :
    tNot (tTest (tChain (rI0 fun i j => .bl (f i j)) (rI0 fun i j => .bl (g i j)) ta tb tc)) σ H R := chainI (R := fun b H' => R (!b) H') i j k h1 h2 h3 h
/-- a, b = x, y: what is known of x -/
theorem par_rel {i j : Nat} {te : TE} {tr : TA} {u : TS} {D : Ends} {σ : L2.St} {H : Hp} (P : V → Hp → Prop) (h1 : ∀ R : VK, (∀ v H', P v H' → R v H') → te σ H R)
    (h2 : ∀ v H', P v H' → tr σ H' fun ws H2 => ∃ v1 w, v :: ws = [v1, w] ∧ u D ((σ.set i (some v1)).set j (some w)) H2) : tSeq (tPar i j (tCons te tr)) u D σ H := h1 _ h2
/-- paired place by place -/
theorem pair_of {α β : Type} {R : α → β → Prop} : ∀ {as : List α} {bs : List β}, as.length = bs.length → (∀ (i : Nat) a b, as[i]? = some a → bs[i]? = some b → R a b) → PySem.Paired R as bs
  | [], [], _, _ => .nil
  | [], _ :: _, h, _ => by simp at h
  | _ :: _, [], h, _ => by simp at h
  | a :: as, b :: bs, h, k => .cons (k 0 a b rfl rfl) (pair_of (by simpa using h) fun i x y hx hy => k (i + 1) x y hx hy)
end Shg
set_option Elab.async false
set_option linter.all false
set_option maxRecDepth 100000
set_option maxHeartbeats 4000000
set_option autoImplicit false
/-! Ways to go: dicts from piles of names to numbers of ways. -/
namespace Go
open PySem L2 Sho NdefX Shg
theorem put_mem {κ : Type} [DecidableEq κ] {kvs : List (κ × V)} {k : κ} {v : V} {p : κ × V} (h : p ∈ putK kvs k v) : p = (k, v) ∨ (p ∈ kvs ∧ p.1 ≠ k) := by
  unfold putK at h
  split at h
  · obtain ⟨q, hq, e⟩ := List.mem_map.mp h
    by_cases c : q.1 = k
    · rw [if_pos c] at e
      exact .inl (by rw [← e, c])
    · rw [if_neg c] at e
      exact .inr ⟨by rw [← e]; exact hq, by rw [← e]; exact c⟩
  · rename_i c
    rcases List.mem_append.mp h with h | h
    · by_cases e : p.1 = k
      · exact absurd (List.any_eq_true.mpr ⟨p, h, decide_eq_true e⟩) c
      · exact .inr ⟨h, e⟩
    · exact .inl (List.mem_singleton.mp h)
theorem put_keys {κ : Type} [DecidableEq κ] (kvs : List (κ × V)) (k : κ) (v : V) : (putK kvs k v).map (·.1) = if k ∈ kvs.map (·.1) then kvs.map (·.1) else kvs.map (·.1) ++ [k] := by
  have e : (kvs.any fun kv => decide (kv.1 = k)) = decide (k ∈ kvs.map (·.1)) := by
    rw [Bool.eq_iff_iff, List.any_eq_true, decide_eq_true_eq, List.mem_map]
    exact ⟨fun ⟨q, hq, e⟩ => ⟨q, hq, of_decide_eq_true e⟩, fun ⟨q, hq, e⟩ => ⟨q, hq, decide_eq_true e⟩⟩
  unfold putK
  rw [e]
  by_cases c : k ∈ kvs.map (·.1)
  · rw [if_pos (decide_eq_true c), if_pos c, List.map_map]
    refine List.map_congr_left fun q _ => ?_
    show (if q.1 = k then (q.1, v) else q).1 = q.1
    split <;> rfl
  · rw [if_neg (by rw [decide_eq_false c]; decide), if_neg c, List.map_append]
    rfl
theorem put_nodup {κ : Type} [DecidableEq κ] {kvs : List (κ × V)} (k : κ) (v : V) (h : (kvs.map (·.1)).Nodup) : ((putK kvs k v).map (·.1)).Nodup := by
  rw [put_keys]
  split
  · exact h
  · rename_i c
    exact List.nodup_append.mpr ⟨h, List.nodup_cons.mpr ⟨List.not_mem_nil, .nil⟩, fun a ha b hb e => by
      rw [List.mem_singleton.mp hb] at e
      exact c (by rw [← e]; exact ha)⟩
theorem put_ne {κ : Type} [DecidableEq κ] (kvs : List (κ × V)) (k : κ) (v : V) : putK kvs k v ≠ [] := fun z => by
  have := put_keys kvs k v
  rw [z] at this
  split at this
  · rename_i c
    rw [List.map_nil] at this
    rw [← this] at c
    cases c
  · simp at this
/-! ### how many there can be -/
def subs {α : Type} : List α → List (List α)
  | [] => [[]]
  | a :: r => subs r ++ (subs r).map (a :: ·)
theorem subs_len {α : Type} : ∀ l : List α, (subs l).length = 2 ^ l.length
  | [] => rfl
  | a :: r => by
    unfold subs
    rw [List.length_append, List.length_map, subs_len r, List.length_cons, Nat.pow_succ]
    omega
theorem mem_subs {α : Type} {s l : List α} (h : s.Sublist l) : s ∈ subs l := by
  induction h with
  | slnil => exact List.mem_singleton.mpr rfl
  | cons a _ ih => exact List.mem_append.mpr (.inl ih)
  | cons_cons a _ ih => exact List.mem_append.mpr (.inr (List.mem_map.mpr ⟨_, ih, rfl⟩))
theorem nodup_le {α : Type} [DecidableEq α] : ∀ {xs ys : List α}, xs.Nodup → (∀ x ∈ xs, x ∈ ys) → xs.length ≤ ys.length
  | [], _, _, _ => Nat.zero_le _
  | x :: xs, ys, nd, h => by
    rw [List.nodup_cons] at nd
    have hx := h x List.mem_cons_self
    have ih := nodup_le (xs := xs) (ys := ys.erase x) nd.2 fun y hy => (List.mem_erase_of_ne fun z => nd.1 (by rw [← z]; exact hy)).mpr (h y (List.mem_cons_of_mem _ hy))
    rw [List.length_erase_of_mem hx] at ih
    have : 0 < ys.length := List.length_pos_of_mem hx
    rw [List.length_cons]
    omega
abbrev keyN (ns : List Str) : List L2.Key := ns.map .inr
/-- one entry: a pile of n guests of B, how many ways, one of them -/
def Entry (H : Hp) (n M : Nat) (B : List Str) (p : List L2.Key × V) : Prop := ∃ (ns : List Str) (t wv : Addr) (c : Int) (ws : List Str), p = (keyN ns, .ref t) ∧ ns.length = n ∧ ns.Sublist B ∧ H t = some (.tup [.int c, .ref wv]) ∧ 1 ≤ c ∧ H wv = some (.tup (ws.map V.str)) ∧ ws.length ≤ M
structure Ways (H : Hp) (n M : Nat) (B : List Str) (kvs : List (List L2.Key × V)) : Prop where
  some : kvs ≠ []
  nd : (kvs.map (·.1)).Nodup
  all : ∀ p ∈ kvs, Entry H n M B p
theorem ways_few {H : Hp} {n M : Nat} {B : List Str} {kvs : List (List L2.Key × V)} (nd : (kvs.map (·.1)).Nodup) (all : ∀ p ∈ kvs, Entry H n M B p) (hB : B.length ≤ 10) : kvs.length ≤ 1024 := by
  have h := nodup_le (xs := kvs.map (·.1)) (ys := (subs B).map keyN) nd fun x hx => by
    obtain ⟨p, hp, rfl⟩ := List.mem_map.mp hx
    obtain ⟨ns, t, wv, c, ws, rfl, _, sl, _⟩ := all p hp
    exact List.mem_map.mpr ⟨ns, mem_subs sl, rfl⟩
  rw [List.length_map, List.length_map, subs_len] at h
  exact Nat.le_trans h (Nat.le_trans (Nat.pow_le_pow_right (by decide) hB) (by decide))
theorem Entry.keep {H H' : Hp} {n M : Nat} {B : List Str} {p : List L2.Key × V} (h : Entry H n M B p) (k : ∀ b vs, H b = some (.tup vs) → H' b = some (.tup vs)) : Entry H' n M B p := by
  obtain ⟨ns, t, wv, c, ws, e, l, sl, h1, hc, h2, hl⟩ := h
  exact ⟨ns, t, wv, c, ws, e, l, sl, k _ _ h1, hc, k _ _ h2, hl⟩
/-- one more way: a pile whose guest at a place has gone -/
theorem less_one {ns B : List Str} {j : Nat} (h : ns.Sublist B) (hj : j < ns.length) : (ns.take j ++ ns.drop (j + 1)).Sublist B ∧ (ns.take j ++ ns.drop (j + 1)).length + 1 = ns.length := by
  refine ⟨?_, ?_⟩
  · rw [← List.eraseIdx_eq_take_drop_succ]
    exact (List.eraseIdx_sublist ns j).trans h
  · rw [List.length_append, List.length_take, List.length_drop]
    omega
end Go
set_option Elab.async false
set_option linter.all false
set_option maxRecDepth 100000
set_option maxHeartbeats 4000000
set_option autoImplicit false
/-! d.items() of a dict with tuple keys, in a `for` and in a comprehension. -/
namespace Sho
open PySem PySem.Spec PyProof.Rows L2
section
variable {X : Cx} {pins : List (Addr × Obj)} {σ : L2.St} {H : Hp} {s : Shared} {d : Addr} {o : Obj}
theorem frzT2 {kvs : List (List L2.Key × V)} (I : Inv X pins σ H s) (h : H d = some (.frz o (.dT kvs))) :
    (d == sysModules) = false ∧ s.heap.get? d = some o ∧ o.ExactDict ∧ ∃ (es : Array DictEntry) (ep : Nat), o.data = .dict es ep ∧ es.size = kvs.length ∧
      ∀ (i : Nat) (k : List L2.Key) (v : V), kvs[i]? = some (k, v) → ∃ (en : DictEntry) (q : Addr), es[i]? = some en ∧ en.key = .ref q ∧ RelV v en.val ∧ H q = some (.tup (k.map kV)) := by
  obtain ⟨hd, z, hs, xs, pr, o', es, ep, ho, hx, hdt, he, _⟩ := I.hok d _ h
  rw [hd] at ho
  cases ho
  refine ⟨hs, hd, hx, es, ep, hdt, ?_, fun i k v e => ?_⟩
  · have l1 : es.size = xs.length := size_of_entries he
    have l2 : kvs.length = xs.length := Paired.length pr
    omega
  · obtain ⟨b, hb, e1, e2, e3⟩ := paired_get pr e
    have q := entry_at he i
    rw [hb] at q
    exact ⟨_, b.2.1, q, rfl, e3, e2⟩
end
/-- the pairs, each a new tuple of the key's own tuple and the value -/
def Itit (d : Addr) (o : Obj) (kvs : List (List L2.Key × V)) : It :=
  ⟨fun i H => H d = some (.frz o (.dT kvs)) ∧ i < kvs.length, fun i H x H' => ∃ (T q : Addr) (k : List L2.Key) (v : V), kvs[i]? = some (k, v) ∧ x = .ref T ∧ H T = none ∧ H q = some (.tup (k.map kV)) ∧ H' = upd H T (.tup [.ref q, v]), fun i H => H d = some (.frz o (.dT kvs)) ∧ kvs.length ≤ i⟩
section
variable {P : Program} {w : World} {K : PySem.W.Frag} {d : Addr} {o : Obj} {es : Array DictEntry} {ep : Nat}
theorem turn_itemsT {kvs : List (List L2.Key × V)} {elts : List Expr} {kk : Nat} {tpos : Pos} (it : Addr) (hod : o.data = .dict es ep) :
    Turn P w K (.Tuple elts kk tpos) (Itit d o kvs) [it] it (fun i h => ∃ ok ov, IsItemIter h it d i kvs.length ep ok ov) where
  mem := by simp
  obj := fun i h st b hb => by
    have e : b = it := by simpa using hb
    subst e
    obtain ⟨ok, ov, e⟩ := st
    exact ⟨_, e, fun v z => nomatch z⟩
  keep := fun i h h' st k => let ⟨ok, ov, e⟩ := st; ⟨ok, ov, k it (by simp) _ e⟩
  item := by
    intro X hP hw hK hc i pins s σ H E I hf st hg
    subst hP hw hK
    obtain ⟨hd, hi⟩ := hg
    obtain ⟨hs, hgd, hx, es', ep', hdt, hsz, ent⟩ := frzT2 I hd
    obtain ⟨rfl, rfl⟩ := dict_ep hod hdt
    obtain ⟨⟨k, v⟩, hkv⟩ : ∃ p, kvs[i]? = some p := ⟨kvs[i], List.getElem?_eq_getElem hi⟩
    obtain ⟨en, q, hen, hkey, hval, hq⟩ := ent i k v hkv
    obtain ⟨ok, ov, he⟩ := st
    rw [← hsz] at he
    have hi' : i < es'.size := by omega
    have een : es'[i] = en := by
      rw [Array.getElem?_eq_getElem hi'] at hen
      exact Option.some.inj hen
    have hlt : it < s.heap.objs.size := Heap.lt_size he
    refine DT.nextI he ⟨o, hgd, hx, hdt⟩ hi' fun h' ho hT hz hk => ?_
    rw [een] at ho hT
    refine ⟨_, rfl, wpAny_letOwnedTupleGo_items (s := { s with heap := h' }) ho fun h'' he' sb => ?_⟩
    have hT2 : h''.get? s.heap.objs.size = some { cls := .type "tuple", data := .seq #[en.key, en.val] } := (sb.2 _ (Nat.ne_of_gt hlt)).trans hT
    have rk : RelV (V.ref q) en.key := hkey
    have new : ObjOk X.prog X.w (upd H s.heap.objs.size (.tup [.ref q, v])) h'' s.heap.objs.size (.tup [.ref q, v]) :=
      ⟨by show 2 ≤ sizeLine; decide, [en.key, en.val], .cons rk (.cons hval .nil), ⟨_, hT2, rfl, _, rfl⟩⟩
    have I1 : Inv X pins σ (upd H s.heap.objs.size (.tup [.ref q, v])) { s with heap := h'' } :=
      I.turnedNew (t' := s.toks) (ch := [it]) (fun b ob hb e => (sb.2 b (by simpa using hb)).trans (hk b ob (by simpa using hb) e)) hf (Nat.le_refl _) new
    refine ⟨.ref s.heap.objs.size, _, I1, rfl, ⟨_, q, k, v, hkv, rfl, I.hok.fresh (Nat.le_refl _), hq, rfl⟩, ⟨en.key, en.val, ?_⟩, fun b hb => ?_⟩
    · rw [← hsz]; exact he'
    · have e : b = it := by simpa using hb
      rw [e, upd_ne (Nat.ne_of_lt hlt)]
      exact (hf it (by simp)).1
  done := by
    intro X hP hw hK hc i pins s σ H E I hf st hg
    subst hP hw hK
    obtain ⟨hd, hi⟩ := hg
    obtain ⟨f0, f1, f2, f3, f4, f5⟩ := hf it (by simp)
    obtain ⟨hs, hgd, hx, es', ep', hdt, hsz, ent⟩ := frzT2 I hd
    obtain ⟨rfl, rfl⟩ := dict_ep hod hdt
    obtain ⟨ok, ov, he⟩ := st
    rw [← hsz] at he
    exact DT.endI (I.ok.hd hc) he ⟨o, hgd, hx, hdt⟩ (by omega) fun h' eb => ⟨rfl, I.turned (t' := s.toks) (fun b ob hb e => eb b ob hb e) f0 f1 f3 f4 f5⟩
  self := fun A i s Q E st h => let ⟨_, _, e⟩ := st; PySem.W.kcp_self e h
end
def iItemsT (td : TE) : TI := fun σ H R => td σ H fun x H1 => ∃ d o kvs, x = .ref d ∧ H1 d = some (.frz o (.dT kvs)) ∧ R (Itit d o kvs) H1
section
variable {X : Cx} {e : Expr} {td : TE} {apos cpos : Pos}
theorem pi_itemsT {elts : List Expr} {kk : Nat} {tpos : Pos} (he : PE X e td) (hbase : attributeBase e "items" X.env (eval e X.env) = eval e X.env := by rfl) (hline : (apos.endLine == cpos.line) = true := by rfl) :
    PI X (.Tuple elts kk tpos) (.Call (.Attribute e "items" apos) [] [] cpos) (iItemsT td) := by
  refine ⟨fun pins s σ H R I h => ?_⟩
  refine wpAny_Call_method (T := "dict") (id := "dict.items") hbase rfl hline PySem.F.plainAttrs_dict PySem.F.slot_dict_items PySem.F.type_dict_items (thn (he.run pins s σ H _ I h) fun u s1 ⟨x, H1, I1, rx, d, o, kvs, ex, hd, q⟩ => ?_)
  subst ex
  obtain rfl : u = Value.ref d := rx
  obtain ⟨hs, hgd, hx, es, ep, hdt, hsz, ent⟩ := frzT2 I1 hd
  have hm : DT.Raw s1.heap d es ep := ⟨o, hgd, hx, hdt⟩
  have I2 : Inv X pins σ H1 { s1 with heap := s1.heap.push { cls := .type "dict_items", data := .fields #[.ref d] } } := I1.kept (t' := s1.toks) fun b ob q => Heap.get?_push_of_some _ q
  refine ⟨hm.typeIs, ?_, ?_⟩
  · rintro a ⟨⟩
    exact ⟨o, hgd, hx.2.1⟩
  · have fin : wpAny (model X.prog X.w) X.A (pyIter (.ref s1.heap.objs.size)) (PIE X pins σ (.Tuple elts kk tpos) R) X.xe { s1 with heap := s1.heap.push { cls := .type "dict_items", data := .fields #[.ref d] } } := by
      refine DT.iterI (d := d) ⟨_, Heap.get?_push_size _ rfl, rfl, rfl⟩ (hm.push _) ?_
      refine pi_one (tk := s1.toks) I2 _ (turn_itemsT _ hdt) ⟨.none, .none, ?_⟩ q
      rw [← hsz]
      exact Heap.get?_push_size _ rfl
    show wpAny _ _ (callWith cpos (.builtin "dict.items") [.ref d] [] []) _ X.xe s1
    exact method_meetsIn PySem.F.slot_dict_items PySem.F.entry_dict_items rfl (PySem.evalArgs_none ⟨rfl, hm.typeIs, PySem.F.args_dict_items_1 _, _, DT.meetsItems (es := es) (ep := ep) hs, hm, fin⟩)
end
end Sho
set_option Elab.async false
set_option linter.all false
set_option maxRecDepth 100000
set_option maxHeartbeats 4000000
set_option autoImplicit false
/-! {k: v for target in iter if ..} whose keys are tuples. -/
namespace Sho
open PySem PySem.Spec PyProof.Rows L2
/-- one entry more, the key a tuple -/
theorem d_dictSetT {X : Cx} {pins : List (Addr × Obj)} {σ : L2.St} {H : Hp} {s : Shared} {E : Value → Shared → Prop} {D b : Addr} {kvs : List (List L2.Key × V)} {k : List L2.Key} {v : V} {u r : Value} {Q : Unit → Shared → Prop} (hu : X.A.units < cLine) (I : Inv X pins σ H s) (hD : H D = some (.dT kvs)) (hb : H b = some (.tup (k.map kV))) (hz : kvs.length < sizeLine)
    (ry : RelV (.ref b) u) (rv : RelV v r) (h : ∀ s', Inv X pins σ (upd H D (.dT (putK kvs k v))) s' → Q () s') : wpAny (model X.prog X.w) X.A (dictSet D u r) Q E s := by
  cases (show u = Value.ref b from ry)
  obtain ⟨z, hd, xs, rel, dd⟩ := dt_of I.hok hD
  have hx : xs.length ≤ sizeLine := by rw [← Paired.length rel]; exact z
  have hl : (putK kvs k v).length ≤ sizeLine := by have := length_putK kvs k v; omega
  refine wpAny_dictSet_heap (hsz := hx) (show (tupleKind (mixKind X.prog X.w)).room X.A from hu) (key_of I.hok hb) dd fun h' dd' hs => h _ ?_
  obtain ⟨q, es, ep, hq, h2, h3, h4, _, h5⟩ := dd'
  refine d_write I (by rw [hD]; exact True.intro) hs ⟨q, hq⟩ ⟨hl, hd, _, (rel.put k hb rv).keeps fun c ys ec => ?_, q, es, ep, hq, h2, h3, h4, h5⟩
  rw [upd_ne (ne_of ec hD (fun z => nomatch z))]
  exact ec
/-- the reading: D is the new dict -/
def tDcT (wi : TI) (g : TG) (tt : TT) (tk tv : TE) (vs : List Nat) : TE := fun σ H Q => wi σ H fun J H1 => ∀ D, H1 D = none → ∃ W : Nat → Nat → Hp → Prop, (∃ m, W 0 m (upd H1 D (.dT []))) ∧ ∀ i m H, W i m H →
  (J.stop i H ∧ Q (.ref D) H) ∨ (J.go i H ∧ ∃ Nx : Hp → Prop, (∀ H', Nx H' → ∃ m', m' < m ∧ W (i + 1) m' H') ∧ ∀ x H', J.yld i H x H' → g x (wipe σ vs) H' fun σ2 H2 => wipe σ2 vs = wipe σ vs ∧ tt σ2 H2 fun b H3 =>
    if b = true then tk σ2 H3 fun y H4 => tv σ2 H4 fun z H5 => ∃ kvs k q, y = V.ref q ∧ H5 q = some (.tup (k.map kV)) ∧ H5 D = some (.dT kvs) ∧ kvs.length < sizeLine ∧ Nx (upd H5 D (.dT (putK kvs k z))) else Nx H3)
section
variable {X : Cx}
theorem dcT_core {pins : List (Addr × Obj)} {s : Shared} {σ : L2.St} {H : Hp} {Q : VK} {kx vx tg iter : Expr} {ifs : List Expr} {scope : Scope} {own : List (Str × Nat)} {pos pos' : Pos} {wi : TI} {g : TG} {tt : TT} {tk tv : TE} {use : Option (Value → Sem Unit)} {Qf : Value → Shared → Prop}
    (hu : X.A.units < cLine) (hc : X.calm = true) (hN : X.N.Nodup) (I : Inv X pins σ H s) (hi : PI X tg iter wi) (ok : BlkOk X.N X.env.scope scope own)
    (hg : ∀ (s : Shared) (H : Hp) (C : Addr) (cl : List (Str × Addr)) (fp : List Addr), PG (X.blk s H scope (compEnvC scope cl C X.env) fp) tg g) (ht : ∀ (s : Shared) (H : Hp) (C : Addr) (cl : List (Str × Addr)) (fp : List Addr), PTs (X.blk s H scope (compEnvC scope cl C X.env) fp) ifs tt)
    (hk : ∀ (s : Shared) (H : Hp) (C : Addr) (cl : List (Str × Addr)) (fp : List Addr), PE (X.blk s H scope (compEnvC scope cl C X.env) fp) kx tk)
    (he : ∀ (s : Shared) (H : Hp) (C : Addr) (cl : List (Str × Addr)) (fp : List Addr), PE (X.blk s H scope (compEnvC scope cl C X.env) fp) vx tv) (hs : ∀ x, foldedSetIterable iter X.env x = pure x) (h : tDcT wi g tt tk tv (own.map (·.2)) σ H Q)
    (out : ∀ D C s' m H', Inv X pins σ H' s' → Q (.ref D) H' → s'.heap.Ns C m → FpOk X pins H' C → compPost (model X.prog X.w) X.A X.xe use Qf (.ref D) C (.ok .next) s') :
    wpAny (model X.prog X.w) X.A (comprehension (.DictComp kx vx [⟨tg, iter, ifs, 0⟩] scope pos) scope X.env pos' newDict false (eval iter X.env) use) Qf X.xe s := by
  have free : ∀ y ∈ scope.names, y.2 = .free → ∃ c, X.env.cells.lookup y.1 = some c := fun y hy e => (ok.free y hy e).elim (fun k => I.ok.has _ (.inl k)) fun k => I.ok.has _ (.inr k)
  refine wpAny_comprehension_free (use := use) rfl hs (closure_ok free) ok.kind (fun y hy e => by rw [ok.uniq y hy, e]) (thn (hi.run pins s σ H _ I h) fun xv s1 hx => thn hx fun itv s2 h2 => ?_)
  obtain ⟨it, fp, tn, J, H2, rfl, I2, T, st2, f2, q⟩ := h2
  refine wpAny_newObj_type (newEnv_comp ?_)
  have hD0 : H2 s2.heap.objs.size = none := I2.hok.fresh (Nat.le_refl _)
  generalize hD : s2.heap.objs.size = D at hD0
  obtain ⟨W, ⟨m0, w0⟩, turn⟩ := q D hD0
  generalize es3 : ({ s2 with heap := s2.heap.push { cls := .type "dict", data := .dict #[] } } : Shared) = s3
  have h3 : s3.heap = s2.heap.push { cls := .type "dict", data := .dict #[] } := by rw [← es3]
  have I3 : Inv X pins σ (upd H2 D (.dT [])) s3 := by
    rw [← es3]
    refine I2.laid (t' := s2.toks) (fun b o e => Heap.get?_push_of_some _ e) (Nat.le_of_eq hD) ?_
    rw [← hD]
    exact dt_empty s2.heap I2.big
  have low : ∀ b ∈ fp, b < s2.heap.objs.size := fun b hb => let ⟨_, e, _⟩ := T.obj _ _ st2 b hb; Heap.lt_size e
  have f3 : ∀ b ∈ fp, FpOk X pins (upd H2 D (.dT [])) b ∧ b < s3.heap.objs.size := fun b hb => by
    have l := low b hb
    exact ⟨⟨by rw [upd_ne (by rw [← hD]; exact Nat.ne_of_lt l)]; exact (f2 b hb).1, (f2 b hb).2⟩, by rw [h3, Heap.size_push]; exact Nat.lt_succ_of_lt l⟩
  have st3 : tn 0 s3.heap := T.keep _ _ _ st2 fun b _ o e => by rw [h3]; exact Heap.get?_push_of_some _ e
  have I4 := block_start I3 ok hN f3
  have n0 : ∀ b ∈ fp, (upd H2 D (.dT [])) b = none := fun b hb => (f3 b hb).1.1
  generalize eH3 : upd H2 D (.dT []) = H3 at I3 I4 w0 n0 f3
  generalize ecl : cellsFrom (s3.heap.objs.size + 1) scope.names (cloFrom X.env.cells scope.names []) = cl at I4
  have pg := hg s3 H3 s3.heap.objs.size cl fp
  have pt := ht s3 H3 s3.heap.objs.size cl fp
  have pk := hk s3 H3 s3.heap.objs.size cl fp
  have pe := he s3 H3 s3.heap.objs.size cl fp
  show codeAny _ _ (.compStart (.DictComp kx vx [⟨tg, iter, ifs, 0⟩] scope pos) 0 (.ref it) (.ref D) (compEnvC scope cl s3.heap.objs.size X.env)) (compPost (model X.prog X.w) X.A X.xe use Qf (.ref D) s3.heap.objs.size) { s3 with heap := pushCells (s3.heap.push { cls := .type "dict", data := .dict #[] }) scope.names }
  generalize ece : compEnvC scope cl s3.heap.objs.size X.env = ce at I4 pg pt pk pe ⊢
  have cL : ce.locals = s3.heap.objs.size := by subst ece; rfl
  generalize es4 : ({ s3 with heap := pushCells (s3.heap.push { cls := .type "dict", data := .dict #[] }) scope.names } : Shared) = s4 at I4 ⊢
  have st4 : tn 0 s4.heap := T.keep _ _ _ st3 fun b _ o e => by rw [← es4]; exact pushCells_keeps _ _ _ _ (Heap.get?_push_of_some _ e)
  have mine : ∀ {σ' : L2.St} {H' : Hp} {s' : Shared}, Inv (X.blk s3 H3 scope ce fp) [] σ' H' s' → (∀ b ∈ fp, H' b = none) → ∀ b ∈ fp, FpOk (X.blk s3 H3 scope ce fp) [] H' b := fun {σ' H' s'} J' hn b hb =>
    ⟨hn b hb, (J'.ok.exf b hb).1, J'.ok.exfs b hb, .inl hb, fun x c e => (J'.ok.exf b hb).2 x c e, fun p hp => absurd (show p ∈ ([] : List (Addr × Obj)) ++ [] from hp) (by simp)⟩
  have loop : codeAny (model X.prog X.w) X.A (.compLoop (.DictComp kx vx [⟨tg, iter, ifs, 0⟩] scope pos) 0 (.ref it) (.ref D) ce) (compPost (model X.prog X.w) X.A X.xe use Qf (.ref D) s3.heap.objs.size) s4 := by
    refine compLoop_anyD (fun n s' => ∃ i H', Inv (X.blk s3 H3 scope ce fp) [] (wipe σ (own.map (·.2))) H' s' ∧ tn i s'.heap ∧ (∀ b ∈ fp, H' b = none) ∧ W i n H') ?_ m0 ⟨0, H3, I4, st4, n0, w0⟩
    rintro n s5 ⟨i, H5, I5, st5, n5, w5⟩
    rcases turn i n H5 w5 with ⟨stop, qq⟩ | ⟨go, Nx, hNx, step⟩
    · refine thnF (T.done (X.blk s3 H3 scope ce fp) rfl rfl rfl hc i [] s5 _ H5 (fun _ _ => False) I5 (mine I5 n5) st5 stop) fun r s6 ⟨hr, I6⟩ => ?_
      subst hr
      have I7 : Inv X pins σ H5 s6 := I3.call' (ch := fp) I6.os I6.base I6.hok I6.bare fun b hb => ⟨(f3 b hb).1.2.2.2.1, (f3 b hb).1.2.1, (f3 b hb).1.2.2.2.2.1, (f3 b hb).1.2.2.2.2.2⟩
      have nC : H5 s3.heap.objs.size = none := by rw [← cL]; exact I6.free
      obtain ⟨m, hn, _⟩ := I6.loc
      have hn : s6.heap.Ns ce.locals m := hn
      rw [cL] at hn
      exact out D s3.heap.objs.size s6 m H5 I7 qq hn (I3.fpOk (Nat.le_refl _) nC)
    · refine thnF (T.item (X.blk s3 H3 scope ce fp) rfl rfl rfl hc i [] s5 _ H5 (fun _ _ => False) I5 (mine I5 n5) st5 go) fun r s6 ⟨u, hr, h6⟩ => ?_
      subst hr
      refine thnF h6 fun _ s7 ⟨x, H7, I7, r7, y7, st7, n7⟩ => ?_
      refine thnF (pg.run _ s7 _ H7 x u _ (I7.pinned (mine I7 n7) (T.obj _ _ st7)) r7 (step x H7 y7)) fun _ s8 ⟨σ8, H8, I8, hw, q8⟩ => ?_
      refine thnF (pt.run _ s8 σ8 H8 _ I8 q8) fun b s9 ⟨H9, I9, q9⟩ => ?_
      have fin : ∀ {s' : Shared} {H' : Hp}, Inv (X.blk s3 H3 scope ce fp) ([] ++ pinsAt fp s7.heap) σ8 H' s' → Nx H' → ∃ m, m < n ∧ ∃ i H', Inv (X.blk s3 H3 scope ce fp) [] (wipe σ (own.map (·.2))) H' s' ∧ tn i s'.heap ∧ (∀ b ∈ fp, H' b = none) ∧ W i m H' := fun {s' H'} J' nx => by
        obtain ⟨m', hm, w'⟩ := hNx H' nx
        have kept : ∀ b ∈ fp, ∀ o, s7.heap.get? b = some o → s'.heap.get? b = some o ∧ H' b = none := fun b hb o e =>
          have z := J'.pin (b, o) (List.mem_append_right _ (List.mem_append_right _ (mem_pinsAt hb e)))
          ⟨z.1, z.2.1⟩
        refine ⟨m', hm, i + 1, H', (J'.unpinned (pins := [])).weak (by rw [← hw, wipe_length]) (fun j v e => (wipe_some (hw ▸ e : (wipe σ8 (own.map (·.2)))[j]? = some (some v))).1), T.keep _ _ _ st7 fun b hb o e => (kept b hb o e).1, fun b hb => ?_, w'⟩
        obtain ⟨o, e, _⟩ := T.obj _ _ st7 b hb
        exact (kept b hb o e).2
      cases b with
      | false =>
        simp only [Bool.false_eq_true, if_false] at q9 ⊢
        exact fin I9 q9
      | true =>
        simp only [if_true] at q9 ⊢
        refine thnF (pk.run _ s9 σ8 H9 _ I9 q9) fun z s10 ⟨yk, H10, I10, r10, q10⟩ => ?_
        refine thnF (pe.run _ s10 σ8 H10 _ I10 q10) fun z2 s11 ⟨yv, H11, I11, r11, kvs, k, qa, ek, eq, hD11, hz11, nx⟩ => ?_
        subst ek
        exact d_dictSetT (X := X.blk s3 H3 scope ce fp) hu I11 hD11 eq hz11 r10 r11 fun s12 I12 => fin I12 nx
  exact codeAny_compStart_dict loop (T.self X.A 0 _ _ _ st4 loop)
theorem pe_dcT {kx vx tg iter : Expr} {ifs : List Expr} {scope : Scope} {own : List (Str × Nat)} {pos : Pos} {wi : TI} {g : TG} {tt : TT} {tk tv : TE} (hu : X.A.units < cLine) (hc : X.calm = true) (hN : X.N.Nodup) (hi : PI X tg iter wi) (ok : BlkOk X.N X.env.scope scope own)
    (hg : ∀ (s : Shared) (H : Hp) (C : Addr) (cl : List (Str × Addr)) (fp : List Addr), PG (X.blk s H scope (compEnvC scope cl C X.env) fp) tg g) (ht : ∀ (s : Shared) (H : Hp) (C : Addr) (cl : List (Str × Addr)) (fp : List Addr), PTs (X.blk s H scope (compEnvC scope cl C X.env) fp) ifs tt)
    (hk : ∀ (s : Shared) (H : Hp) (C : Addr) (cl : List (Str × Addr)) (fp : List Addr), PE (X.blk s H scope (compEnvC scope cl C X.env) fp) kx tk)
    (he : ∀ (s : Shared) (H : Hp) (C : Addr) (cl : List (Str × Addr)) (fp : List Addr), PE (X.blk s H scope (compEnvC scope cl C X.env) fp) vx tv) (hs : ∀ x, foldedSetIterable iter X.env x = pure x := by intro _; rfl) :
    PE X (.DictComp kx vx [⟨tg, iter, ifs, 0⟩] scope pos) (tDcT wi g tt tk tv (own.map (·.2))) := by
  refine ⟨fun pins s σ H Q I h => ?_⟩
  rw [arm_eval_DictComp]
  refine dcT_core hu hc hN I hi ok hg ht hk he hs h fun D C s' m H' J q hn fc => ⟨m, hn, fun h'' sb => ?_⟩
  obtain ⟨g0, g1, g2, g3, g4, g5⟩ := fc
  exact ⟨.ref D, H', J.turned (t' := s'.toks) (fun b o hb e => (sb.2 b hb).trans e) g0 g1 g3 g4 g5, rfl, q⟩
/-- name = {..} on one line, the name a local -/
theorem ps_setDcT {i : Nat} {y : Str} {py spos : Pos} {kx vx tg iter : Expr} {ifs : List Expr} {scope : Scope} {own : List (Str × Nat)} {pos : Pos} {wi : TI} {g : TG} {tt : TT} {tk tv : TE} (hu : X.A.units < cLine) (hc : X.calm = true) (hN : X.N.Nodup) (hy : X.N[i]? = some y) (hyl : X.env.scope.names.lookup y = some .local)
    (hsw : swapsWith (.DictComp kx vx [⟨tg, iter, ifs, 0⟩] scope pos) (some (.Name y py)) spos.line X.env = pure true) (hi : PI X tg iter wi) (ok : BlkOk X.N X.env.scope scope own)
    (hg : ∀ (s : Shared) (H : Hp) (C : Addr) (cl : List (Str × Addr)) (fp : List Addr), PG (X.blk s H scope (compEnvC scope cl C X.env) fp) tg g) (ht : ∀ (s : Shared) (H : Hp) (C : Addr) (cl : List (Str × Addr)) (fp : List Addr), PTs (X.blk s H scope (compEnvC scope cl C X.env) fp) ifs tt)
    (hk : ∀ (s : Shared) (H : Hp) (C : Addr) (cl : List (Str × Addr)) (fp : List Addr), PE (X.blk s H scope (compEnvC scope cl C X.env) fp) kx tk)
    (he : ∀ (s : Shared) (H : Hp) (C : Addr) (cl : List (Str × Addr)) (fp : List Addr), PE (X.blk s H scope (compEnvC scope cl C X.env) fp) vx tv) (hs : ∀ x, foldedSetIterable iter X.env x = pure x := by intro _; rfl) :
    PS X (.Assign [.Name y py] (.DictComp kx vx [⟨tg, iter, ifs, 0⟩] scope pos) spos) (tAsg (tDcT wi g tt tk tv (own.map (·.2))) (gName i)) := by
  refine ⟨fun pins s σ H D I h => ?_⟩
  rw [exec_Assign_Name_used _ _ _ _ hsw]
  refine wpAny_bind (wpAny_standAt (wpAny_bind ?_))
  have h : tDcT wi g tt tk tv (own.map (·.2)) σ H (fun x H1 => gName i x σ H1 D.nx) := h
  show wpAny _ X.A (do let _ ← comprehension (.DictComp kx vx [⟨tg, iter, ifs, 0⟩] scope pos) scope X.env (firstIterPos [⟨tg, iter, ifs, 0⟩] pos) newDict false (eval iter X.env) (some (assign (.Name y py) X.env))) _ _ s
  refine wpAny_bind (thn (dcT_core (Qf := fun _ s' => SP X pins D .next s') hu hc hN I hi ok hg ht hk he hs h fun L C s' m H' J q hn fc => ?_) fun _ s' hq => wpAny_pure (wpAny_pure hq))
  show wpAny _ _ (assign (.Name y py) X.env (.ref L)) _ _ _
  refine wpAny_assign_Name (store_ok2 (v := V.ref L) J hN hy (.inl hyl) rfl (fun s2 J2 ⟨a, sb, ha⟩ => ?_) (.inr hyl))
  obtain ⟨g0, g1, g2, g3, g4, g5⟩ := fc
  have nCa : C ≠ a := ha.elim (fun z => by rw [z]; exact g1) fun z e => g4 y a z e.symm
  exact ⟨m, hn.sameBut sb nCa, fun h3 sb3 => ⟨_, H', J2.turned (t' := s2.toks) (fun b o hb e => (sb3.2 b hb).trans e) g0 g1 g3 g4 g5, q⟩⟩
theorem swD_true {kx vx : Expr} {gs : List Comprehension} {scope : Scope} {pos py : Pos} {y : Str} {l : Nat} {env : Env} (hk : env.scope.kind = .function) (hy : env.scope.names.lookup y = some .local) (hl : (py.line == pos.line) = true)
    (ha : (scope.names.any fun (n, k) => n == y && (k == .local || k == .cell)) = false) : swapsWith (.DictComp kx vx gs scope pos) (some (.Name y py)) l env = pure true := by
  have hb : env.blockKind = .function := by unfold Env.blockKind; rw [hk]; rfl
  have ky : env.kindOf y = some .local := hy
  unfold swapsWith
  simp only [hb, ky, ha, Expr.pos, hl]
  rfl
end
end Sho
set_option Elab.async false
set_option linter.all false
set_option maxRecDepth 100000
set_option maxHeartbeats 4000000
set_option autoImplicit false
/-! {k: v}, k a tuple. -/
namespace Sho
open PySem PySem.Spec PyProof.Rows L2
def tDisp1T (tk tv : TE) : TE := fun σ H Q => ∀ p, H p = none → tk σ (upd H p (.dT [])) fun y H1 => tv σ H1 fun z H2 => ∃ (k : List L2.Key) (q : Addr), y = .ref q ∧ H2 q = some (.tup (k.map kV)) ∧ H2 p = some (.dT []) ∧ Q (.ref p) (upd H2 p (.dT [(k, z)]))
theorem pe_disp1T {X : Cx} {k v : Expr} {pos : Pos} {tk tv : TE} (hu : X.A.units < cLine) (hk : PE X k tk) (hv : PE X v tv) : PE X (.Dict [some k] [v] pos) (tDisp1T tk tv) := by
  refine ⟨fun pins s σ H Q I h => ?_⟩
  have hn := I.hok.fresh (Nat.le_refl s.heap.objs.size)
  have I1 := I.laid (a := s.heap.objs.size) (o := .dT []) (h' := s.heap.push { cls := .type "dict", data := .dict #[] }) (t' := s.toks) (fun _ _ q => Heap.get?_push_of_some _ q) (Nat.le_refl _) (dt_empty s.heap I.big)
  have len := pairTrees_length [some k] [v] X.env pos rfl rfl
  have ne : pairTrees [some k] [v] X.env pos ≠ [] := fun z => by rw [z] at len; cases len
  rw [arm_eval_Dict, zip_pairTrees [some k] [v] X.env pos rfl rfl, dictDisplay_pairs _ ne (by rw [len]; show 1 < 17; decide)]
  refine wpAny_bind (wpAny_standAt (wpAny_bind (wpAny_subDictH (knd := tupleKind (mixKind X.prog X.w)) (Q := fun d s' => wpAny (model X.prog X.w) X.A (pure (Value.ref d)) (EP X pins σ Q) X.xe s') hu (by rw [len]; show 1 ≤ 15; decide) ?_)))
  refine pairTrees_cons_walk (thn (hk.run pins _ σ _ _ I1 (h _ hn)) fun u s1 ⟨x, H1, I2, rx, q1⟩ => thn (hv.run pins s1 σ H1 _ I2 q1) fun w2 s2 ⟨y, H2, I3, ry, kk, q, ex, eq, ep, q3⟩ => pairTrees_nil_walk ?_)
  subst ex
  obtain ⟨z, hd, xs, rel, dd⟩ := dt_of I3.hok ep
  cases rel
  refine ⟨[(kk, q, w2)], ⟨rx, rfl, key_of I3.hok eq, trivial⟩, dd, fun h' tk dd' hs => wpAny_pure ⟨.ref _, _, ?_, rfl, q3⟩⟩
  obtain ⟨o, es, epp, hq, h2, h3, h4, _, h5⟩ := dd'
  refine d_write I3 (by rw [ep]; exact True.intro) hs ⟨o, hq⟩ ⟨by show 1 ≤ sizeLine; decide, hd, [(kk, q, w2)], ?_, o, es, epp, hq, h2, h3, h4, h5⟩
  exact .cons ⟨rfl, (upd_ne (ne_of eq ep (fun z => nomatch z))).trans eq, ry⟩ .nil
end Sho
set_option Elab.async false
set_option linter.all false
set_option maxRecDepth 100000
set_option maxHeartbeats 2000000
/-! enumerate of a tuple. -/
namespace ShE
open PySem
open Sem (wp)
open AutoSeq1 (wpAny_loadPart')
/-- the enumerate of the tuple o at t -/
theorem meets_enumT (t : Addr) (o : Obj) (items : Array Value) (hc : o.cls = .type "tuple") (n : Nat) (hd : o.data = .seq items n) :
    Meets (Builtin.«enumerate.__new__» ⟨[.type "enumerate", .ref t], []⟩) (fun _ R s => s.heap.get? t = some o ∧
      R (.ok (.ret (.ref (s.heap.push { cls := .type "tuple_iterator", data := .fields #[.ref t, .int 0 0] }).objs.size)))
        { s with heap := (s.heap.push { cls := .type "tuple_iterator", data := .fields #[.ref t, .int 0 0] }).push { cls := .type "enumerate", data := .fields #[.none, .bool false, .ref s.heap.objs.size, rawInt 0, .none, .none] } }) :=
  .of_wp fun prog w A R s h => by
    obtain ⟨hp, g, d, tk, os⟩ := s
    obtain ⟨ht, h⟩ := h
    obtain ⟨oc, od, odt, osl⟩ := o
    replace hc : oc = .type "tuple" := hc
    replace hd : odt = .seq items n := hd
    subst hc hd
    have sub := sub_enumerate
    have isT : Heap.IsTuple (Shared.heap ⟨hp, g, d, tk, os⟩) t items := ⟨_, ht, rfl, n, rfl⟩
    wp_walk using wpAny_loadPart' ht
    refine wpAny_stack_any fun st => wpAny_pure ?_
    split
    · rename_i c _ _ _ _ _
      cases (c == Value.type "enumerate")
      all_goals
        wp_walk using wpAny_loadPart' ht, wpAny_pyIter_tuple isT
        exact ⟨_, rfl, h⟩
    · wp_walk using wpAny_loadPart' ht, wpAny_pyIter_tuple isT
      exact ⟨_, rfl, h⟩
section
variable {prog : Program} {w : World} {A : Around} {E : Value → Shared → Prop} {s : Shared}
theorem call_enumT {t : Addr} {items : Array Value} {Q : Value → Shared → Prop} (hT : s.heap.IsTuple t items)
    (h : ∀ h', IsEnum h' (s.heap.objs.size + 1) s.heap.objs.size 0 .none → h'.IsTupleIter s.heap.objs.size t 0 → h'.objs.size = s.heap.objs.size + 2 →
      (∀ b o, s.heap.get? b = some o → h'.get? b = some o) → Q (.ref (s.heap.objs.size + 1)) { s with heap := h' }) :
    wpAny (model prog w) A (call (.type "enumerate") [.ref t]) Q E s := by
  obtain ⟨o, ho, hc, n, hd⟩ := hT
  refine callType_new F.called_enumerate (by decide) (F.typeCall_enumerate_1 _) (F.newCall_enumerate_1 _) (fun obj => F.args_object_init_2 obj _) F.entry_enumerate_new
    (meets_enumT t o items hc n hd) ⟨ho, ?_⟩
  generalize hI : s.heap.push { cls := .type "tuple_iterator", data := .fields #[.ref t, .int 0 0] } = h1
  have z1 : h1.objs.size = s.heap.objs.size + 1 := by
    rw [← hI]
    exact Heap.size_push ..
  have it1 : h1.get? s.heap.objs.size = some { cls := .type "tuple_iterator", data := .fields #[.ref t, .int 0 0] } := by
    rw [← hI]
    exact Heap.get?_push_size _ rfl
  show _ ∧ _
  rw [z1]
  have en : IsEnum (h1.push { cls := .type "enumerate", data := .fields #[.none, .bool false, .ref s.heap.objs.size, rawInt 0, .none, .none] }) (s.heap.objs.size + 1) s.heap.objs.size 0 .none := by
    have := Heap.get?_push_size h1 (o := { cls := .type "enumerate", data := .fields #[.none, .bool false, .ref s.heap.objs.size, rawInt 0, .none, .none] }) rfl
    rw [z1] at this
    exact this
  refine ⟨⟨_, en, rfl⟩, h _ en ⟨_, Heap.get?_push_of_some _ it1, rfl, rfl⟩ (by rw [Heap.size_push, z1]) fun b o x => Heap.get?_push_of_some _ ?_⟩
  rw [← hI]
  exact Heap.get?_push_of_some _ x
end
end ShE

namespace Sho
open PySem PySem.Spec PyProof.Rows L2
/-- enumerate of the tuple at a: pairs of the turn and its item -/
def Iet (K : PySem.W.Frag) (a : Addr) : It :=
  ⟨fun i H => ∃ (xs : List V) (x : V), SqT K H a xs ∧ xs[i]? = some x, fun i H v H' => ∃ T x, v = .ref T ∧ H T = none ∧ H' = upd H T (.tup [.int (i : Nat), x]) ∧ ∀ xs, SqT K H a xs → xs[i]? = some x,
    fun i H => ∃ xs : List V, SqT K H a xs ∧ xs.length = i⟩
theorem walk_enumT {K : PySem.W.Frag} {a : Addr} {xs : List V} : Walk (Iet K a) xs.length (fun H => SqT K H a xs) (YPair (fun i => some (.int (i : Nat))) (fun i => xs[i]?)) := by
  refine ⟨fun i H hi q => ⟨xs, xs[i], q, by simp [hi]⟩, fun H q => ⟨xs, q, rfl⟩, fun i H v H' _ q y => ?_⟩
  obtain ⟨T, x, h1, h2, h3, h4⟩ := y
  exact ⟨T, .int (i : Nat), x, h1, h2, h3, rfl, h4 xs q⟩
theorem turn_enumT {P : Program} {w : World} {K : PySem.W.Frag} {elts : List Expr} {kk : Nat} {tpos : Pos} (a e it : Addr) :
    Turn P w K (.Tuple elts kk tpos) (Iet K a) [e, it] e (fun i h => (∃ old, IsEnum h e it ((i : Nat) : Int) old) ∧ h.IsTupleIter it a i ∧ e ≠ it ∧ a ≠ it ∧ a ≠ e) where
  mem := by simp
  obj := fun i h st b hb => by
    obtain ⟨⟨old, he⟩, ⟨o, ho, hc, hd⟩, _⟩ := st
    have two : b = e ∨ b = it := by simpa using hb
    rcases two with z | z
    · rw [z]
      exact ⟨_, he, fun v q => nomatch q⟩
    · rw [z]
      exact ⟨o, ho, fun v q => by rw [hd] at q; cases q⟩
  keep := fun i h h' st k => let ⟨⟨old, he⟩, hi, n⟩ := st; ⟨⟨old, k e (by simp) _ he⟩, hi.at fun o q => k it (by simp) o q, n⟩
  item := by
    intro X hP hw hK hc i pins s σ H E I hf st hg
    subst hP hw hK
    obtain ⟨⟨old, he⟩, hit, n1, n2, n3⟩ := st
    obtain ⟨xs, x, hq, hx⟩ := hg
    obtain ⟨its, rv, isT, hz⟩ := I.tuple hq
    have DR := Draws.tuple (prog := X.prog) (w := X.w) (A := X.A.in1) (I.ok.hd hc) it a n2 its.toArray
    obtain ⟨u, hu, ru⟩ := rv.get hx
    have lt : i < its.toArray.size := by
      rw [List.size_toArray]
      exact (List.getElem?_eq_some_iff.mp hu).1
    refine wpAny_pyNext_enum_itemD DR he ⟨hit, isT⟩ lt n1 (by simp [n1, Ne.symm n3]) fun u' h' tk hu' ho st' hT hsz hk => ?_
    have eu : u' = u := by
      have hu' : its.toArray[i]? = some u' := hu'
      rw [List.getElem?_toArray, hu] at hu'
      exact (Option.some.inj hu').symm
    subst eu
    have hel : e < s.heap.objs.size := Heap.lt_size he
    have hil : it < s.heap.objs.size := by
      obtain ⟨_, q, _⟩ := hit
      exact Heap.lt_size q
    refine ⟨_, rfl, wpAny_letOwnedTupleGo_enum (s := { s with heap := h', toks := tk + 1 }) ho fun h'' he' sb => ?_⟩
    have hT2 : h''.get? s.heap.objs.size = some { cls := .type "tuple", data := .seq #[.int i tk, u'] } := (sb.2 _ (Nat.ne_of_gt hel)).trans hT
    have new : ObjOk X.prog X.w (upd H s.heap.objs.size (.tup [.int (i : Nat), x])) h'' s.heap.objs.size (.tup [.int (i : Nat), x]) :=
      ⟨by show 2 ≤ sizeLine; decide, [.int i tk, u'], .cons ⟨_, rfl⟩ (.cons ru .nil), ⟨_, hT2, rfl, _, rfl⟩⟩
    have I1 : Inv X pins σ (upd H s.heap.objs.size (.tup [.int (i : Nat), x])) { s with heap := h'', toks := tk + 1 } :=
      I.turnedNew (ch := [e, it]) (fun b ob hb q => (sb.2 b (fun z => hb (by simp [z]))).trans (hk b ob (fun z => hb (by simp [z])) (fun z => hb (by simp [z])) q)) hf (Nat.le_refl _) new
    refine ⟨.ref s.heap.objs.size, _, I1, rfl, ⟨_, x, rfl, I.hok.fresh (Nat.le_refl _), rfl, fun ys hy => by rw [I.tuple_inj hy hq]; exact hx⟩, ⟨⟨u', ?_⟩, st'.1.at fun o q => (sb.2 it (Ne.symm n1)).trans q, n1, n2, n3⟩, fun b hb => ?_⟩
    · have z : ((i + 1 : Nat) : Int) = (i : Int) + 1 := by omega
      rw [z]
      exact he'
    · have old' : b < s.heap.objs.size := by
        have two : b = e ∨ b = it := by simpa using hb
        rcases two with z | z <;> rw [z] <;> assumption
      rw [upd_ne (Nat.ne_of_lt old')]
      exact (hf b hb).1
  done := by
    intro X hP hw hK hc i pins s σ H E I hf st hg
    subst hP hw hK
    obtain ⟨⟨old, he⟩, hit, n1, n2, n3⟩ := st
    obtain ⟨xs, hq, hx⟩ := hg
    obtain ⟨its, rv, isT, hz⟩ := I.tuple hq
    have DR := Draws.tuple (prog := X.prog) (w := X.w) (A := X.A.in1) (I.ok.hd hc) it a n2 its.toArray
    obtain ⟨f0, f1, f2, f3, f4, f5⟩ := hf it (by simp)
    have ei : i = its.toArray.size := by
      rw [List.size_toArray, ← rv.length]
      exact hx.symm
    refine wpAny_pyNext_enum_endD DR he (show _ from ei ▸ ⟨hit, isT⟩) fun h' eb => ⟨rfl, I.turned (t' := s.toks) (fun b o hb q => eb b o hb q) f0 f1 f3 f4 f5⟩
  self := fun A i s Q E st h => let ⟨⟨_, he⟩, _⟩ := st; wpAny_pyIter_enum he h
def iEnumT (K : PySem.W.Frag) (ta : TA) : TI := fun σ H R => ta σ H fun vs H1 => ∃ a xs, vs = [.ref a] ∧ SqT K H1 a xs ∧ R (Iet K a) H1
theorem pi_enumT {X : Cx} {e : Expr} {ta : TA} {p pos tpos : Pos} {elts : List Expr} {kk : Nat} (hg : Gl X "enumerate") (hm : X.mg "enumerate" = none) (ha : PA X [e] ta) (hs : starEach [e] X.env = [(false, eval e X.env)] := by rfl) :
    PI X (.Tuple elts kk tpos) (.Call (.Name "enumerate" p) [e] [] pos) (iEnumT X.K ta) := by
  refine ⟨fun pins s σ H R I h => ?_⟩
  refine Call_ (ld_blt I hg hm boot_enumerate (PyProof.Rows.callWith_type1 (thn (ha.run pos pins s σ H _ I h) fun us s1 y => ?_) hs rfl))
  obtain ⟨vs, H1, I1, r1, a, xs, rfl, hq, q⟩ := y
  cases r1 with
  | cons r rr =>
    cases rr
    cases r
    obtain ⟨its, rv, isT, hz⟩ := I1.tuple hq
    have lt : a < s1.heap.objs.size := by
      obtain ⟨o, ho, _⟩ := isT
      exact Heap.lt_size ho
    refine ShE.call_enumT isT fun h' he hit hsz hk => wpAny_pyIter_enum he ?_
    have I2 : Inv X pins σ H1 { s1 with heap := h' } := I1.kept (t' := s1.toks) hk
    refine ⟨s1.heap.objs.size + 1, [s1.heap.objs.size + 1, s1.heap.objs.size], _, _, H1, rfl, I2, turn_enumT a (s1.heap.objs.size + 1) s1.heap.objs.size,
      ⟨⟨.none, he⟩, hit, Nat.succ_ne_self _, Nat.ne_of_lt lt, Nat.ne_of_lt (Nat.lt_succ_of_lt lt)⟩, fun b hb => ?_, q⟩
    have le : s1.heap.objs.size ≤ b := by
      have two : b = s1.heap.objs.size + 1 ∨ b = s1.heap.objs.size := by simpa using hb
      rcases two with z | z
      · rw [z]
        exact Nat.le_succ _
      · rw [z]
        exact Nat.le_refl _
    exact I1.fpOk le (I1.hok.fresh le)
end Sho
set_option Elab.async false
set_option linter.all false
set_option maxRecDepth 100000
set_option maxHeartbeats 2000000
/-! t[:j:-1] of a tuple; xs[i:] = ys. -/
namespace Sho
open PySem PySem.Spec PyProof.Rows L2 HT
theorem adjust_down {j n : Nat} (h : j < n) : Builtin.Slice.sliceAdjust none (some (j : Int)) (-1) (n : Int) = ((n : Int) - 1, (j : Int)) := by
  unfold Builtin.Slice.sliceAdjust
  have e1 : ¬ ((j : Int) < 0) := by omega
  have e2 : min (j : Int) ((n : Int) - 1) = j := by omega
  simp only [show ((-1 : Int) < 0) by decide, if_true, e1, if_false, e2]
theorem places_down {j n : Nat} (h : j < n) : Builtin.Slice.slicePlaces ((n : Int) - 1) (j : Int) (-1) = n - 1 - j := by
  unfold Builtin.Slice.slicePlaces
  rw [if_neg (by decide : ¬ ((-1 : Int) > 0))]
  have e : (((n : Int) - 1 - j - 1) / (- -1)) = (n : Int) - 1 - j - 1 := by rw [show (- -1 : Int) = 1 by decide, Int.ediv_one]
  rw [e]
  split <;> omega
theorem pick_down (xs : Array Value) {j : Nat} (h : j < xs.size) : ((List.range (xs.size - 1 - j)).filterMap fun (m : Nat) => xs[((xs.size : Int) - 1 + (m : Int) * (-1)).toNat]?) = (xs.toList.drop (j + 1)).reverse := by
  have e1 : ((List.range (xs.size - 1 - j)).filterMap fun (m : Nat) => xs[((xs.size : Int) - 1 + (m : Int) * (-1)).toNat]?) = ((List.range (xs.size - 1 - j)).map fun k => xs.size - 1 - j - 1 - k).filterMap fun m => xs[(j + 1) + m]? := by
    rw [List.filterMap_map]
    have key : ∀ l : List Nat, (∀ m ∈ l, m < xs.size - 1 - j) → l.filterMap (fun (m : Nat) => xs[((xs.size : Int) - 1 + (m : Int) * (-1)).toNat]?) = l.filterMap ((fun m => xs[(j + 1) + m]?) ∘ fun k => xs.size - 1 - j - 1 - k) := fun l => by
      induction l with
      | nil => exact fun _ => rfl
      | cons m l ih =>
        intro hl
        have hm := hl m List.mem_cons_self
        rw [List.filterMap_cons, List.filterMap_cons, ih fun k hk => hl k (List.mem_cons_of_mem _ hk)]
        have e : ((xs.size : Int) - 1 + (m : Int) * (-1)).toNat = (j + 1) + (xs.size - 1 - j - 1 - m) := by omega
        rw [e]
        rfl
    exact key _ fun m hm => List.mem_range.mp hm
  have e2 := pick_run xs (j + 1) (xs.size - 1 - j)
  rw [List.filterMap_map] at e2
  rw [e1, PySem.W.krv_range, List.filterMap_reverse]
  have e3 : ((fun x => xs[x]?) ∘ fun x => (j + 1) + x) = fun m => xs[(j + 1) + m]? := rfl
  rw [e3] at e2
  rw [e2, List.take_of_length_le (by rw [List.length_drop, Array.length_toList]; omega)]
section
variable {prog : Program} {w : World} {A : Around} {E : Value → Shared → Prop} {s : Shared}
theorem applied_down {sl : Addr} {vu vs : Value} {j n : Nat} {Q : Int × Int × Nat → Shared → Prop} (hs : s.heap.IsSliceOf sl .none vu vs) (pu : IsPart vu (some (j : Int))) (ps : IsPart vs (some (-1))) (hj : j < n)
    (h : Q ((n : Int) - 1, -1, n - 1 - j) s) : wpAny (model prog w) A (Builtin.Slice.sliceApplied (.ref sl) (pure (n : Int))) Q E s := by
  obtain ⟨os, hos, _, hds⟩ := id hs
  unfold Builtin.Slice.sliceApplied Builtin.Slice.sliceFields
  refine wpAny_bind (wpAny_bind (wpAny_field hos hds (x := .none) rfl (wpAny_bind (wpAny_field hos hds (x := vu) rfl (wpAny_bind (wpAny_field hos hds (x := vs) rfl (wpAny_pure ?_)))))))
  refine wpAny_bind (slicePart_ ps ?_)
  show wpAny _ _ (if ((-1 : Int) == 0) = true then _ else _) _ _ s
  rw [if_neg (show ¬ (((-1 : Int) == 0) = true) by decide)]
  refine wpAny_bind (slicePart_none (wpAny_bind (slicePart_ pu (wpAny_bind (wpAny_pure ?_)))))
  show wpAny _ _ (match Builtin.Slice.sliceAdjust none (some (j : Int)) (-1) (n : Int) with | (lo, hi) => pure (lo, (-1 : Int), Builtin.Slice.slicePlaces lo hi (-1))) _ _ s
  rw [adjust_down hj]
  show wpAny _ _ (pure ((n : Int) - 1, (-1 : Int), Builtin.Slice.slicePlaces ((n : Int) - 1) (j : Int) (-1))) _ _ s
  rw [places_down hj]
  exact wpAny_pure h
theorem getItem_tuple_down {t sl : Addr} {items : Array Value} {vu vs : Value} {j : Nat} {Q : Value → Shared → Prop} (ht : IsTup s.heap t items) (hs : s.heap.IsSliceOf sl .none vu vs) (pu : IsPart vu (some (j : Int))) (ps : IsPart vs (some (-1))) (hj : j < items.size) (hz : items.size ≤ sizeLine)
    (h : Q (.ref s.heap.objs.size) { s with heap := s.heap.push { cls := .type "tuple", data := .seq (items.toList.drop (j + 1)).reverse.toArray } }) : wpAny (model prog w) A (getItem (.ref t) (.ref sl)) Q E s := by
  have hok : sizeOk (.seq (items.toList.drop (j + 1)).reverse.toArray) := by
    show (items.toList.drop (j + 1)).reverse.toArray.size ≤ sizeLine
    rw [List.size_toArray, List.length_reverse, List.length_drop, Array.length_toList]
    omega
  obtain ⟨os, hos, hcs, _⟩ := id hs
  have hT : s.TypeIs (.ref sl) "slice" := ⟨os, hos, hcs⟩
  unfold getItem
  try with_reducible refine wpAny_holding ?_
  first | (refine wpAny_bind (wpAny_pure ?_)) | skip
  refine wpAny_bind (wpAny_sequenceKey ht.typeIs (show _ by decide) ?_)
  refine wpAny_bind (wpAny_callSpecial?_slot (name := Str.ofString "__getitem__") ht.typeIs PyProof.Rows.slot_tuple_getitem (wpAny_call_entry PyProof.Rows.slot_tuple_getitem ht.typeIs entry_tuple_getitem ?_ (args_tuple_getitem _ _)))
  show wpAny _ _ (Builtin.Tuple.tupleItemsOf (.ref t) >>= _) _ _ s
  refine wpAny_bind (tupleItemsOf_ ht (wpAny_bind (wpAny_typeOf hT ?_)))
  rw [if_pos (by decide)]
  refine wpAny_bind (applied_down hs pu ps hj ?_)
  show wpAny _ _ (if (((items.size : Int) - 1 == 0) && (-1 : Int) == 1 && (items.size - 1 - j) == items.size) = true then _ else _) _ _ s
  rw [if_neg (by rw [show ((-1 : Int) == 1) = false by decide, Bool.and_false, Bool.false_and]; exact Bool.false_ne_true)]
  have e := pick_down items hj
  rw [e]
  first
    | exact wpAny_bind (m := Builtin.Tuple.tupleExact _) (wpAny_newObj_type (wpAny_pure ⟨_, rfl, wpAny_pure h⟩) hok)
    | exact wpAny_bind (m := Builtin.Tuple.tupleExact _) (wpAny_newObj_type (wpAny_bind (wpAny_pure (wpAny_pure ⟨_, rfl, wpAny_pure h⟩))) hok)
    | exact wpAny_bind (wpAny_bind (m := Builtin.Tuple.tupleExact _) (wpAny_newObj_type (wpAny_pure (wpAny_pure ⟨_, rfl, wpAny_pure h⟩)) hok))
    | exact wpAny_bind (wpAny_bind (m := Builtin.Tuple.tupleExact _) (wpAny_newObj_type (wpAny_pure ⟨_, rfl, wpAny_pure h⟩) hok))
end
/-- te: the tuple; th: the place at which it ends; ts: the step, which must be -1 -/
def tDown (K : PySem.W.Frag) (te : TE) (th ts : TO) : TE := fun σ H Q => te σ H fun x H1 => th σ H1 fun o1 H2 => ts σ H2 fun o H3 => o = some (-1) ∧ ∃ a xs j, x = .ref a ∧ o1 = some ((j : Nat) : Int) ∧ SqT K H3 a xs ∧ j < xs.length ∧ ∀ p, H3 p = none → Q (.ref p) (upd H3 p (.tup (xs.drop (j + 1)).reverse))
theorem pe_down {X : Cx} {e hi st : Expr} {te : TE} {th ts : TO} {pp pos : Pos} (he : PE X e te) (hh : PO X (some hi) th) (hst : PO X (some st) ts) : PE X (.Subscript e (.Slice none (some hi) (some st) pp) pos) (tDown X.K te th ts) := by
  refine ⟨fun pins s σ H Q I h => Subscript_ (thn (he.run pins s σ H _ I h) fun v sa ⟨x, Ha, Ia, ra, qa⟩ => ?_)⟩
  refine wpAny_Slice (thn (po_none.run pins sa σ Ha (fun o G => o = none ∧ G = Ha) Ia ⟨rfl, rfl⟩) fun va sb ⟨oa, Hb, Ib, pa, za, zb⟩ => ?_)
  obtain rfl := za
  obtain rfl := zb
  refine thn (hh.run pins sb σ Hb _ Ib qa) fun vb sc ⟨ob, Hc, Ic, pb, qc⟩ => thn (hst.run pins sc σ Hc _ Ic qc) fun vc sd ⟨oc, Hd, Id, pc, zo, a, xs, j, zx, zj, hx, hj, q⟩ => ?_
  subst zo zx zj
  cases ra
  cases pa
  have Ie : Inv X pins σ Hd { sd with heap := sd.heap.push { cls := .type "slice", data := .fields #[.none, vb, vc] } } := Id.kept (t' := sd.toks) fun _ _ z => Heap.get?_push_of_some _ z
  obtain ⟨its, rv, pl, hz⟩ := Ie.tuple hx
  have len := rv.length
  show wpAny (model X.prog X.w) X.A (subscriptTail e (.Slice none (some hi) (some st) pp) (.ref a) (.ref sd.heap.objs.size)) (EP X pins σ Q) X.xe _
  refine tail_any (ops := [.ref a, .ref sd.heap.objs.size]) pl.typeIs (PyProof.Rows.slot_tuple_getitem.lookup) ?_ (by with_unfolding_all rfl)
  refine getItem_tuple_down pl (Heap.IsSliceOf.new _ .none vb vc) pb pc (by rw [List.size_toArray, ← len]; exact hj) (by rw [List.size_toArray, ← len]; exact hz) ?_
  refine ⟨.ref _, _, Ie.laid (t' := sd.toks) (o := .tup (xs.drop (j + 1)).reverse) (fun _ _ z => Heap.get?_push_of_some _ z) (Nat.le_refl _) ⟨by rw [List.length_reverse, List.length_drop]; omega, _, (rv.drop (j + 1)).reverse, ⟨_, Heap.get?_push_size _ rfl, rfl, _, rfl⟩⟩, rfl, q _ (Ie.hok.fresh (Nat.le_refl _))⟩
/-! ### xs[i:] = ys -/
theorem bounds_tail {a n : Nat} (h : a ≤ n) : sliceBounds (some (a : Int)) none none n = ((a : Int), (n : Int), 1) := by
  simp only [sliceBounds, Option.getD_none]
  have h1 : ¬ ((a : Int) < 0) := by omega
  simp only [h1, if_false, show (1 : Int) > 0 by decide, if_true]
  congr 1
  omega
theorem splice_tail (xs ys : List Value) (a : Nat) : xs.toArray.extract 0 a ++ ys.toArray ++ xs.toArray.extract xs.length xs.toArray.size = (xs.take a ++ ys).toArray := by
  apply Array.toList_inj.mp
  simp
section
variable {prog : Program} {w : World} {A : Around} {E : Value → Shared → Prop} {s : Shared}
theorem setItem_tail {l b sl : Addr} {items new : Array Value} {n n2 : Nat} {vl : Value} {a : Nat} {Q : Unit → Shared → Prop} (e : s.heap.get? l = some { cls := .type "list", data := .seq items n }) (e2 : s.heap.get? b = some { cls := .type "list", data := .seq new n2 }) (hne : l ≠ b)
    (hs : s.heap.IsSliceOf sl vl .none .none) (pl : IsPart vl (some (a : Int))) (ha : a ≤ items.size) (hsz : items.size + new.size ≤ sizeLine)
    (h : Q () { s with heap := s.heap.update l (Obj.mapSeq fun xs => xs.extract 0 a ++ new ++ xs.extract items.size xs.size) }) : wpAny (model prog w) A (setItem (.ref l) (.ref sl) (.ref b)) Q E s := by
  have hl : s.heap.IsList l items := PySem.IsL.isList e
  have hb : s.heap.IsList b new := PySem.IsL.isList e2
  obtain ⟨os, hos, hcs, hds⟩ := id hs
  have hT : s.TypeIs (.ref sl) "slice" := ⟨os, hos, hcs⟩
  have hsame : Builtin.List.listSameRef (.ref l) (.ref b) = false := by unfold Builtin.List.listSameRef; exact beq_eq_false_iff_ne.mpr hne
  have hmax : (max (a : Int) (items.size : Int)).toNat = items.size := by omega
  have hz' : ((fun xs : Array Value => xs.extract 0 a ++ new ++ xs.extract items.size xs.size) items).size ≤ sizeLine + 1 := by simp only [Array.size_append, Array.size_extract]; omega
  unfold setItem
  try with_reducible refine wpAny_holding ?_
  first | (refine wpAny_bind (wpAny_pure ?_)) | skip
  refine wpAny_bind (wpAny_sequenceKey hl.typeIs (show _ by decide) (wpAny_bind (wpAny_callSpecial?_slot (name := Str.ofString "__setitem__") hl.typeIs slot_list_setitem (wpAny_call_entry slot_list_setitem hl.typeIs entry_list_setitem ?_ (args_list_setitem _ _ _)))))
  show wpAny _ _ (Builtin.List.listSubscript? (.ref sl) >>= _) _ _ s
  refine wpAny_bind ?_
  unfold Builtin.List.listSubscript?
  refine wpAny_bind (wpAny_specialOf hT slice_no_index ?_)
  simp only [Option.isNone_none, if_true]
  refine wpAny_pure ?_
  show wpAny _ _ (typeOf (.ref sl) >>= _) _ _ s
  refine wpAny_bind (wpAny_typeOf hT ?_)
  first | (rw [if_neg (by decide)]) | (refine PySem.W.KFB.if_not (by decide) ?_)
  rw [listSliceParts_eq]
  refine wpAny_bind (wpAny_bind (wpAny_field hos hds (x := .none) rfl (wpAny_bind (wpAny_listPart (k := none) .none ?_))))
  rw [if_neg (show ¬ ((rawPart none == rawInt 0) = true) from Bool.false_ne_true)]
  refine wpAny_bind (wpAny_field hos hds (x := vl) rfl (wpAny_bind (wpAny_listPart pl (wpAny_bind (wpAny_field hos hds (x := .none) rfl (wpAny_bind (wpAny_listPart (k := none) .none (wpAny_pure ?_))))))))
  first | (simp only [hsame, Bool.false_eq_true, if_false]) | (refine PySem.W.KFB.if_not hsame ?_) | (dsimp only; rw [if_neg (by rw [hsame]; exact Bool.false_ne_true)])
  refine wpAny_bind (m := Builtin.List.listAllItems (.ref b) "must assign iterable to extended slice") (?_ : wpAny _ _ _ _ _ _)
  unfold Builtin.List.listAllItems
  refine wpAny_bind (wpAny_typeOf hb.typeIs (?_ : wpAny _ _ _ _ _ _))
  first | (refine PySem.W.KFB.if_so (by decide) ?_) | (rw [if_pos (by decide)]) | (simp only [beq_self_eq_true, Bool.true_or, if_true])
  unfold Builtin.List.listItems
  refine wpAny_bind (wpAny_seqItems e2 rfl (wpAny_pure (wpAny_bind (wpAny_bind (wpAny_seqItems e rfl (wpAny_pure ?_))))))
  refine wpAny_bind (wpAny_of_eq ((sliceIndices_raw (some (a : Int)) none none items.size (by simp)).trans (congrArg (pure : Int × Int × Int → Sem (Int × Int × Int)) (bounds_tail ha))) ?_)
  show wpAny _ _ (if ((1 : Int) == 1) = true then _ else _) _ _ s
  rw [if_pos (show ((1 : Int) == 1) = true by decide)]
  refine wpAny_bind (wpAny_rule ?_)
  first | (simp only [notLongL hsz, Bool.false_eq_true, if_false]) | (refine PySem.W.KFB.if_not (notLongL hsz) ?_)
  first | (refine wpAny_bind (wpAny_pure ?_)) | skip
  show wpAny _ _ (updateSeq l (fun xs => xs.extract 0 ((a : Int)).toNat ++ new ++ xs.extract (max (a : Int) (items.size : Int)).toNat xs.size) >>= _) _ _ s
  rw [hmax, Int.toNat_natCast]
  refine wpAny_bind (wpAny_updateSeq (hz := Nat.le_trans (Nat.le_add_right _ _) hsz) (_hz' := hz') e rfl (wpAny_bind (wpAny_letGo ?_)))
  first | exact wpAny_bind (wpAny_pure (wpAny_pure ⟨.none, rfl, wpAny_pure h⟩)) | exact wpAny_pure ⟨.none, rfl, wpAny_pure h⟩
end
/-- xs[i:] = v -/
def gTail (to : TE) (ti : TO) : TG := fun v σ H Q => to σ H fun x H1 => ti σ H1 fun o H2 => ∃ l b xs ys a, x = .ref l ∧ v = .ref b ∧ o = some ((a : Nat) : Int) ∧ H2 l = some (.lst xs) ∧ H2 b = some (.lst ys) ∧ l ≠ b ∧ a ≤ xs.length ∧ xs.length + ys.length ≤ sizeLine ∧
  Q σ (upd H2 l (.lst (xs.take a ++ ys)))
theorem pg_tail {X : Cx} {o i : Expr} {to : TE} {ti : TO} {p2 pos : Pos} (ho : PE X o to) (hi : PO X (some i) ti)
    (ha : ∀ v, assign (.Subscript o (.Slice (some i) none none p2) pos) X.env v = (do
      let ov ← holding [v] (eval o X.env)
      let iv ← holding [v, ov] (eval (.Slice (some i) none none p2) X.env)
      standAt pos
      holding [v, ov, iv] (setItem ov iv v)
      release [iv, v, ov] []) := by intro _; rfl) : PG X (.Subscript o (.Slice (some i) none none p2) pos) (gTail to ti) := by
  refine ⟨fun pins s σ H v u Q I r h => ?_⟩
  rw [ha]
  refine wpAny_bind (wpAny_holding (thn (ho.run pins s σ H _ I h) fun ov s1 ⟨x, H1, I1, r1, q1⟩ => wpAny_bind (wpAny_holding ?_)))
  refine wpAny_Slice (thn (hi.run pins s1 σ H1 _ I1 q1) fun va s2 ⟨oa, H2, I2, pa, l, b, xs, ys, a, ex, ev, eo, hl, hb, ne, hle, hz, q⟩ => ?_)
  subst ex ev eo
  cases r1
  cases r
  rw [evalPart_none]
  refine wpAny_pure (wpAny_pure ?_)
  have I3 : Inv X pins σ H2 { s2 with heap := s2.heap.push { cls := .type "slice", data := .fields #[va, .none, .none] } } := I2.kept (t' := s2.toks) fun _ _ z => Heap.get?_push_of_some _ z
  obtain ⟨z, its, n, rv, _, e⟩ := I3.lstM hl
  obtain ⟨z2, its2, n2, rv2, _, e2⟩ := I3.lstM hb
  have l1 := rv.length
  have l2 := rv2.length
  refine wpAny_bind (wpAny_standAt (wpAny_bind (wpAny_holding ?_)))
  refine setItem_tail (a := a) e e2 ne (Heap.IsSliceOf.new _ va .none .none) pa (by rw [List.size_toArray, ← l1]; exact hle) (by rw [List.size_toArray, List.size_toArray, ← l1, ← l2]; exact hz) ?_
  refine wpAny_release ⟨σ, _, ?_, q⟩
  refine I3.lset (its' := its.take a ++ its2) (t' := s2.toks) hl e ?_ ((rv.take a).append rv2) ?_
  · have := splice_tail its its2 a
    rw [List.size_toArray]
    exact this
  · rw [List.length_append, List.length_take]
    omega
end Sho
set_option Elab.async false
set_option linter.all false
set_option maxRecDepth 100000
set_option maxHeartbeats 8000000
set_option autoImplicit false
/-! _after_going. -/
namespace Go
open PySem L2 Sho NdefX Shg Sh1
abbrev NAG : List Str := ["piles", "seen", "after", "pile", "ways", "way", "place", "name", "facts", "rest", "kind", "fact"]
theorem cat_tups {K : PySem.W.Frag} {H : Hp} {a b : Addr} {xs ys : List V} {Q : VK} (ha : H a = some (.tup xs)) (hb : H b = some (.tup ys)) (hz : xs.length + ys.length ≤ sizeLine) (k : ∀ p H', Same H H' → H' p = some (.tup (xs ++ ys)) → Q (.ref p) H') : rCatA K (.ref a) (.ref b) H Q := by
  refine ⟨a, b, xs, ys, rfl, rfl, SqT.of ha, SqT.of hb, hz, fun e => ?_, fun _ e => ?_, fun _ _ p hp => k p _ (same_upd hp) upd_same⟩
  · subst e
    exact k b H (Same.refl H) hb
  · subst e
    exact k a H (Same.refl H) (by rw [List.append_nil]; exact ha)
theorem cut_tup {K : PySem.W.Frag} {H : Hp} {a : Addr} {xs : List V} {lo hi : Option Int} {Q : VK} (ha : H a = some (.tup xs)) (k : ∀ p H', Same H H' → H' p = some (.tup (cutV xs lo hi)) → Q (.ref p) H') : rSlA K (.ref a) lo hi H Q := by
  refine ⟨a, xs, rfl, SqT.of ha, fun e => ?_, fun _ p hp => k p _ (same_upd hp) upd_same⟩
  refine k a H (Same.refl H) ?_
  have : cutV xs lo hi = xs := by
    unfold cutV
    rw [e.1, e.2, List.drop_zero, Nat.sub_zero, List.take_length]
  rw [this]
  exact ha
theorem np_of {σ : L2.St} {H : Hp} {Q : Option Int → Hp → Prop} (h : Q none H) : tNoPart σ H Q := h
theorem cut_to (ws : List V) {k : Nat} (h : k ≤ ws.length) : cutV ws none (some (k : Int)) = ws.take k := by
  unfold cutV
  rw [HT.sIx_none, HT.sIx_nat, List.drop_zero, Nat.sub_zero, Nat.min_eq_left h]
theorem cut_from (ws : List V) {k : Nat} (h : k ≤ ws.length) : cutV ws (some (k : Int)) none = ws.drop k := by
  unfold cutV
  rw [HT.sIx_none, HT.sIx_nat, Nat.min_eq_left h, List.take_of_length_le (by rw [List.length_drop]; omega)]
theorem walk_itemsT {d : Addr} {o : Obj} {kvs : List (List L2.Key × V)} : Walk (Itit d o kvs) kvs.length (fun H => H d = some (.frz o (.dT kvs))) (fun i H x H' => ∃ (T q : Addr) (k : List L2.Key) (v : V), kvs[i]? = some (k, v) ∧ x = .ref T ∧ H T = none ∧ H q = some (.tup (k.map kV)) ∧ H' = upd H T (.tup [.ref q, v])) :=
  ⟨fun _ _ hi q => ⟨q, hi⟩, fun _ q => ⟨q, Nat.le_refl _⟩, fun _ _ _ _ _ _ y => y⟩
theorem key_strs (ns : List Str) : (keyN ns).map kV = ns.map V.str := by
  rw [List.map_map]
  rfl
section
variable {P : Program} {w : World} {K : PySem.W.Frag} {mg : Str → Option Value} {base : Heap}
theorem scAfter : FnScope NAG ["piles", "seen"] (defScope sAfterGoing) := ⟨rfl, rfl, rfl, by decide +kernel, rfl, by decide +kernel, by decide +kernel⟩
/-- seen is empty; every pile of n + 1 guests loses one -/
def spAfterG : Sp := fun vs H Q _ => ∃ (Bs : List Str) (D Sd : Addr) (n M : Nat) (kvs : List (List L2.Key × V)), vs = [.ref D, .ref Sd] ∧ H D = some (.dT kvs) ∧ H Sd = some (.dT []) ∧ D ≠ Sd ∧ Ways H (n + 1) M Bs kvs ∧ Bs.length ≤ 10 ∧ M ≤ 1000 ∧
  ∀ (D2 : Addr) (H' : Hp) (kvs2 : List (List L2.Key × V)), H D2 = none → (∀ b o, H b = some o → H' b = some o) → H' D2 = some (.dT kvs2) → Ways H' n (M + 1) Bs kvs2 → Q (.ref D2) H'
theorem ok_afterG {f : Addr} {fd : FuncData} (F : Fun K "_after_going" "_after_going" sAfterGoing f fd) (B : Shg.Blt mg) : FnOk P w K mg base CX0 1 f fd ["piles", "seen"] spAfterG := by
  refine F.ok scAfter (fun vs H Q E h => ?_) (fun cdv A outer s H vs Q E hr h => ?_)
  · obtain ⟨Bs, D, Sd, n, M, kvs, rfl, _⟩ := h
    rfl
  · obtain ⟨Bs, D, Sd, n, M, kvs, rfl, hD, hS, nDS, W, hB, hM, kk⟩ := h
    have nd := scAfter.nd
    refine ⟨_, (pss_cons (ps_set (i := 2) nd rfl (Or.inl rfl) pe_dnewT)
      (pss_cons (ps_lock (ps_for PassesOwn.never rfl (pi_itemsT (pv 0)) (pg_tup rfl (pgs_cons (pg_name (i := 3) nd rfl (Or.inl rfl)) (pgs_cons (pg_tup rfl (pgs_cons (pg_name (i := 4) nd rfl (Or.inl rfl)) (pgs_cons (pg_name (i := 5) nd rfl (Or.inl rfl)) pgs_nil))) pgs_nil))) (pss_one (ps_for PassesOwn.never rfl (pi_enumT (by rfl) B.enum (pa_cons (pv 3) pa_nil)) (pg_tup rfl (pgs_cons (pg_name (i := 6) nd rfl (Or.inl rfl)) (pgs_cons (pg_name (i := 7) nd rfl (Or.inl rfl)) pgs_nil))) (pss_cons (ps_set (i := 8) nd rfl (Or.inr rfl) (pe_disp (pps_cons (pe_str (x := "guest")) (pv 7) (pps_cons (pe_str (x := "lift")) (pe_op op_sub (pe_op op_sub (pe_callB call_len_seq (by rfl) B.len PySem.boot_len (pa_cons (pv 3) pa_nil)) (pv 6)) pe_int) pps_nil)) (by rfl) (by rfl) (fun z => by cases z) (by decide)))
      (pss_one (ps_if (pt_val (pe_callB (cr_all rfl) (by rfl) B.all (by decide +kernel) (pa_cons (pe_lock (pe_lc (own := [("kind", 10), ("fact", 11)]) (g := gTup K 2 (gCons (gName 10) (gCons (gName 11) gNil))) (tt := tYes) (te := tOp rEq (tDGet (tVar 8) (tVar 10)) (tVar 11)) rfl nd (pi_keys (pv 1)) (blkOk_by (own := [("kind", 10), ("fact", 11)]) (N := NAG) (sc := defScope sAfterGoing) (by decide +kernel))
        (fun _ _ _ _ _ => (pg_tup rfl (pgs_cons (pg_name (i := 10) nd rfl (Or.inl rfl)) (pgs_cons (pg_name (i := 11) nd rfl (Or.inl rfl)) pgs_nil)))) (fun _ _ _ _ _ => pts_nil) (fun _ _ _ _ _ => (pe_cmpR op_eq (pe_dget (hu_of hr) (pv 8) (pv 10) (fun _ _ => rfl)) (pv 11) (nomark _))))) pa_nil))) (pss_cons (ps_set (i := 9) nd rfl (Or.inl rfl) (pe_op op_catA (pe_slice sl_tupA (pv 3) po_none (po_some (pv 6))) (pe_slice sl_tupA (pv 3) (po_some (pe_op op_add (pv 6) pe_int)) po_none)))
      (pss_one (ps_dput (hu_of hr) (pv 2) (pv 9) (pe_tup (pa_cons (pe_op op_add (pe_ix ix_tup (pe_dget2 (hu_of hr) (pv 2) (pv 9) (pe_tup (pa_cons pe_int (pa_cons (pe_tup pa_nil) pa_nil))) ⟨rfl, rfl, rfl, rfl⟩) pe_int (fun _ _ => rfl)) (pv 4)) (pa_cons (pe_tup (StX.pa_star (pv 5) (pa_cons (pv 7) pa_nil))) pa_nil))) rfl))) pss_nil)))))))
      (pss_one (ps_ret (pv 2))))), ?_⟩
    refine fun D2 hD2 => name_of ?_
    have nD : D ≠ D2 := ne_of_none hD hD2
    refine ⟨D, .dT kvs, (by rw [upd_ne nD]; exact hD), trivial, fun od => ?_⟩
    have k0 : ∀ b o, b ≠ D → H b = some o → (upd (upd H D2 (.dT [])) D (.frz od (.dT kvs))) b = some o := fun b o n e => by rw [upd_ne n, upd_ne (ne_of_none e hD2)]; exact e
    refine ⟨_, rfl, D, od, kvs, rfl, upd_same, for_it walk_itemsT (fun i σ H1 => ∃ (o3 o4 o5 o6 o7 o8 o9 o10 o11 : Option V) (kvs2 : List (List L2.Key × V)), σ = [some (.ref D), some (.ref Sd), some (.ref D2), o3, o4, o5, o6, o7, o8, o9, o10, o11] ∧ H1 D = some (.frz od (.dT kvs)) ∧ (∀ b o, b ≠ D → H b = some o → H1 b = some o) ∧ H1 D2 = some (.dT kvs2) ∧ (kvs2.map (·.1)).Nodup ∧ (∀ p ∈ kvs2, Entry H1 n (M + 1) Bs p) ∧ (0 < i → kvs2 ≠ []))
      ⟨none, none, none, none, none, none, none, none, none, [], rfl, upd_same, k0, by rw [upd_ne (Ne.symm nD)]; exact upd_same, .nil, (fun p hp => nomatch hp), fun z => absurd z (by decide)⟩ (fun i σ H1 _ p => by obtain ⟨_, _, _, _, _, _, _, _, _, _, _, e, _⟩ := p; exact e) ?_ ?_⟩
    · rintro i y σ H1 H1' hi ⟨o3, o4, o5, o6, o7, o8, o9, o10, o11, kvs2, rfl, eD, keep, eD2, nd2, all2, ne2⟩ ⟨T, q, k, v, hkv, rfl, hT, hq, rfl⟩
      obtain ⟨ns, t, wv, c, ws, ekv, ln, sl, ht, hc, hwv, hws⟩ := W.all _ (List.mem_of_getElem? hkv)
      cases ekv
      rw [key_strs] at hq
      have tD : ∀ b vs, H b = some (.tup vs) → b ≠ D := fun b vs e z => by rw [z, hD] at e; cases e
      have ht1 := keep t _ (tD _ _ ht) ht
      have hwv1 := keep wv _ (tD _ _ hwv) hwv
      have sT : Same H1 (upd H1 T (.tup [.ref q, .ref t])) := same_upd hT
      have st0 : ∃ kvs3 : List (List L2.Key × V), (upd H1 T (.tup [.ref q, .ref t])) D = some (.frz od (.dT kvs)) ∧ (∀ b o, b ≠ D → H b = some o → (upd H1 T (.tup [.ref q, .ref t])) b = some o) ∧ (upd H1 T (.tup [.ref q, .ref t])) D2 = some (.dT kvs3) ∧ (kvs3.map (·.1)).Nodup ∧ (∀ p ∈ kvs3, Entry (upd H1 T (.tup [.ref q, .ref t])) n (M + 1) Bs p) := ⟨kvs2, sT _ _ eD, fun b o n e => sT _ _ (keep b o n e), sT _ _ eD2, nd2, fun p hp => (all2 p hp).keep fun b vs e => sT _ _ e⟩
      have eT : (upd H1 T (.tup [.ref q, .ref t])) T = some (.tup [.ref q, .ref t]) := upd_same
      have ht2 := sT _ _ ht1
      have hwv2 := sT _ _ hwv1
      have hq2 := sT _ _ hq
      generalize upd H1 T (.tup [.ref q, .ref t]) = H3 at *
      refine ⟨T, _, rfl, SqT.of eT, rfl, _, _, rfl, _, _, rfl, t, _, rfl, SqT.of ht2, rfl, _, _, rfl, _, _, rfl, rfl, rfl, ?_⟩
      obtain ⟨kvs3, st1, st2, st3, st4, st5⟩ := st0
      refine ⟨_, rfl, q, _, rfl, SqT.of hq2, for_it walk_enumT (fun j σ H2 => ∃ (o6 o7 o8 o9 o10 o11 : Option V) (kvs4 : List (List L2.Key × V)), σ = [some (.ref D), some (.ref Sd), some (.ref D2), some (.ref q), some (.int c), some (.ref wv), o6, o7, o8, o9, o10, o11] ∧ H2 D = some (.frz od (.dT kvs)) ∧ (∀ b o, b ≠ D → H b = some o → H2 b = some o) ∧ H2 D2 = some (.dT kvs4) ∧ (kvs4.map (·.1)).Nodup ∧ (∀ p ∈ kvs4, Entry H2 n (M + 1) Bs p) ∧ (0 < j → kvs4 ≠ []) ∧ H2 q = some (.tup (ns.map V.str)) ∧ H2 wv = some (.tup (ws.map V.str)))
        ⟨o6, o7, o8, o9, o10, o11, kvs3, rfl, st1, st2, st3, st4, st5, (fun z => absurd z (by decide)), hq2, hwv2⟩ (fun j σ H2 _ p => by obtain ⟨_, _, _, _, _, _, _, _, _, _, _, _, _, _, e, _⟩ := p; exact SqT.of e) ?_ ?_⟩
      · rintro j y σ H4' H4 hj ⟨p6, p7, p8, p9, p10, p11, kvs4, rfl, u1, u2, u3, u4, u5, u6, u7, u8⟩ ⟨T2, y1, y2, rfl, hT2, rfl, e1, e3⟩
        cases e1
        have e3 : (ns.map V.str)[j]? = some y2 := e3
        rw [List.getElem?_map] at e3
        obtain ⟨z, hz, rfl⟩ : ∃ z, ns[j]? = some z ∧ y2 = .str z := by
          cases e : ns[j]? with
          | none => rw [e] at e3; cases e3
          | some z => rw [e] at e3; cases e3; exact ⟨z, rfl, rfl⟩
        have hjn : j < ns.length := (List.getElem?_eq_some_iff.mp hz).1
        refine ⟨T2, _, rfl, SqT.of upd_same, rfl, _, _, rfl, _, _, rfl, rfl, ?_⟩
        have s5 := same_upd (o := .tup [.int (j : Nat), .str z]) hT2
        generalize upd H4' T2 (.tup [.int (j : Nat), .str z]) = H5 at *
        -- facts
        refine fun Fd hFd => ⟨_, rfl, _, rfl, q, _, rfl, .inr (SqT.of ((same_upd hFd) _ _ (s5 _ _ u7))), _, rfl, _, _, rfl, rfl, _, _, rfl, rfl, upd_same, [(.inr "guest", .str z), (.inr "lift", .int (((ns.map V.str).length : Nat) - (j : Nat) - 1))], rfl, by show 2 ≤ 15; decide, name_of ?_⟩
        have s6 : Same H5 (upd (upd H5 Fd (.dK [])) Fd (.dK (mergeK [] [(.inr "guest", .str z), (.inr "lift", .int (((ns.map V.str).length : Nat) - (j : Nat) - 1))]))) := fun b o e => by rw [upd_ne (ne_of_none e hFd), upd_ne (ne_of_none e hFd)]; exact e
        have s56 := s5.trans s6
        generalize upd (upd H5 Fd (.dK [])) Fd (.dK (mergeK [] [(.inr "guest", .str z), (.inr "lift", .int (((ns.map V.str).length : Nat) - (j : Nat) - 1))])) = H6 at *
        have hS6 : H6 Sd = some (.dT []) := s56 _ _ (u2 Sd _ (Ne.symm nDS) hS)
        -- nothing was seen
        refine ⟨Sd, .dT [], hS6, trivial, fun od2 => ⟨_, rfl, Sd, od2, rfl, .inr ⟨[], upd_same, fun Dl hDl => ?_⟩⟩⟩
        refine lc_map (walk_keysT (kvs := [])) (fun _ => none) hDl (Nat.zero_le _) (fun H s => s _ _ upd_same) (fun i x H1 H' hi => absurd hi (Nat.not_lt_zero _)) (fun i hi => absurd hi (Nat.not_lt_zero _)) fun H7 s7 e7 => ?_
        have lk : H7 Sd = some (.frz od2 (.dT [])) := s7 _ _ upd_same
        have nDlS : Dl ≠ Sd := fun z => by rw [z, upd_same] at hDl; cases hDl
        have s67 : Same H6 (upd H7 Sd (.dT [])) := fun b o e => by
          by_cases hb : b = Sd
          · rw [hb, hS6] at e
            cases e
            rw [hb]
            exact upd_same
          · rw [upd_ne hb]
            exact s7 _ _ (by rw [upd_ne hb]; exact e)
        refine ⟨lk, Dl, [], rfl, SqL.of (by rw [upd_ne nDlS]; exact e7), _, rfl, iteT ?_⟩
        have s47 := s56.trans s67
        generalize upd H7 Sd (.dT []) = H8 at *
        have q8 := s47 _ _ u7
        -- the rest
        refine ⟨_, rfl, _, rfl, _, rfl, cut_tup q8 fun p1 H9 s9 e9 => ⟨_, rfl, _, rfl, _, _, rfl, rfl, _, rfl, np_of (cut_tup (s9 _ _ q8) fun p2 HA sA eA => ?_)⟩⟩
        have lnv : (ns.map V.str).length = ns.length := List.length_map ..
        have lB : ns.length ≤ 10 := Nat.le_trans sl.length_le hB
        rw [cut_to (ns.map V.str) (by omega)] at e9
        rw [show ((j : Int) + 1) = ((j + 1 : Nat) : Int) by omega, cut_from (ns.map V.str) (by omega)] at eA
        refine cat_tups (sA _ _ e9) eA (by rw [List.length_take, List.length_drop]; exact Nat.le_trans (by omega : _ ≤ 20) (by decide)) fun p3 HB sB eB => name_of ?_
        obtain ⟨rl, rlen⟩ := less_one sl hjn
        have eB2 : HB p3 = some (.tup ((keyN (ns.take j ++ ns.drop (j + 1))).map kV)) := by rw [eB, key_strs, List.map_append, List.map_take, List.map_drop]
        generalize ns.take j ++ ns.drop (j + 1) = rs at rl rlen eB2
        have s4B := s47.trans ((s9.trans sA).trans sB)
        have few := ways_few u4 u5 hB
        -- so many ways before
        refine ⟨_, rfl, D2, rfl, .inr ⟨kvs4, .inl (s4B _ _ u3)⟩, _, rfl, Nat.zero_le _, fun e0 he0 => ⟨by show 2 ≤ sizeLine; decide, fun e1 he1 => ?_⟩⟩
        have t0 := same_upd (o := .tup []) he0
        have t1 := same_upd (o := .tup [.int 0, .ref e0]) he1
        have ee1 : (upd (upd HB e0 (.tup [])) e1 (.tup [.int 0, .ref e0])) e1 = some (.tup [.int 0, .ref e0]) := upd_same
        have s4C := s4B.trans (t0.trans t1)
        have eC := (t0.trans t1) _ _ eB2
        generalize upd (upd HB e0 (.tup [])) e1 (.tup [.int 0, .ref e0]) = HC at *
        refine ⟨_, DGet.t (s4C _ _ u3) eC, ?_⟩
        obtain ⟨tt, rest, c', ett, htt, hc0⟩ : ∃ tt rest c', (valV kvs4 (keyN rs)).getD (.ref e1) = .ref tt ∧ HC tt = some (.tup (.int c' :: rest)) ∧ 0 ≤ c' := by
          cases ev : valV kvs4 (keyN rs) with
          | none => exact ⟨e1, _, 0, rfl, ee1, Int.le_refl 0⟩
          | some v =>
            unfold valV at ev
            obtain ⟨pr, hpr, rfl⟩ := Option.map_eq_some_iff.mp ev
            obtain ⟨ns2, t2, w2, c2, ws2, rfl, _, _, g1, g2, g3⟩ := u5 pr (List.mem_of_find?_eq_some hpr)
            exact ⟨t2, _, c2, rfl, s4C _ _ g1, by omega⟩
        rw [ett]
        refine ⟨tt, _, 0, .int c', rfl, rfl, SqT.of htt, atI_nat (j := 0) rfl, _, rfl, _, _, rfl, rfl, _, rfl, wv, _, rfl, .inl (SqT.of (s4C _ _ u8)), _, rfl, ?_, fun w2 hw2 => ⟨by show 2 ≤ sizeLine; decide, fun t2 ht2 => ?_⟩⟩
        · rw [List.length_append, List.length_map]
          exact Nat.le_trans (by show ws.length + 1 ≤ 1001; omega) (by decide)
        have v1 := same_upd (o := .tup (ws.map V.str ++ [.str z])) hw2
        have v2 := same_upd (o := .tup [.int (c' + c), .ref w2]) ht2
        have ew := v2 _ _ (show (upd HC w2 (.tup (ws.map V.str ++ [.str z]))) w2 = some (.tup ((ws ++ [z]).map V.str)) by rw [upd_same, List.map_append]; rfl)
        have et : (upd (upd HC w2 (.tup (ws.map V.str ++ [.str z]))) t2 (.tup [.int (c' + c), .ref w2])) t2 = some (.tup [.int (c' + c), .ref w2]) := upd_same
        have s4E := s4C.trans (v1.trans v2)
        have eE := (v1.trans v2) _ _ eC
        generalize upd (upd HC w2 (.tup (ws.map V.str ++ [.str z]))) t2 (.tup [.int (c' + c), .ref w2]) = HE at *
        have u3E := s4E _ _ u3
        refine ⟨_, rfl, _, rfl, D2, _, rfl, DPut.t u3E eE (Nat.lt_of_le_of_lt few (by decide)), ?_⟩
        have kt : ∀ b vs, HE b = some (.tup vs) → (upd HE D2 (.dT (putK kvs4 (keyN rs) (.ref t2)))) b = some (.tup vs) := fun b vs e => by rw [upd_ne fun z => by rw [z, u3E] at e; cases e]; exact e
        refine ⟨_, _, _, _, _, _, putK kvs4 (keyN rs) (.ref t2), rfl, by rw [upd_ne nD]; exact s4E _ _ u1, fun b o nb e => by rw [upd_ne fun z => by rw [z, hD2] at e; cases e]; exact s4E _ _ (u2 b o nb e), upd_same, put_nodup _ _ u4, fun p hp => ?_, fun _ => put_ne _ _ _, kt _ _ (s4E _ _ u7), kt _ _ (s4E _ _ u8)⟩
        rcases put_mem hp with rfl | ⟨hp, _⟩
        · exact ⟨rs, t2, w2, c' + c, ws ++ [z], rfl, by omega, rl, kt _ _ et, by omega, kt _ _ ew, by rw [List.length_append]; exact Nat.succ_le_succ hws⟩
        · exact ((u5 p hp).keep fun b vs e => s4E _ _ e).keep kt
      · rintro σ H2 ⟨p6, p7, p8, p9, p10, p11, kvs4, rfl, u1, u2, u3, u4, u5, u6, u7, u8⟩
        exact ⟨_, _, _, _, _, _, _, _, _, kvs4, rfl, u1, u2, u3, u4, u5, fun _ => u6 (by rw [List.length_map, ln]; exact Nat.succ_pos _)⟩
    · rintro σ H1 ⟨o3, o4, o5, o6, o7, o8, o9, o10, o11, kvs2, rfl, eD, keep, eD2, nd2, all2, ne2⟩
      refine ⟨eD, _, rfl, ?_⟩
      have hne := ne2 (List.length_pos_iff.mpr W.some)
      refine kk D2 _ kvs2 hD2 (fun b o e => ?_) (by rw [upd_ne (Ne.symm nD)]; exact eD2) ⟨hne, nd2, fun p hp => (all2 p hp).keep fun b vs e => ?_⟩
      · by_cases z : b = D
        · rw [z, hD] at e
          cases e
          rw [z]
          exact upd_same
        · rw [upd_ne z]
          exact keep b o z e
      · rw [upd_ne fun z => by rw [z, eD] at e; cases e]
        exact e
end
end Go
set_option Elab.async false
set_option linter.all false
set_option maxRecDepth 100000
set_option maxHeartbeats 8000000
set_option autoImplicit false
/-! _ways_to_go. -/
namespace Go
open PySem L2 Sho NdefX Shg Sh1
abbrev NWG : List Str := ["comings", "goings", "records", "piles", "before", "index", "tick", "came", "seen", "name", "come", "pile", "told", "kind", "at", "fact"]
/-- in a list that rises by f, those below g: those below b, then those between -/
theorem filter_split {α : Type} (f : α → Int) {b g : Int} (hbg : b ≤ g) : ∀ {l : List α}, l.Pairwise (fun x y => f x ≤ f y) → l.filter (fun x => decide (f x < g)) = l.filter (fun x => decide (f x < b)) ++ l.filter (fun x => decide (b ≤ f x) && decide (f x < g))
  | [], _ => rfl
  | x :: l, h => by
    rw [List.pairwise_cons] at h
    have ih := filter_split f hbg h.2
    by_cases c : f x < b
    · rw [List.filter_cons_of_pos (by simp; omega), List.filter_cons_of_pos (by simp; omega), List.filter_cons_of_neg (by simp; omega), ih]
      rfl
    · have none : l.filter (fun y => decide (f y < b)) = [] := by
        rw [List.filter_eq_nil_iff]
        intro y hy
        have := h.1 y hy
        simp
        omega
      rw [none, List.nil_append] at ih
      by_cases c2 : f x < g
      · rw [List.filter_cons_of_pos (by simp; omega), List.filter_cons_of_neg (by simp; omega), List.filter_cons_of_pos (by simp; omega), none, ih]
        rfl
      · rw [List.filter_cons_of_neg (by simp; omega), List.filter_cons_of_neg (by simp; omega), List.filter_cons_of_neg (by simp; omega), none, ih]
        rfl
/-! ### the comings in their order -/
theorem insK_rel {α β : Type} {R : α → β → Prop} {p : Int × α} {q : Int × β} (h : p.1 = q.1 ∧ R p.2 q.2) : ∀ {l : List (Int × α)} {l' : List (Int × β)}, PySem.Paired (fun a b => a.1 = b.1 ∧ R a.2 b.2) l l' → PySem.Paired (fun a b => a.1 = b.1 ∧ R a.2 b.2) (insK p l) (insK q l')
  | _, _, .nil => .cons h .nil
  | _, _, .cons (a := a) (b := b) k r => by
    unfold insK
    by_cases c : p.1 ≤ a.1
    · rw [if_pos c, if_pos (by rw [← h.1, ← k.1]; exact c)]
      exact .cons h (.cons k r)
    · rw [if_neg c, if_neg (by rw [← h.1, ← k.1]; exact c)]
      exact .cons k (insK_rel h r)
theorem sortK_rel {α β : Type} {R : α → β → Prop} : ∀ {l : List (Int × α)} {l' : List (Int × β)}, PySem.Paired (fun a b => a.1 = b.1 ∧ R a.2 b.2) l l' → PySem.Paired (fun a b => a.1 = b.1 ∧ R a.2 b.2) (sortK l) (sortK l')
  | _, _, .nil => .nil
  | _, _, .cons k r => insK_rel k (sortK_rel r)
theorem zip_rel {α β : Type} {R : α → β → Prop} (f : β → Int) : ∀ {ws : List α} {cs : List β}, PySem.Paired R ws cs → PySem.Paired (fun (a : Int × α) (b : Int × β) => a.1 = b.1 ∧ R a.2 b.2) ((cs.map f).zip ws) ((cs.map f).zip cs)
  | _, _, .nil => .nil
  | _, _, .cons k r => .cons ⟨rfl, k⟩ (zip_rel f r)
theorem map_rel {α β : Type} {R : α → β → Prop} : ∀ {l : List (Int × α)} {l' : List (Int × β)}, PySem.Paired (fun a b => a.1 = b.1 ∧ R a.2 b.2) l l' → PySem.Paired R (l.map Prod.snd) (l'.map Prod.snd)
  | _, _, .nil => .nil
  | _, _, .cons k r => .cons k.2 (map_rel r)
abbrev sb (cs : List (Str × Int)) : List (Str × Int) := sortV (cs.map fun c => c.2) cs
theorem sb_rel {α : Type} {R : α → Str × Int → Prop} {ws : List α} {cs : List (Str × Int)} (h : PySem.Paired R ws cs) : PySem.Paired R (sortV (cs.map fun c => c.2) ws) (sb cs) := map_rel (sortK_rel (zip_rel (fun c => c.2) h))
theorem zip_self (cs : List (Str × Int)) : ((cs.map fun c => c.2).zip cs).map Prod.snd = cs ∧ ∀ q ∈ (cs.map fun c => c.2).zip cs, q.1 = q.2.2 := by
  induction cs with
  | nil => exact ⟨rfl, fun q hq => nomatch hq⟩
  | cons c r ih =>
    refine ⟨by rw [List.map_cons, List.zip_cons_cons, List.map_cons, ih.1], fun q hq => ?_⟩
    rw [List.map_cons, List.zip_cons_cons] at hq
    rcases List.mem_cons.mp hq with rfl | hq
    · rfl
    · exact ih.2 q hq
theorem sb_perm (cs : List (Str × Int)) : (sb cs).Perm cs := by
  have := (sortK_perm ((cs.map fun c => c.2).zip cs)).map Prod.snd
  rw [(zip_self cs).1] at this
  exact this
theorem sb_sorted (cs : List (Str × Int)) : (sb cs).Pairwise (fun a b => a.2 ≤ b.2) := by
  unfold sb sortV
  rw [List.pairwise_map]
  refine List.Pairwise.imp_of_mem (fun {a b} ha hb h => ?_) (sortK_pair ((cs.map fun c => c.2).zip cs))
  have e1 := (zip_self cs).2 a ((sortK_perm _).mem_iff.mp ha)
  have e2 := (zip_self cs).2 b ((sortK_perm _).mem_iff.mp hb)
  rw [← e1, ← e2]
  exact h
/-- the names of those who came before a tick, as they stand on the pile -/
abbrev nmB (cs : List (Str × Int)) (t : Int) : List Str := ((sb cs).filter fun c => decide (c.2 < t)).map fun c => c.1
abbrev came9 (cs : List (Str × Int)) (b g : Int) : List Str := ((sb cs).filter fun c => decide (b ≤ c.2) && decide (c.2 < g)).map fun c => c.1
theorem nmB_split (cs : List (Str × Int)) {b g : Int} (h : b ≤ g) : nmB cs g = nmB cs b ++ came9 cs b g := by
  unfold nmB came9
  rw [filter_split (fun c : Str × Int => c.2) h (sb_sorted cs), List.map_append]
theorem nmB_len (cs : List (Str × Int)) (t : Int) : (nmB cs t).length = (cs.filter fun c => decide (c.2 < t)).length := by
  unfold nmB
  rw [List.length_map]
  exact ((sb_perm cs).filter _).length_eq
theorem nmB_le (cs : List (Str × Int)) (t : Int) : (nmB cs t).length ≤ cs.length := by
  rw [nmB_len]
  exact List.length_filter_le _ _
/-- the comprehension's loop -/
theorem dcT_it {J : It} {n : Nat} {G : Hp → Prop} {Y : Nat → Hp → V → Hp → Prop} (w : Walk J n G Y) {g : TG} {tt : TT} {tk tv : TE} {vs : List Nat} {σ : L2.St} {H1 : Hp} {D : Addr} {Qd : Hp → Prop} (Pv : Nat → Hp → Prop) (h0 : Pv 0 (upd H1 D (.dT []))) (hG : ∀ i H, i ≤ n → Pv i H → G H)
    (hs : ∀ i x H H', i < n → Pv i H → Y i H x H' → g x (wipe σ vs) H' fun σ2 H2 => wipe σ2 vs = wipe σ vs ∧ tt σ2 H2 fun b H3 => if b = true then tk σ2 H3 fun y H4 => tv σ2 H4 fun z H5 => ∃ kvs k q, y = V.ref q ∧ H5 q = some (.tup (k.map kV)) ∧ H5 D = some (.dT kvs) ∧ kvs.length < sizeLine ∧ Pv (i + 1) (upd H5 D (.dT (putK kvs k z))) else Pv (i + 1) H3)
    (hd : ∀ H, Pv n H → Qd H) :
    ∃ W : Nat → Nat → Hp → Prop, (∃ m, W 0 m (upd H1 D (.dT []))) ∧ ∀ i m H, W i m H →
      (J.stop i H ∧ Qd H) ∨ (J.go i H ∧ ∃ Nx : Hp → Prop, (∀ H', Nx H' → ∃ m', m' < m ∧ W (i + 1) m' H') ∧ ∀ x H', J.yld i H x H' → g x (wipe σ vs) H' fun σ2 H2 => wipe σ2 vs = wipe σ vs ∧ tt σ2 H2 fun b H3 =>
        if b = true then tk σ2 H3 fun y H4 => tv σ2 H4 fun z H5 => ∃ kvs k q, y = V.ref q ∧ H5 q = some (.tup (k.map kV)) ∧ H5 D = some (.dT kvs) ∧ kvs.length < sizeLine ∧ Nx (upd H5 D (.dT (putK kvs k z))) else Nx H3) := by
  refine ⟨fun i m H => m = n - i ∧ i ≤ n ∧ Pv i H, ⟨n, by simp, Nat.zero_le _, h0⟩, ?_⟩
  rintro i m H ⟨rfl, hi, p⟩
  have q := hG i H hi p
  by_cases lt : i < n
  · exact .inr ⟨w.goes i H lt q, Pv (i + 1), fun H' p' => ⟨n - (i + 1), by omega, rfl, lt, p'⟩, fun x H' y => hs i x H H' lt p (w.yields i H x H' lt q y)⟩
  · obtain rfl : i = n := by omega
    exact .inl ⟨w.stops H q, hd H p⟩
section
variable {P : Program} {w : World} {K : PySem.W.Frag} {mg : Str → Option Value} {base : Heap}
theorem scWays : FnScope NWG ["comings", "goings", "records"] (defScope sWaysToGo) := ⟨rfl, rfl, rfl, by decide +kernel, rfl, by decide +kernel, by decide +kernel⟩
/-- what is asked of comings and goings -/
structure Valid9 (cs : List (Str × Int)) (gs : List Int) : Prop where
  few : cs.length ≤ 10
  late : ∀ c ∈ cs, 0 ≤ c.2
  rise : ∀ i g h, gs[i]? = some g → gs[i + 1]? = some h → g < h
  in_ : ∀ i g, gs[i]? = some g → 0 ≤ g ∧ i < (cs.filter fun c => decide (c.2 < g)).length
  all : gs.length = cs.length
def spWays (T : List (Addr × Str)) : Sp := fun vs H Q _ => ∃ (Cm Gm Rc : Addr) (ws : List V) (cs : List (Str × Int)) (gs : List Int), vs = [.ref Cm, .ref Gm, .ref Rc] ∧ H Cm = some (.tup ws) ∧ PySem.Paired (fun v (c : Str × Int) => ∃ t, v = .ref t ∧ H t = some (.tup [.str c.1, .int c.2])) ws cs ∧ H Gm = some (.tup (gs.map V.int)) ∧ H Rc = some (.lst []) ∧ Valid9 cs gs ∧ LamX.Tabs T H ∧
  ∀ (p wv : Addr) (c : Int) H', Grows T H H' → 1 ≤ c → H' p = some (.tup [.int c, .ref wv]) → Q (.ref p) H'
theorem ok_ways {f fT fA : Addr} {fd fdT fdA : FuncData} {T : List (Addr × Str)} (F : Fun K "_ways_to_go" "_ways_to_go" sWaysToGo f fd) (B : Shg.Blt mg)
    (GT : FnOk P w K mg base CX0 5 fT fdT ["stays"] (spBottom K T)) (mT : mg "bottom_up" = some (.ref fT)) (kT : PySem.W.keepIn K (.ref fT) = true) (bT : Binds K fdT ["stays"] [])
    (GA : FnOk P w K mg base CX0 1 fA fdA ["piles", "seen"] spAfterG) (mA : mg "_after_going" = some (.ref fA)) (kA : PySem.W.keepIn K (.ref fA) = true) (bA : Binds K fdA ["piles", "seen"] []) :
    FnOk P w K mg base CX0 6 f fd ["comings", "goings", "records"] (spWays T) := by
  refine F.ok scWays (fun vs H Q E h => ?_) (fun cdv A outer s H vs Q E hr h => ?_)
  · obtain ⟨Cm, Gm, Rc, ws, cs, gs, rfl, _⟩ := h
    rfl
  · obtain ⟨Cm, Gm, Rc, ws, cs, gs, rfl, hC, pC, hG, hR, va, hT, kk⟩ := h
    have nd := scWays.nd
    refine ⟨_, (pss_cons (ps_set (i := 3) nd rfl (Or.inl rfl) (pe_disp1T (Nat.lt_of_le_of_lt (Nat.le_add_right _ _) hr.units) (pe_tup pa_nil) (pe_tup (pa_cons pe_int (pa_cons (pe_tup pa_nil) pa_nil)))))
      (pss_cons (ps_set (i := 4) nd rfl (Or.inr rfl) pe_int)
      (pss_cons (ps_for PassesOwn.never rfl (pi_enumT (by rfl) B.enum (pa_cons (pv 1) pa_nil)) (pg_tup rfl (pgs_cons (pg_name (i := 5) nd rfl (Or.inr rfl)) (pgs_cons (pg_name (i := 6) nd rfl (Or.inr rfl)) pgs_nil))) (pss_cons (ps_set (i := 7) nd rfl (Or.inr rfl) (pe_callTy call_tuple_of (by rfl) B.tuple (by decide +kernel) (pa_cons (pe_lc (own := [("name", 9), ("come", 10)]) (g := gTup K 2 (gCons (gName 9) (gCons (gName 10) gNil))) (tt := tTest (tChain (rI0 fun i j => .bl (decide (i ≤ j))) (rI0 fun i j => .bl (decide (i < j))) (tVar 4) (tVar 10) (tVar 6))) (te := tVar 9) rfl nd (pi_list (pe_call GT (hr.mono (by decide)) rfl mT kT bT .nil pass0 (pa_cons (pv 0) pa_nil))) (blkOk_by (own := [("name", 9), ("come", 10)]) (N := NWG) (sc := defScope sWaysToGo) (by decide +kernel))
        (fun _ _ _ _ _ => (pg_tup rfl (pgs_cons (pg_name (i := 9) nd rfl (Or.inl rfl)) (pgs_cons (pg_name (i := 10) nd rfl (Or.inl rfl)) pgs_nil)))) (fun _ _ _ _ _ => pts_one (pt_chain op_le op_lt (pv 4) (pv 10) (pv 6))) (fun _ _ _ _ _ => (pv 9))) pa_nil)))
      (pss_cons (ps_lock (ps_setDcT (i := 3) (own := [("pile", 11), ("told", 12)]) (g := gTup K 2 (gCons (gName 11) (gCons (gName 12) gNil))) (tt := tYes) (tk := tOp (rCatA K) (tVar 11) (tVar 7)) (tv := tVar 12) (Nat.lt_of_le_of_lt (Nat.le_add_right _ _) hr.units) rfl nd rfl rfl (swD_true rfl rfl rfl (by decide +kernel)) (pi_itemsT (pv 3)) (blkOk_by (own := [("pile", 11), ("told", 12)]) (N := NWG) (sc := defScope sWaysToGo) (by decide +kernel))
        (fun _ _ _ _ _ => (pg_tup rfl (pgs_cons (pg_name (i := 11) nd rfl (Or.inl rfl)) (pgs_cons (pg_name (i := 12) nd rfl (Or.inl rfl)) pgs_nil)))) (fun _ _ _ _ _ => pts_nil) (fun _ _ _ _ _ => (pe_op op_catA (pv 11) (pv 7))) (fun _ _ _ _ _ => (pv 12))))
      (pss_cons (ps_setDcT (i := 8) (own := [("kind", 13), ("at", 14), ("fact", 15)]) (g := gTup K 3 (gCons (gName 13) (gCons (gName 14) (gCons (gName 15) gNil)))) (tt := tTest (tOp rEq (tVar 14) (tVar 5))) (tk := tTup (tCons (tVar 13) (tCons (tVar 15) tNil))) (tv := tC (.bl true)) (Nat.lt_of_le_of_lt (Nat.le_add_right _ _) hr.units) rfl nd rfl rfl (swD_true rfl rfl rfl (by decide +kernel)) (pi_list (pv 2)) (blkOk_by (own := [("kind", 13), ("at", 14), ("fact", 15)]) (N := NWG) (sc := defScope sWaysToGo) (by decide +kernel))
        (fun _ _ _ _ _ => (pg_tup rfl (pgs_cons (pg_name (i := 13) nd rfl (Or.inl rfl)) (pgs_cons (pg_name (i := 14) nd rfl (Or.inl rfl)) (pgs_cons (pg_name (i := 15) nd rfl (Or.inl rfl)) pgs_nil))))) (fun _ _ _ _ _ => pts_one (pt_cmpR op_eq (pv 14) (pv 5) (nomark _))) (fun _ _ _ _ _ => (pe_tup (pa_cons (pv 13) (pa_cons (pv 15) pa_nil)))) (fun _ _ _ _ _ => pe_bl))
      (pss_cons (ps_set (i := 3) nd rfl (Or.inl rfl) (pe_call GA (hr.mono (by decide)) rfl mA kA bA .nil pass0 (pa_cons (pv 3) (pa_cons (pv 8) pa_nil))))
      (pss_one (ps_set (i := 4) nd rfl (Or.inr rfl) (pv 6))))))))
      (pss_one (ps_ret (pe_dget2 (hu_of hr) (pv 3) (pe_tup pa_nil) (pe_tup (pa_cons pe_int (pa_cons (pe_tup pa_nil) pa_nil))) ⟨rfl, rfl, rfl, rfl⟩)))))), ?_⟩
    have lC := pair_len pC
    -- the first dict
    refine fun Dp hDp => ⟨Nat.zero_le _, fun k0 hk0 => ⟨Nat.zero_le _, fun w0 hw0 => ⟨by show 2 ≤ sizeLine; decide, fun t0 ht0 => ?_⟩⟩⟩
    have a0 := same_upd (o := .tup []) hk0
    have a1 := same_upd (o := .tup []) hw0
    have a2 := same_upd (o := .tup [.int 1, .ref w0]) ht0
    have eD := (a0.trans (a1.trans a2)) _ _ (upd_same (H := H) (a := Dp) (o := .dT []))
    have ek := (a1.trans a2) _ _ (upd_same (H := upd H Dp (.dT [])) (a := k0) (o := .tup []))
    have ew := a2 _ _ (upd_same (H := upd (upd H Dp (.dT [])) k0 (.tup [])) (a := w0) (o := .tup []))
    have et := upd_same (H := upd (upd (upd H Dp (.dT [])) k0 (.tup [])) w0 (.tup [])) (a := t0) (o := .tup [.int 1, .ref w0])
    have sH : ∀ b o, b ≠ Dp → H b = some o → (upd (upd (upd (upd H Dp (.dT [])) k0 (.tup [])) w0 (.tup [])) t0 (.tup [.int 1, .ref w0])) b = some o := fun b o n e => (a0.trans (a1.trans a2)) _ _ (by rw [upd_ne n]; exact e)
    generalize upd (upd (upd (upd H Dp (.dT [])) k0 (.tup [])) w0 (.tup [])) t0 (.tup [.int 1, .ref w0]) = Hc at *
    refine ⟨[], k0, rfl, ek, eD, name_of ?_⟩
    have s1 : Same H (upd Hc Dp (.dT [([], .ref t0)])) := fun b o e => by rw [upd_ne (ne_of_none e hDp)]; exact sH b o (ne_of_none e hDp) e
    have W1 : Ways (upd Hc Dp (.dT [([], .ref t0)])) 0 0 (nmB cs 0) [([], .ref t0)] := by
      have tp : ∀ b vs, Hc b = some (.tup vs) → (upd Hc Dp (.dT [([], .ref t0)])) b = some (.tup vs) := fun b vs e => by rw [upd_ne fun z => by rw [z, eD] at e; cases e]; exact e
      refine ⟨by simp, List.nodup_cons.mpr ⟨List.not_mem_nil, .nil⟩, fun p hp => ?_⟩
      rw [List.mem_singleton.mp hp]
      exact ⟨[], t0, w0, 1, [], rfl, rfl, List.nil_sublist _, tp _ _ et, by decide, tp _ _ ew, Nat.le_refl _⟩
    have eD1 : (upd Hc Dp (.dT [([], .ref t0)])) Dp = some (.dT [([], .ref t0)]) := upd_same
    generalize upd Hc Dp (.dT [([], .ref t0)]) = H1 at *
    have n0 : (nmB cs 0).length = 0 := by
      rw [nmB_len, List.length_eq_zero_iff, List.filter_eq_nil_iff]
      intro c hc
      have := va.late c hc
      simp
      omega
    refine name_of ?_
    refine ⟨_, rfl, Gm, _, rfl, SqT.of (s1 _ _ hG), for_it walk_enumT (fun i σ H2 => ∃ (D : Addr) (b : Int) (o5 o6 o7 o8 o9 o10 o11 o12 o13 o14 o15 : Option V) (kvs : List (List L2.Key × V)) (k : Nat), σ = [some (.ref Cm), some (.ref Gm), some (.ref Rc), some (.ref D), some (.int b), o5, o6, o7, o8, o9, o10, o11, o12, o13, o14, o15] ∧ Grows T H H2 ∧ H2 D = some (.dT kvs) ∧ Ways H2 k i (nmB cs b) kvs ∧ k + i = (nmB cs b).length ∧ (b = 0 ∧ i = 0 ∨ ∃ j, i = j + 1 ∧ gs[j]? = some b))
      ⟨Dp, 0, none, none, none, none, none, none, none, none, none, none, none, _, 0, rfl, ⟨LamX.ExtN.of s1, fun t => LamX.Tabs.ext t s1⟩, eD1, W1, by rw [n0], .inl ⟨rfl, rfl⟩⟩ (fun i σ H2 _ p => by obtain ⟨_, _, _, _, _, _, _, _, _, _, _, _, _, _, _, _, g, _⟩ := p; exact SqT.of (g.ext _ _ hG fun _ z => nomatch z)) ?_ ?_⟩
    · rintro i y σ H2' H2 hi ⟨D, b, o5, o6, o7, o8, o9, o10, o11, o12, o13, o14, o15, kvs, k, rfl, gr, eD2, W2, hk, hb⟩ ⟨T2, y1, y2, rfl, hT2, rfl, e1, e3⟩
      cases e1
      have e3 : (gs.map V.int)[i]? = some y2 := e3
      rw [List.getElem?_map] at e3
      obtain ⟨g, hg, rfl⟩ : ∃ g, gs[i]? = some g ∧ y2 = .int g := by
        cases e : gs[i]? with
        | none => rw [e] at e3; cases e3
        | some z => rw [e] at e3; cases e3; exact ⟨z, rfl, rfl⟩
      obtain ⟨g0, gin⟩ := va.in_ i g hg
      rw [← nmB_len] at gin
      have hbg : b ≤ g := by
        rcases hb with ⟨rfl, _⟩ | ⟨j, rfl, hj⟩
        · exact g0
        · exact Int.le_of_lt (va.rise j b g hj hg)
      have split := nmB_split cs hbg
      refine ⟨T2, _, rfl, SqT.of upd_same, rfl, _, _, rfl, _, _, rfl, rfl, ?_⟩
      have s3 := same_upd (o := .tup [.int (i : Nat), .int g]) hT2
      have gr3 : Grows T H (upd H2' T2 (.tup [.int (i : Nat), .int g])) := gr.trans ⟨LamX.ExtN.of s3, fun t => LamX.Tabs.ext t s3⟩
      have eD3 := s3 _ _ eD2
      have W3 : Ways (upd H2' T2 (.tup [.int (i : Nat), .int g])) k i (nmB cs b) kvs := ⟨W2.some, W2.nd, fun p hp => (W2.all p hp).keep fun b vs e => s3 _ _ e⟩
      generalize upd H2' T2 (.tup [.int (i : Nat), .int g]) = H3 at *
      have lS : (sortV (cs.map fun c => c.2) ws).length = (sb cs).length := pair_len (sb_rel pC)
      have lsb : (sb cs).length ≤ 10 := by
        rw [(sb_perm cs).length_eq]
        exact va.few
      -- those who came
      refine asg_rel (fun v H4 => Grows T H3 H4 ∧ ∃ cm, v = .ref cm ∧ H4 cm = some (.tup ((came9 cs b g).map V.str))) (fun R h => ?_) fun v H4 hv => name_at ?_
      · refine ⟨_, rfl, Cm, ws, cs.map (fun c => c.2), rfl, .inr (SqT.of (gr3.ext _ _ hC fun _ z => nomatch z)), by rw [List.length_map, lC], fun i' v' n hv hn => ?_, gr3.tab hT, fun p Hp Gr ep => ?_⟩
        · rw [List.getElem?_map] at hn
          obtain ⟨c, hc, t, rfl, ht⟩ := pair_get pC hv
          rw [hc] at hn
          cases hn
          exact ⟨t, _, rfl, gr3.ext _ _ ht (fun _ z => nomatch z), rfl⟩
        · have pS := sb_rel pC
          refine ⟨p, rfl, ⟨_, SqL.of ep⟩, fun D3 hD3 => ?_⟩
          refine lc_gather walk_list (fun i => ((sb cs)[i]?).bind fun c => if (decide (b ≤ c.2) && decide (c.2 < g)) = true then some (.str c.1) else none) hD3 (by rw [lS]; exact Nat.le_trans lsb (by decide)) (fun H s => SqL.of (s _ _ ep)) (fun j v H5 H6 hj s5 vv R2 k1 => ?_) fun H5 s5 e5 => ?_
          · obtain ⟨rfl, ev⟩ := vv
            obtain ⟨c, hc, t, rfl, ht⟩ := pair_get pS ev
            refine ⟨t, _, rfl, SqT.of (s5 _ _ ((gr3.trans Gr).ext _ _ ht fun _ z => nomatch z)), rfl, _, _, rfl, _, _, rfl, rfl, rfl, ?_⟩
            have k3 := k1 _ (Same.refl _)
            rw [hc] at k3
            have k4 : R2 (if (decide (b ≤ c.2) && decide (c.2 < g)) = true then some (V.str c.1) else none) _ := k3
            refine chainI b c.2 g (fun Q q => ⟨_, rfl, q⟩) (fun Q q => ⟨_, rfl, q⟩) (fun Q q => ⟨_, rfl, q⟩) ?_
            refine ite2 (fun q => ?_) (fun q => ?_)
            · rw [if_pos q] at k4
              exact ⟨_, rfl, k4⟩
            · rw [if_neg q] at k4
              exact k4
          · rw [lS, gather_filter (sb cs) (fun c => decide (b ≤ c.2) && decide (c.2 < g)) fun c => V.str c.1] at e5
            refine ⟨D3, _, rfl, .inl ⟨SqL.of e5, fun t ht => h _ _ ⟨Gr.trans ⟨LamX.ExtN.of (s5.trans (same_upd ht)), fun tb => LamX.Tabs.ext tb (s5.trans (same_upd ht))⟩, t, rfl, ?_⟩⟩⟩
            rw [upd_same]
            unfold came9
            rw [List.map_map]
            rfl
      obtain ⟨gr34, cm, rfl, ecm⟩ := hv
      have gr4 := gr3.trans gr34
      have tup34 : ∀ b vs, H3 b = some (.tup vs) → H4 b = some (.tup vs) := fun b vs e => gr34.ext _ _ e fun _ z => nomatch z
      have eD4 : H4 D = some (.dT kvs) := gr34.ext _ _ eD3 fun _ z => nomatch z
      have W4 : Ways H4 k i (nmB cs b) kvs := ⟨W3.some, W3.nd, fun p hp => (W3.all p hp).keep tup34⟩
      clear W3 eD3 gr34 tup34 gr3
      generalize hcm : came9 cs b g = cc at *
      have sgl : cc.length + (nmB cs b).length = (nmB cs g).length := by rw [split, List.length_append]; omega
      have lg : (nmB cs g).length ≤ 10 := Nat.le_trans (nmB_le cs g) va.few
      -- the piles with them
      refine ⟨D, .dT kvs, eD4, trivial, fun od => ⟨_, rfl, D, od, kvs, rfl, upd_same, fun D5 hD5 => ?_⟩⟩
      have nD5 : D5 ≠ D := fun z => by rw [z, upd_same] at hD5; cases hD5
      have hD54 : H4 D5 = none := by rw [upd_ne nD5] at hD5; exact hD5
      refine dcT_it walk_itemsT (fun j H6 => H6 D = some (.frz od (.dT kvs)) ∧ (∀ b o, b ≠ D → H4 b = some o → H6 b = some o) ∧ ∃ kvs6, H6 D5 = some (.dT kvs6) ∧ (kvs6.map (·.1)).Nodup ∧ (∀ p ∈ kvs6, Entry H6 (k + cc.length) i (nmB cs g) p) ∧ (0 < j → kvs6 ≠ []))
        ⟨by rw [upd_ne (Ne.symm nD5)]; exact upd_same, fun b o n e => by rw [upd_ne (ne_of_none e hD54), upd_ne n]; exact e, [], upd_same, .nil, (fun p hp => nomatch hp), fun z => absurd z (by decide)⟩ (fun j H6 _ q => q.1) (fun j y H6 H6' hj q yy => ?_) fun H6 q => ?_
      · obtain ⟨eD6, keep6, kvs6, e6, nd6, all6, ne6⟩ := q
        obtain ⟨T7, q7, kq, v, hkv, rfl, hT7, hq7, rfl⟩ := yy
        obtain ⟨ns, t, wv, c, wsn, ekv, ln, sl, ht, hc, hwv, hws⟩ := W4.all _ (List.mem_of_getElem? hkv)
        cases ekv
        rw [key_strs] at hq7
        have tD : ∀ b vs, H4 b = some (.tup vs) → H6 b = some (.tup vs) := fun b vs e => keep6 b _ (fun z => by rw [z, eD4] at e; cases e) e
        have s7 := same_upd (o := .tup [.ref q7, .ref t]) hT7
        have eT7 : (upd H6 T7 (.tup [.ref q7, .ref t])) T7 = some (.tup [.ref q7, .ref t]) := upd_same
        generalize upd H6 T7 (.tup [.ref q7, .ref t]) = H7 at *
        have lns : ns.length ≤ 10 := Nat.le_trans sl.length_le (Nat.le_trans (nmB_le cs b) va.few)
        refine ⟨T7, _, rfl, SqT.of eT7, rfl, _, _, rfl, _, _, rfl, rfl, rfl, ?_⟩
        refine ⟨_, rfl, _, rfl, cat_tups (s7 _ _ hq7) (s7 _ _ (tD _ _ ecm)) (by rw [List.length_map, List.length_map]; exact Nat.le_trans (by omega : ns.length + cc.length ≤ 20) (by decide)) fun p8 H8 s8 e8 => ⟨_, rfl, kvs6, keyN (ns ++ cc), p8, rfl, by rw [e8, key_strs, List.map_append], s8 _ _ (s7 _ _ e6), Nat.lt_of_le_of_lt (ways_few nd6 all6 lg) (by decide), ?_⟩⟩
        have s68 := s7.trans s8
        have e68 := s68 _ _ e6
        have kt : ∀ b vs, H8 b = some (.tup vs) → (upd H8 D5 (.dT (putK kvs6 (keyN (ns ++ cc)) (.ref t)))) b = some (.tup vs) := fun b vs e => by rw [upd_ne fun z => by rw [z, e68] at e; cases e]; exact e
        refine ⟨by rw [upd_ne (Ne.symm nD5)]; exact s68 _ _ eD6, fun b o n e => by rw [upd_ne fun z => by rw [z, hD54] at e; cases e]; exact s68 _ _ (keep6 b o n e), _, upd_same, put_nodup _ _ nd6, fun p hp => ?_, fun _ => put_ne _ _ _⟩
        rcases put_mem hp with rfl | ⟨hp, _⟩
        · exact ⟨ns ++ cc, t, wv, c, wsn, rfl, by rw [List.length_append, ln], by rw [split]; exact List.Sublist.append sl (List.Sublist.refl _), kt _ _ (s68 _ _ (tD _ _ ht)), hc, kt _ _ (s68 _ _ (tD _ _ hwv)), hws⟩
        · exact ((all6 p hp).keep fun b vs e => s68 _ _ e).keep kt
      · obtain ⟨eD6, keep6, kvs6, e6, nd6, all6, ne6⟩ := q
        refine name_at ⟨eD6, ?_⟩
        have s47 : Same H4 (upd H6 D (.dT kvs)) := fun b o e => by
          by_cases z : b = D
          · rw [z, eD4] at e
            cases e
            rw [z]
            exact upd_same
          · rw [upd_ne z]
            exact keep6 b o z e
        have e67 : (upd H6 D (.dT kvs)) D5 = some (.dT kvs6) := by rw [upd_ne nD5]; exact e6
        have all7 : ∀ p ∈ kvs6, Entry (upd H6 D (.dT kvs)) (k + cc.length) i (nmB cs g) p := fun p hp => (all6 p hp).keep fun b vs e => by rw [upd_ne fun z => by rw [z, eD6] at e; cases e]; exact e
        generalize upd H6 D (.dT kvs) = H7 at *
        have hR7 := s47 _ _ (gr4.ext _ _ hR fun _ z => nomatch z)
        -- nothing was seen
        refine ⟨_, rfl, Rc, rfl, ⟨_, SqL.of hR7⟩, fun D8 hD8 => ?_⟩
        refine dcT_it (walk_list (K := K) (a := Rc) (xs := [])) (fun j H => Same H7 H ∧ H D8 = some (.dT [])) ⟨same_upd hD8, upd_same⟩ (fun j H _ q => SqL.of (q.1 _ _ hR7)) (fun j x H H' hj => absurd hj (Nat.not_lt_zero _)) fun H9 q9 => name_at ?_
        obtain ⟨s9, e9⟩ := q9
        have i10 : i < cs.length := by rw [← va.all]; exact (List.getElem?_eq_some_iff.mp hg).1
        have few := va.few
        have kpos : (k + cc.length - 1) + 1 = k + cc.length := by omega
        have nD58 : D5 ≠ D8 := ne_of_none e67 hD8
        refine ⟨_, rfl, _, rfl, nmB cs g, D5, D8, k + cc.length - 1, i, kvs6, rfl, s9 _ _ e67, e9, nD58, ⟨ne6 (List.length_pos_iff.mpr W4.some), nd6, fun p hp => by rw [kpos]; exact (all7 p hp).keep fun b vs e => s9 _ _ e⟩, lg, by omega, fun D9 H10 kvs10 hn10 keep10 e10 W10 => name_of ?_⟩
        have s410 : Same H4 H10 := fun b o e => keep10 b o (s9 _ _ (s47 _ _ e))
        refine ⟨_, rfl, ?_⟩
        exact ⟨D9, g, _, _, _, _, _, _, _, _, _, _, _, kvs10, k + cc.length - 1, rfl, gr4.trans ⟨LamX.ExtN.of s410, fun tb => LamX.Tabs.ext tb s410⟩, e10, W10, by omega, .inr ⟨i, rfl, hg⟩⟩
    · rintro σ H2 ⟨D, b, o5, o6, o7, o8, o9, o10, o11, o12, o13, o14, o15, kvs, k, rfl, gr, eD2, W2, hk, hb⟩
      have k0 : k = 0 := by
        have := nmB_le cs b
        rw [List.length_map, va.all] at hk
        omega
      subst k0
      refine ⟨_, rfl, D, rfl, .inr ⟨kvs, .inl eD2⟩, Nat.zero_le _, fun k9 hk9 => ⟨Nat.zero_le _, fun z0 hz0 => ⟨by show 2 ≤ sizeLine; decide, fun z1 hz1 => ?_⟩⟩⟩
      have b0 := same_upd (o := .tup []) hk9
      have b1 := same_upd (o := .tup []) hz0
      have b2 := same_upd (o := .tup [.int 0, .ref z0]) hz1
      have ek9 := (b1.trans b2) _ _ (upd_same (H := H2) (a := k9) (o := .tup []))
      have s2 := b0.trans (b1.trans b2)
      generalize upd (upd (upd H2 k9 (.tup [])) z0 (.tup [])) z1 (.tup [.int 0, .ref z0]) = H9 at *
      refine ⟨_, DGet.t (k := []) (s2 _ _ eD2) ek9, ?_⟩
      cases kvs with
      | nil => exact absurd rfl W2.some
      | cons p rest =>
        obtain ⟨ns, t, wv, c, wsn, rfl, ln, sl, ht, hc, hwv, hws⟩ := W2.all p List.mem_cons_self
        obtain rfl : ns = [] := List.length_eq_zero_iff.mp ln
        rw [valV_pos (p := (keyN [], V.ref t)) (r := rest) (k := []) rfl]
        exact kk t wv c H9 (gr.trans ⟨LamX.ExtN.of s2, fun tb => LamX.Tabs.ext tb s2⟩) hc (s2 _ _ ht)
end
end Go
set_option Elab.async false
set_option linter.all false
set_option maxRecDepth 100000
set_option maxHeartbeats 8000000
set_option autoImplicit false
/-! What is asked of comings and goings. -/
namespace Go
open PySem L2 Sho NdefX Shg Sh1 Sh4
abbrev NCC : List Str := ["comings", "names", "index", "name", "come"]
theorem or_ans {A B : TT} {σ : L2.St} {H : Hp} {Q : Bool → Hp → Prop} (a b : Bool) (hA : ∀ R : Bool → Hp → Prop, (∀ H', Same H H' → R a H') → A σ H R)
    (hB : ∀ H1, Same H H1 → a = false → ∀ R : Bool → Hp → Prop, (∀ H', Same H1 H' → R b H') → B σ H1 R) (hQ : ∀ H', Same H H' → Q (a || b) H') : tOr A B σ H Q := hA _ fun H1 s1 => by
  cases a with
  | true => exact iteT (by have := hQ H1 s1; rw [Bool.true_or] at this; exact this)
  | false => exact iteF (hB H1 s1 rfl _ fun H2 s2 => by have := hQ H2 (s1.trans s2); rw [Bool.false_or] at this; exact this)
theorem flat_strs (xs : List Str) : (xs.map V.str).all flatV = true := by
  rw [List.all_eq_true]
  intro v hv
  obtain ⟨z, _, rfl⟩ := List.mem_map.mp hv
  rfl
theorem inV_strs (z : Str) (xs : List Str) : inV (.str z) (xs.map V.str) = decide (z ∈ xs) := by
  unfold inV
  induction xs with
  | nil => rfl
  | cons x xs ih =>
    rw [List.map_cons, List.any_cons, ih, Bool.eq_iff_iff]
    have e : eqV (.str x) (.str z) = decide (x = z) := rfl
    rw [e, Bool.or_eq_true, decide_eq_true_eq, decide_eq_true_eq, decide_eq_true_eq, List.mem_cons]
    exact ⟨fun h => h.imp Eq.symm id, fun h => h.imp Eq.symm id⟩
theorem ifs_of2 {c : TT} {A B u : TS} {D : Ends} {σ : L2.St} {H : Hp} (h : c σ H fun b H1 => if b = true then A { D with nx := u D } σ H1 else B { D with nx := u D } σ H1) : tSeq (tIfS c A B) u D σ H := h
theorem small_log {i : Nat} (h : i ≤ 1048576) : ((i : Int)).natAbs.log2 < 1920 := by
  rw [Int.natAbs_natCast]
  by_cases z : i = 0
  · rw [z]
    decide
  · exact (Nat.log2_lt z).mpr (Nat.lt_of_le_of_lt h (Nat.lt_of_lt_of_le (show 1048576 < 2 ^ 21 by decide) (Nat.pow_le_pow_right (by decide) (by decide))))
/-- the first coming that is not allowed -/
def badC : List Str → Nat → List (Str × Int) → Option Nat
  | _, _, [] => none
  | seen, i, c :: r => if decide (c.1 ∈ seen) || (!okName c.1 || !(decide (0 ≤ c.2) && decide (c.2 ≤ 999999999))) then some i else badC (seen ++ [c.1]) (i + 1) r
section
variable {P : Program} {w : World} {K : PySem.W.Frag} {mg : Str → Option Value} {base : Heap}
theorem scCC : FnScope NCC ["comings"] (defScope sCheckComings) := ⟨rfl, rfl, rfl, by decide +kernel, rfl, by decide +kernel, by decide +kernel⟩
def PairsAt (H : Hp) (ws : List V) (cs : List (Str × Int)) : Prop := PySem.Paired (fun v (c : Str × Int) => ∃ t, v = .ref t ∧ H t = some (.tup [.str c.1, .int c.2])) ws cs
def spCC (CT CI : Addr) : Sp := fun vs H Q E => ∃ (Cm : Addr) (ws : List V) (cs : List (Str × Int)), vs = [.ref Cm] ∧ H Cm = some (.tup ws) ∧ PairsAt H ws cs ∧ cs.length ≤ 1000 ∧ (∀ c ∈ cs, c.1.length ≤ 1000) ∧
  (10 < cs.length → ∀ H', Same H H' → E (.ref CT) none H') ∧ (cs.length ≤ 10 → (badC [] 0 cs = none → ∀ H', Same H H' → Q .non H') ∧ ∀ i, badC [] 0 cs = some i → ∀ (H' : Hp) (d : Addr), Same H H' → H' d = some (.xd [(("index" : Str), .int (i : Nat))]) → E (.ref CI) (some d) H')
theorem ok_checkC {f CT CI fN fW : Addr} {fd fdN fdW : FuncData} {t10 t9 : Tok} (F : Fun K "_check_comings" "_check_comings" sCheckComings f fd) (B : Shg.Blt mg) (ET : ErrO K mg "TooManyGuests" CT) (EI : ErrC P K mg "InvalidStay" "index" nfInv CI) (g10 : mg "MOST_GUESTS" = some (.int 10 t10)) (g9 : mg "LAST_TICK" = some (.int 1000000000 t9))
    (GN : FnOk P w K mg base CX0 1 fN fdN ["word"] spIsName) (mN : mg "is_name" = some (.ref fN)) (kN : PySem.W.keepIn K (.ref fN) = true) (bN : Binds K fdN ["word"] [])
    (GW : FnOk P w K mg base CX0 1 fW fdW ["number", "low", "high"] spIsWithin) (mW : mg "is_within" = some (.ref fW)) (kW : PySem.W.keepIn K (.ref fW) = true) (bW : Binds K fdW ["number", "low", "high"] []) :
    FnOk P w K mg base (L2.CX P w) 3 f fd ["comings"] (spCC CT CI) := by
  refine F.okX scCC (fun vs H Q E h => ?_) (fun cdv A outer s H vs Q E hr h => ?_)
  · obtain ⟨Cm, ws, cs, rfl, _⟩ := h
    rfl
  · obtain ⟨Cm, ws, cs, rfl, hC, pC, l1000, short, kT, kOk⟩ := h
    have nd := scCC.nd
    have lC := pair_len pC
    have pass : Passes (L2.CX P w) (cxOf (L2.CX P w) P w K mg base NCC "_check_comings" (defScope sCheckComings) f cdv A outer s H E) E := passes_call (takes_of rfl rfl rfl rfl) fun _ _ _ _ z => z
    refine ⟨_, (pss_cons (ps_if (pt_cmpR op_gt (pe_callB call_len_seq (by rfl) B.len PySem.boot_len (pa_cons (pv 0) pa_nil)) (pe_glob (v := .int 10) (by rfl) g10 ⟨_, rfl⟩) (nomark _)) (pss_one (ps_raise rfl (takes_of rfl rfl rfl rfl) (SkE.pmk_own1 PySem.F.excBase_ValueError ET.ex ET.gm ET.kp (raises_own ET.be ET.ty) (by rfl) (pe_joined (.cons pe_str (.cons (pe_fmt (pe_glob (v := .int 10) (by rfl) g10 ⟨_, rfl⟩)) (.cons pe_str .nil))))))) pss_nil)
      (pss_cons (ps_set (i := 1) nd rfl (Or.inl rfl) (pe_lst pa_nil))
      (pss_one (ps_for (passes_of rfl) rfl (pi_enumT (by rfl) B.enum (pa_cons (pv 0) pa_nil)) (pg_tup rfl (pgs_cons (pg_name (i := 2) nd rfl (Or.inl rfl)) (pgs_cons (pg_tup rfl (pgs_cons (pg_name (i := 3) nd rfl (Or.inl rfl)) (pgs_cons (pg_name (i := 4) nd rfl (Or.inl rfl)) pgs_nil))) pgs_nil))) (pss_cons (ps_if (PW.pt (pw_or (pt_cmpR op_in_seq (pv 3) (pv 1) rfl) (pw_or (pt_not (pt_val (pe_call GN (hr.mono (by decide)) rfl mN kN bN .nil pass0 (pa_cons (pv 3) pa_nil)))) (pw_or1 (pt_not (pt_val (pe_call GW (hr.mono (by decide)) rfl mW kW bW .nil pass0 (pa_cons (pv 4) (pa_cons pe_int (pa_cons (pe_op op_sub (pe_glob (v := .int 1000000000) (by rfl) g9 ⟨_, rfl⟩) pe_int) pa_nil)))))))))) (pss_one (ps_raise rfl (takes_of rfl rfl rfl rfl) (pmk_inv (k := 0) EI (hr.mono (by decide)) passL (by rfl) (pk_cons (pv 2) pk_nil) rfl rfl rfl))) pss_nil)
      (pss_one (ps_expr (pe_bm PySem.F.plainAttrs_list PySem.F.slot_list_append PySem.F.type_list_append mt_append (pv 1) (pa_cons (pv 3) pa_nil))))))))), ?_⟩
    refine ⟨_, rfl, Cm, ws, rfl, .inr (SqT.of hC), _, _, rfl, rfl, _, rfl, ite2 (fun c => ?_) (fun c => nx_of ?_)⟩
    · have big : 10 < cs.length := by
        have := of_decide_eq_true c
        rw [lC] at this
        omega
      refine ⟨_, rfl, ?_, .inr ⟨10, rfl, ?_, _, rfl, ?_, _, rfl, ?_, kT big H (Same.refl H)⟩⟩ <;> decide +kernel
    have c10 : cs.length ≤ 10 := by
      have := of_decide_eq_false (Bool.eq_false_iff.mpr c)
      rw [lC] at this
      omega
    obtain ⟨kGood, kBad⟩ := kOk c10
    refine ⟨Nat.zero_le _, fun Nl hNl => name_of ?_⟩
    have s0 := same_upd (o := .lst []) hNl
    refine ⟨_, rfl, Cm, ws, rfl, SqT.of (s0 _ _ hC), for_it walk_enumT (fun i σ H2 => ∃ (o2 o3 o4 : Option V) (seen : List Str), σ = [some (.ref Cm), some (.ref Nl), o2, o3, o4] ∧ Same H H2 ∧ H2 Nl = some (.lst (seen.map V.str)) ∧ seen.length = i ∧ badC [] 0 cs = badC seen i (cs.drop i))
      ⟨none, none, none, [], rfl, s0, upd_same, rfl, rfl⟩ (fun i σ H2 _ p => by obtain ⟨_, _, _, _, _, s, _⟩ := p; exact SqT.of (s _ _ hC)) ?_ ?_⟩
    · rintro i y σ H2' H2 hi ⟨o2, o3, o4, seen, rfl, s2, eN, ls, eb⟩ ⟨T2, y1, y2, rfl, hT2, rfl, e1, e3⟩
      cases e1
      obtain ⟨cc, hcc, t, rfl, ht⟩ := pair_get pC e3
      have s3 := s2.trans (same_upd (o := .tup [.int (i : Nat), .ref t]) hT2)
      have eT : (upd H2' T2 (.tup [.int (i : Nat), .ref t])) T2 = some (.tup [.int (i : Nat), .ref t]) := upd_same
      have eN3 := (same_upd (o := .tup [.int (i : Nat), .ref t]) hT2) _ _ eN
      generalize upd H2' T2 (.tup [.int (i : Nat), .ref t]) = H3 at *
      refine ⟨T2, _, rfl, SqT.of eT, rfl, _, _, rfl, _, _, rfl, t, _, rfl, SqT.of (s3 _ _ ht), rfl, _, _, rfl, _, _, rfl, rfl, rfl, ?_⟩
      have hdrop : cs.drop i = cc :: cs.drop (i + 1) := by
        obtain ⟨lt, e⟩ := List.getElem?_eq_some_iff.mp hcc
        rw [List.drop_eq_getElem_cons lt, e]
      rw [hdrop] at eb
      have shc := short cc (List.mem_of_getElem? hcc)
      have eb2 : badC [] 0 cs = if (decide (cc.1 ∈ seen) || (!okName cc.1 || !(decide (0 ≤ cc.2) && decide (cc.2 ≤ 999999999)))) = true then some i else badC (seen ++ [cc.1]) (i + 1) (cs.drop (i + 1)) := eb
      refine ifs_of2 (or_ans (decide (cc.1 ∈ seen)) (!okName cc.1 || !(decide (0 ≤ cc.2) && decide (cc.2 ≤ 999999999))) (fun R h => ⟨_, rfl, _, rfl, Nl, _, rfl, .inl (SqL.of eN3), rfl, flat_strs _, _, rfl, ?_⟩) (fun H4 s4 _ R h => ?_) fun H4 s4 => ?_)
      · rw [if_neg (by decide), inV_strs]
        exact h _ (Same.refl _)
      · refine or_ans (!okName cc.1) (!(decide (0 ≤ cc.2) && decide (cc.2 ≤ 999999999))) (fun R h => ⟨_, rfl, cc.1, rfl, Nat.le_trans shc (by decide), fun H5 s5 => ⟨_, rfl, h _ s5⟩⟩) (fun H5 s5 _ R h => ⟨_, rfl, _, _, rfl, rfl, cc.2, 0, 999999999, rfl, _, rfl, h _ (Same.refl _)⟩) h
      · have s34 := s3.trans s4
        refine ite2 (fun q => ?_) (fun q => nx_of ?_)
        · rw [if_pos q] at eb2
          refine ⟨_, rfl, _, rfl, .inr ⟨_, rfl, small_log (Nat.le_trans (Nat.le_of_lt hi) (by rw [lC]; exact Nat.le_trans c10 (by decide)))⟩, fun d hd => ?_⟩
          exact kBad i eb2 _ d (s34.trans (same_upd hd)) upd_same
        · rw [if_neg q] at eb2
          have eN4 := s4 _ _ eN3
          refine ⟨_, rfl, .inl ⟨rfl, _, SqL.of eN4⟩, _, rfl, Nl, _, _, rfl, rfl, eN4, by rw [List.length_map, ls]; exact Nat.lt_of_lt_of_le hi (by rw [lC]; exact Nat.le_trans c10 (by decide)), ?_⟩
          have hN0 : H Nl = none := hNl
          exact ⟨_, _, _, seen ++ [cc.1], rfl, fun b o e => by rw [upd_ne (ne_of_none e hN0)]; exact s34 _ _ e, by rw [upd_same, List.map_append]; rfl, by rw [List.length_append, ls]; rfl, eb2⟩
    · rintro σ H2 ⟨o2, o3, o4, seen, rfl, s2, eN, ls, eb⟩
      rw [lC, List.drop_length] at eb
      exact kGood eb _ s2
end
end Go
set_option Elab.async false
set_option linter.all false
set_option maxRecDepth 100000
set_option maxHeartbeats 8000000
set_option autoImplicit false
/-! _check_goings. -/
namespace Go
open PySem L2 Sho NdefX Shg Sh1 Sh4
abbrev nfGo (cc cda : Addr) : NF := ⟨"__init__", "InvalidGoings.__init__", defArgs sGoingsInit, defBody sGoingsInit, defScope sGoingsInit, [("__class__", cc)], cda⟩
section
variable {X : Cx} {CX : CXT} {C : Addr} {k : Nat} {kws : List Keyword} {te : L2.TA} {p pos : Pos}
theorem pmk_go (EC : ErrC X.prog X.K X.mg "InvalidGoings" "index" nfGo C) (hr : Room (k + 2) X.A) (hx : Passes CX X (fun _ _ _ => False)) (hg : Gl X "InvalidGoings") (hkw : PK X kws te) (hall : (backToKw pos (keywordEach kws X.env)).all (·.1.isSome) = true)
    (hks : (backToKw pos (keywordEach kws X.env)).filterMap (·.1) = [("index" : Str)]) (hpl : ((backTo pos (starEach [] X.env)).any (·.1) || (backToKw pos (keywordEach kws X.env)).any (·.1.isNone)) = false) : PMk X (.Call (.Name "InvalidGoings" p) [] kws pos) (tMkW C "index" te) := by
  have S : NScope ["self", "index", "__class__"] ["self", "index"] ["__class__"] (defScope sGoingsInit) := nscope_by (by decide +kernel)
  obtain ⟨f, cc, cda, T, iC, tI⟩ := EC.txt
  refine pmk_kw (F := nfGo cc cda) (fld := "index") (k := k) T EC.cls EC.xf EC.no iC tI S hr hx hg EC.gm hkw hall hks hpl rfl (fun s doc pm an ct xa u => .of_eq rfl) (fun A outer s H E xa v hv => ?_) (fun L => rfl) (fun L => rfl) (fun L => rfl)
  have e0 : (Str.empty ++ Str.ofString "going ").length ≤ 10 := by decide +kernel
  have e2 : (Str.ofString " is not allowed").length ≤ 20 := by decide +kernel
  refine ⟨_, pa_cons (pe_joined (.cons pe_str (.cons (pe_fmt (pv 1)) (.cons pe_str .nil)))) pa_nil, fun R hR => ⟨_, rfl, Nat.le_trans e0 (by decide), v, rfl, ?_⟩⟩
  rcases tells_len hv with ⟨y, rfl, hy⟩ | ⟨i, rfl, hi, hl⟩
  · have l1 := Sh1.small_cat e0 hy
    exact .inl ⟨y, rfl, Nat.le_trans hy (by decide), y, rfl, Nat.le_trans l1 (by decide), _, rfl, Nat.le_trans (Sh1.small_cat l1 e2) (by decide), hR _⟩
  · have l1 := Sh1.small_cat e0 hl
    exact .inr ⟨i, rfl, hi, _, rfl, Nat.le_trans l1 (by decide), _, rfl, Nat.le_trans (Sh1.small_cat l1 e2) (by decide), hR _⟩
end
abbrev NCG : List Str := ["comings", "goings", "earliest", "index", "tick", "arrived", "name", "come"]
/-- the first going that is not allowed -/
def badG (cs : List (Str × Int)) : Int → Nat → List Int → Option Nat
  | _, i, [] => if i < cs.length then some i else none
  | e, i, g :: r => if !(decide (e ≤ g) && decide (g ≤ 1000000000)) || decide ((cs.filter fun c => decide (c.2 < g)).length ≤ i) then some i else badG cs (g + 1) (i + 1) r
section
variable {P : Program} {w : World} {K : PySem.W.Frag} {mg : Str → Option Value} {base : Heap}
theorem scCG : FnScope NCG ["comings", "goings"] (defScope sCheckGoings) := ⟨rfl, rfl, rfl, by decide +kernel, rfl, by decide +kernel, by decide +kernel⟩
def spCG (CG : Addr) : Sp := fun vs H Q E => ∃ (Cm Gm : Addr) (ws : List V) (cs : List (Str × Int)) (gs : List Int), vs = [.ref Cm, .ref Gm] ∧ H Cm = some (.tup ws) ∧ PairsAt H ws cs ∧ H Gm = some (.tup (gs.map V.int)) ∧ cs.length ≤ 1000 ∧ gs.length ≤ 1000 ∧
  (badG cs 0 0 gs = none → ∀ H', Same H H' → Q .non H') ∧ ∀ i, badG cs 0 0 gs = some i → ∀ (H' : Hp) (d : Addr), Same H H' → H' d = some (.xd [(("index" : Str), .int (i : Nat))]) → E (.ref CG) (some d) H'
theorem ok_checkG {f CG fW : Addr} {fd fdW : FuncData} {t9 : Tok} (F : Fun K "_check_goings" "_check_goings" sCheckGoings f fd) (B : Shg.Blt mg) (EG : ErrC P K mg "InvalidGoings" "index" nfGo CG) (g9 : mg "LAST_TICK" = some (.int 1000000000 t9))
    (GW : FnOk P w K mg base CX0 1 fW fdW ["number", "low", "high"] spIsWithin) (mW : mg "is_within" = some (.ref fW)) (kW : PySem.W.keepIn K (.ref fW) = true) (bW : Binds K fdW ["number", "low", "high"] []) :
    FnOk P w K mg base (L2.CX P w) 3 f fd ["comings", "goings"] (spCG CG) := by
  refine F.okX scCG (fun vs H Q E h => ?_) (fun cdv A outer s H vs Q E hr h => ?_)
  · obtain ⟨Cm, Gm, ws, cs, gs, rfl, _⟩ := h
    rfl
  · obtain ⟨Cm, Gm, ws, cs, gs, rfl, hC, pC, hG, lc, lg, kGood, kBad⟩ := h
    have nd := scCG.nd
    have lC := pair_len pC
    refine ⟨_, (pss_cons (ps_set (i := 2) nd rfl (Or.inl rfl) pe_int)
      (pss_cons (ps_for (passes_of rfl) rfl (pi_enumT (by rfl) B.enum (pa_cons (pv 1) pa_nil)) (pg_tup rfl (pgs_cons (pg_name (i := 3) nd rfl (Or.inl rfl)) (pgs_cons (pg_name (i := 4) nd rfl (Or.inr rfl)) pgs_nil))) (pss_cons (ps_setLc (i := 5) (own := [("name", 6), ("come", 7)]) (g := gTup K 2 (gCons (gName 6) (gCons (gName 7) gNil))) (tt := tTest (tOp (rI0 fun i j => .bl (decide (i < j))) (tVar 7) (tVar 4))) (te := tVar 6) rfl nd rfl rfl (sw_true rfl rfl rfl (by decide +kernel)) (pi_tup (pv 0)) (blkOk_by (own := [("name", 6), ("come", 7)]) (N := NCG) (sc := defScope sCheckGoings) (by decide +kernel))
        (fun _ _ _ _ _ => (pg_tup rfl (pgs_cons (pg_name (i := 6) nd rfl (Or.inl rfl)) (pgs_cons (pg_name (i := 7) nd rfl (Or.inl rfl)) pgs_nil)))) (fun _ _ _ _ _ => pts_one (pt_cmpR op_lt (pv 7) (pv 4) (nomark _))) (fun _ _ _ _ _ => (pv 6)))
      (pss_cons (ps_if (PW.pt (pw_or (pt_not (pt_val (pe_call GW (hr.mono (by decide)) rfl mW kW bW .nil pass0 (pa_cons (pv 4) (pa_cons (pv 2) (pa_cons (pe_glob (v := .int 1000000000) (by rfl) g9 ⟨_, rfl⟩) pa_nil)))))) (pw_or1 (pt_cmpR op_le (pe_callB call_len_seq (by rfl) B.len PySem.boot_len (pa_cons (pv 5) pa_nil)) (pv 3) (nomark _))))) (pss_one (ps_raise rfl (takes_of rfl rfl rfl rfl) (pmk_go (k := 0) EG (hr.mono (by decide)) passL (by rfl) (pk_cons (pv 3) pk_nil) rfl rfl rfl))) pss_nil)
      (pss_one (ps_set (i := 2) nd rfl (Or.inl rfl) (pe_op op_add (pv 4) pe_int))))))
      (pss_one (ps_if (pt_cmpR op_lt (pe_callB call_len_seq (by rfl) B.len PySem.boot_len (pa_cons (pv 1) pa_nil)) (pe_callB call_len_seq (by rfl) B.len PySem.boot_len (pa_cons (pv 0) pa_nil)) (nomark _)) (pss_one (ps_raise rfl (takes_of rfl rfl rfl rfl) (pmk_go (k := 0) EG (hr.mono (by decide)) passL (by rfl) (pk_cons (pe_callB call_len_seq (by rfl) B.len PySem.boot_len (pa_cons (pv 1) pa_nil)) pk_nil) rfl rfl rfl))) pss_nil)))), ?_⟩
    refine name_of ?_
    refine ⟨_, rfl, Gm, _, rfl, SqT.of hG, for_it walk_enumT (fun i σ H2 => ∃ (o3 o4 o5 o6 o7 : Option V) (e : Int), σ = [some (.ref Cm), some (.ref Gm), some (.int e), o3, o4, o5, o6, o7] ∧ Same H H2 ∧ badG cs 0 0 gs = badG cs e i (gs.drop i))
      ⟨none, none, none, none, none, 0, rfl, Same.refl H, rfl⟩ (fun i σ H2 _ p => by obtain ⟨_, _, _, _, _, _, _, s, _⟩ := p; exact SqT.of (s _ _ hG)) ?_ ?_⟩
    · rintro i y σ H2' H2 hi ⟨o3, o4, o5, o6, o7, e, rfl, s2, eb⟩ ⟨T2, y1, y2, rfl, hT2, rfl, e1, e3⟩
      cases e1
      have e3 : (gs.map V.int)[i]? = some y2 := e3
      rw [List.getElem?_map] at e3
      obtain ⟨g, hg, rfl⟩ : ∃ g, gs[i]? = some g ∧ y2 = .int g := by
        cases e : gs[i]? with
        | none => rw [e] at e3; cases e3
        | some z => rw [e] at e3; cases e3; exact ⟨z, rfl, rfl⟩
      have s3 := s2.trans (same_upd (o := .tup [.int (i : Nat), .int g]) hT2)
      refine ⟨T2, _, rfl, SqT.of upd_same, rfl, _, _, rfl, _, _, rfl, rfl, ?_⟩
      generalize upd H2' T2 (.tup [.int (i : Nat), .int g]) = H3 at *
      have hdrop : gs.drop i = g :: gs.drop (i + 1) := by
        obtain ⟨lt, e⟩ := List.getElem?_eq_some_iff.mp hg
        rw [List.drop_eq_getElem_cons lt, e]
      rw [hdrop] at eb
      have il : i < 1000 := Nat.lt_of_lt_of_le (List.getElem?_eq_some_iff.mp hg).1 lg
      refine ⟨_, rfl, Cm, rfl, ⟨_, SqT.of (s3 _ _ hC)⟩, fun D hD => ?_⟩
      refine lc_gather (walk_tup (xs := ws)) (fun i => (cs[i]?).bind fun c => if decide (c.2 < g) = true then some (.str c.1) else none) hD (by rw [lC]; exact Nat.le_trans lc (by decide)) (fun H s => SqT.of (s _ _ (s3 _ _ hC))) (fun j v H5 H6 hj s5 vv R2 k1 => ?_) fun H5 s5 e5 => name_of ?_
      · obtain ⟨rfl, ev⟩ := vv
        obtain ⟨c, hc, t, rfl, ht⟩ := pair_get pC ev
        refine ⟨t, _, rfl, SqT.of (s5 _ _ (s3 _ _ ht)), rfl, _, _, rfl, _, _, rfl, rfl, rfl, ?_⟩
        have k3 := k1 _ (Same.refl _)
        rw [hc] at k3
        have k4 : R2 (if decide (c.2 < g) = true then some (V.str c.1) else none) _ := k3
        refine ⟨_, rfl, _, rfl, _, _, rfl, rfl, _, rfl, ?_⟩
        refine ite2 (fun q => ?_) (fun q => ?_)
        · rw [if_pos q] at k4
          exact ⟨_, rfl, k4⟩
        · rw [if_neg q] at k4
          exact k4
      rw [lC, gather_filter cs (fun c => decide (c.2 < g)) fun c => V.str c.1] at e5
      have s35 := s3.trans s5
      have eb2 : badG cs 0 0 gs = if (!(decide (e ≤ g) && decide (g ≤ 1000000000)) || decide ((cs.filter fun c => decide (c.2 < g)).length ≤ i)) = true then some i else badG cs (g + 1) (i + 1) (gs.drop (i + 1)) := eb
      refine ifs_of2 (or_ans (!(decide (e ≤ g) && decide (g ≤ 1000000000))) (decide ((cs.filter fun c => decide (c.2 < g)).length ≤ i)) (fun R h => ⟨_, rfl, _, rfl, g, e, 1000000000, rfl, _, rfl, h _ (Same.refl _)⟩) (fun H6 s6 _ R h => ⟨_, rfl, D, _, rfl, .inl (SqL.of (s6 _ _ e5)), _, rfl, _, _, rfl, rfl, _, rfl, ?_⟩) fun H6 s6 => ?_)
      · have := h _ (Same.refl _)
        rwa [show decide ((cs.filter fun c => decide (c.2 < g)).length ≤ i) = decide (((((cs.filter fun c => decide (c.2 < g)).map fun c => V.str c.1).length : Nat) : Int) ≤ ((i : Nat) : Int)) by rw [List.length_map]; exact decide_eq_decide.mpr (by omega)] at this
      · refine ite2 (fun q => ?_) (fun q => nx_of ?_)
        · rw [if_pos q] at eb2
          refine ⟨_, rfl, _, rfl, .inr ⟨_, rfl, small_log (by omega)⟩, fun d hd => ?_⟩
          exact kBad i eb2 _ d ((s35.trans s6).trans (same_upd hd)) upd_same
        · rw [if_neg q] at eb2
          exact ⟨_, rfl, _, _, rfl, rfl, _, _, _, _, _, g + 1, rfl, s35.trans s6, eb2⟩
    · rintro σ H2 ⟨o3, o4, o5, o6, o7, e, rfl, s2, eb⟩
      rw [List.length_map, List.drop_length] at eb
      have eb2 : badG cs 0 0 gs = if gs.length < cs.length then some gs.length else none := eb
      refine ⟨_, rfl, Gm, _, rfl, .inr (SqT.of (s2 _ _ hG)), _, rfl, Cm, _, rfl, .inr (SqT.of (s2 _ _ hC)), _, _, rfl, rfl, _, rfl, ite2 (fun q => ?_) (fun q => ?_)⟩
      · have ql : gs.length < cs.length := by
          have := of_decide_eq_true q
          rw [List.length_map, lC] at this
          omega
        rw [if_pos ql] at eb2
        refine ⟨_, rfl, Gm, _, rfl, .inr (SqT.of (s2 _ _ hG)), _, rfl, .inr ⟨_, rfl, by rw [List.length_map]; exact small_log (by omega)⟩, fun d hd => ?_⟩
        exact kBad _ eb2 _ d (s2.trans (same_upd hd)) (by rw [upd_same, List.length_map])
      · have ql : ¬ gs.length < cs.length := fun z => q (decide_eq_true (by rw [List.length_map, lC]; omega))
        rw [if_neg ql] at eb2
        exact kGood eb2 _ s2
end
end Go
set_option Elab.async false
set_option linter.all false
set_option maxRecDepth 100000
set_option maxHeartbeats 8000000
set_option autoImplicit false
/-! GoingObserver: __init__, way_count. -/
namespace Go
open PySem L2 Sho NdefX Shg Sh1 Sh4
/-- what the written part says of GoingObserver -/
structure ObsC (K : PySem.W.Frag) (mg : Str → Option Value) (C fI : Addr) : Prop where
  gm : mg "GoingObserver" = some (.ref C)
  cl : Cls K C
  n1 : NoAttr K C "_comings"
  n2 : NoAttr K C "_goings"
  n3 : NoAttr K C "_accepted"
  mkr : Mk K C fI
abbrev obF (Cm Gm La : Addr) : List (Str × V) := [("_comings", .ref Cm), ("_goings", .ref Gm), ("_accepted", .ref La)]
theorem lk_c (a b c : V) : List.lookup ("_comings" : Str) [(("_comings" : Str), a), ("_goings", b), ("_accepted", c)] = some a := by simp [List.lookup]
theorem lk_g (a b c : V) : List.lookup ("_goings" : Str) [(("_comings" : Str), a), ("_goings", b), ("_accepted", c)] = some b := by
  have h : (("_goings" : Str) == ("_comings" : Str)) = false := by decide +kernel
  simp [List.lookup, h]
theorem lk_a (a b c : V) : List.lookup ("_accepted" : Str) [(("_comings" : Str), a), ("_goings", b), ("_accepted", c)] = some c := by
  have h : (("_accepted" : Str) == ("_comings" : Str)) = false := by decide +kernel
  have h2 : (("_accepted" : Str) == ("_goings" : Str)) = false := by decide +kernel
  simp [List.lookup, h, h2]
/-- an observer that has seen nothing -/
def ObsAt (C : Addr) (H : Hp) (x : Addr) (cs : List (Str × Int)) (gs : List Int) : Prop := ∃ dx Cm Gm La ws, H x = some (.ins C dx (obF Cm Gm La)) ∧ H Cm = some (.tup ws) ∧ PairsAt H ws cs ∧ H Gm = some (.tup (gs.map V.int)) ∧ H La = some (.lst [])
section
variable {P : Program} {w : World} {K : PySem.W.Frag} {mg : Str → Option Value} {base : Heap}
theorem scObs : FnScope ["self", "comings", "goings"] ["self", "comings", "goings"] (defScope sGoingObserver_Init) := ⟨rfl, rfl, rfl, by decide +kernel, rfl, by decide +kernel, by decide +kernel⟩
def spObs (K : PySem.W.Frag) (mg : Str → Option Value) (C fI CT CI CG : Addr) : Sp := fun vs H Q E => ∃ (x dx Cm Gm : Addr) (ws : List V) (cs : List (Str × Int)) (gs : List Int), vs = [.ref x, .ref Cm, .ref Gm] ∧ H x = some (.ins C dx []) ∧ H Cm = some (.tup ws) ∧ PairsAt H ws cs ∧ H Gm = some (.tup (gs.map V.int)) ∧ cs.length ≤ 1000 ∧ gs.length ≤ 1000 ∧ (∀ c ∈ cs, c.1.length ≤ 1000) ∧
  (10 < cs.length → ∀ H', Same H H' → E (.ref CT) none H') ∧
  (cs.length ≤ 10 → (∀ i, badC [] 0 cs = some i → ∀ (H' : Hp) (d : Addr), Same H H' → H' d = some (.xd [(("index" : Str), .int (i : Nat))]) → E (.ref CI) (some d) H') ∧
    (badC [] 0 cs = none → (∀ i, badG cs 0 0 gs = some i → ∀ (H' : Hp) (d : Addr), Same H H' → H' d = some (.xd [(("index" : Str), .int (i : Nat))]) → E (.ref CG) (some d) H') ∧
      (badG cs 0 0 gs = none → ∀ H', ObsAt C H' x cs gs → (∀ b o, b ≠ x → H b = some o → H' b = some o) → Q .non H')))
theorem ok_obs {f C CT CI CG fC fG : Addr} {fd fdC fdG : FuncData} (F : Fun K "__init__" "GoingObserver.__init__" sGoingObserver_Init f fd) (OC : ObsC K mg C f)
    (GC : FnOk P w K mg base (L2.CX P w) 3 fC fdC ["comings"] (spCC CT CI)) (mC : mg "_check_comings" = some (.ref fC)) (kC : PySem.W.keepIn K (.ref fC) = true) (bC : Binds K fdC ["comings"] [])
    (GG : FnOk P w K mg base (L2.CX P w) 3 fG fdG ["comings", "goings"] (spCG CG)) (mG : mg "_check_goings" = some (.ref fG)) (kG : PySem.W.keepIn K (.ref fG) = true) (bG : Binds K fdG ["comings", "goings"] []) :
    FnOk P w K mg base (L2.CX P w) 4 f fd ["self", "comings", "goings"] (spObs K mg C f CT CI CG) := by
  refine F.okX scObs (fun vs H Q E h => ?_) (fun cdv A outer s H vs Q E hr h => ?_)
  · obtain ⟨x, dx, Cm, Gm, ws, cs, gs, rfl, _⟩ := h
    rfl
  · obtain ⟨x, dx, Cm, Gm, ws, cs, gs, rfl, hx, hC, pC, hG, lc, lg, short, kT, kOk⟩ := h
    have nd := scObs.nd
    have pass : Passes (L2.CX P w) (cxOf (L2.CX P w) P w K mg base ["self", "comings", "goings"] "GoingObserver.__init__" (defScope sGoingObserver_Init) f cdv A outer s H E) E := passes_call (takes_of rfl rfl rfl rfl) fun _ _ _ _ z => z
    refine ⟨_, (pss_cons (ps_expr (pe_call GC (hr.mono (by decide)) rfl mC kC bC .nil pass (pa_cons (pv 1) pa_nil)))
      (pss_cons (ps_expr (pe_call GG (hr.mono (by decide)) rfl mG kG bG .nil pass (pa_cons (pv 1) (pa_cons (pv 2) pa_nil))))
      (pss_cons (ps_fld (pv 0) (pv 1) rfl)
      (pss_cons (ps_fld (pv 0) (pv 2) rfl)
      (pss_one (ps_fld (pv 0) (pe_lst pa_nil) rfl)))))), ?_⟩
    refine ⟨_, rfl, Cm, ws, cs, rfl, hC, pC, lc, short, kT, fun c10 => ⟨fun bc H1 s1 => ?_, (kOk c10).1⟩⟩
    obtain ⟨kBad, kGood⟩ := (kOk c10).2 bc
    refine ⟨_, rfl, _, rfl, Cm, Gm, ws, cs, gs, rfl, s1 _ _ hC, pair_mono (fun v c ⟨t, e, h⟩ => ⟨t, e, s1 _ _ h⟩) pC, s1 _ _ hG, lc, lg, fun bg H2 s2 => ?_, fun i e H' d s' => kBad i e H' d (s1.trans s')⟩
    have s02 := s1.trans s2
    have hx2 := s02 _ _ hx
    refine ⟨_, rfl, _, rfl, x, C, dx, _, rfl, hx2, OC.cl, OC.n1, by decide, ?_⟩
    refine ⟨_, rfl, _, rfl, x, C, dx, _, rfl, upd_same, OC.cl, OC.n2, by show 1 < 1000; decide, ?_⟩
    rw [upd_upd]
    refine ⟨Nat.zero_le _, fun La hLa => ⟨_, rfl, x, C, dx, [("_comings", .ref Cm), ("_goings", .ref Gm)], rfl, (same_upd hLa) _ _ upd_same, OC.cl, OC.n3, by show 2 < 1000; decide, ?_⟩⟩
    have nLx : La ≠ x := fun z => by rw [z, upd_same] at hLa; cases hLa
    have hLa2 : H2 La = none := by rw [upd_ne nLx] at hLa; exact hLa
    have ep : putF "_accepted" (.ref La) [(("_comings" : Str), V.ref Cm), ("_goings", .ref Gm)] = obF Cm Gm La := rfl
    have other : ∀ b o, b ≠ x → H2 b = some o → (upd (upd (upd H2 x (.ins C dx (putF "_goings" (.ref Gm) (putF "_comings" (.ref Cm) [])))) La (.lst [])) x (.ins C dx (obF Cm Gm La))) b = some o := fun b o n e => by rw [upd_ne n, upd_ne (ne_of_none e hLa2), upd_ne n]; exact e
    have tups : ∀ b vs, H b = some (.tup vs) → (upd (upd (upd H2 x (.ins C dx (putF "_goings" (.ref Gm) (putF "_comings" (.ref Cm) [])))) La (.lst [])) x (.ins C dx (obF Cm Gm La))) b = some (.tup vs) := fun b vs e => other b _ (fun z => by rw [z, hx] at e; cases e) (s02 _ _ e)
    exact kGood bg _ ⟨dx, Cm, Gm, La, ws, upd_same, tups _ _ hC, pair_mono (fun v c ⟨t, e, h⟩ => ⟨t, e, tups _ _ h⟩) pC, tups _ _ hG, by rw [upd_ne nLx]; exact upd_same⟩ fun b o n e => other b o n (s02 _ _ e)
theorem scWay : FnScope ["self"] ["self"] (defScope sGoingObserver_WayCount) := ⟨rfl, rfl, rfl, by decide +kernel, rfl, by decide +kernel, by decide +kernel⟩
/-- way_count of an observer that has seen nothing: at least one -/
def spWayCount (K : PySem.W.Frag) (mg : Str → Option Value) (C fI : Addr) (T : List (Addr × Str)) : Sp := fun vs H Q _ => ∃ (x : Addr) (cs : List (Str × Int)) (gs : List Int), vs = [.ref x] ∧ ObsAt C H x cs gs ∧ Valid9 cs gs ∧ LamX.Tabs T H ∧ ∀ (c : Int) H', Grows T H H' → 1 ≤ c → Q (.int c) H'
theorem ok_wayCount {f C fI fW : Addr} {fd fdW : FuncData} {T : List (Addr × Str)} (F : Fun K "way_count" "GoingObserver.way_count" sGoingObserver_WayCount f fd) (OC : ObsC K mg C fI)
    (GW : FnOk P w K mg base CX0 6 fW fdW ["comings", "goings", "records"] (spWays T)) (mW : mg "_ways_to_go" = some (.ref fW)) (kW : PySem.W.keepIn K (.ref fW) = true) (bW : Binds K fdW ["comings", "goings", "records"] []) :
    FnOk P w K mg base CX0 7 f fd ["self"] (spWayCount K mg C fI T) := by
  refine F.ok scWay (fun vs H Q E h => ?_) (fun cdv A outer s H vs Q E hr h => ?_)
  · obtain ⟨x, cs, gs, rfl, _⟩ := h
    rfl
  · obtain ⟨x, cs, gs, rfl, ⟨dx, Cm, Gm, La, ws, hx, hC, pC, hG, hA⟩, va, hT, kk⟩ := h
    refine ⟨_, (pss_one (ps_ret (pe_ix ix_tup (pe_call GW (hr.mono (by decide)) rfl mW kW bW .nil pass0 (pa_cons (pe_fld (pv 0) rfl) (pa_cons (pe_fld (pv 0) rfl) (pa_cons (pe_fld (pv 0) rfl) pa_nil)))) pe_int (fun _ _ => rfl)))), ?_⟩
    refine ⟨_, rfl, x, C, dx, _, _, rfl, hx, OC.cl, OC.n1, lk_c .., _, rfl, x, C, dx, _, _, rfl, hx, OC.cl, OC.n2, lk_g .., _, rfl, x, C, dx, _, _, rfl, hx, OC.cl, OC.n3, lk_a .., Cm, Gm, La, ws, cs, gs, rfl, hC, pC, hG, hA, va, hT, fun p wv c H' gr hc e => ?_⟩
    exact ⟨p, _, 0, .int c, rfl, rfl, SqT.of e, atI_nat (j := 0) rfl, kk c H' gr hc⟩
theorem scRec : FnScope ["self"] ["self"] (defScope sGoingObserver_Records) := ⟨rfl, rfl, rfl, by decide +kernel, rfl, by decide +kernel, by decide +kernel⟩
def spRec (C : Addr) : Sp := fun vs H Q _ => ∃ (x : Addr) (cs : List (Str × Int)) (gs : List Int), vs = [.ref x] ∧ ObsAt C H x cs gs ∧ ∀ l, H l = none → Q (.ref l) (upd H l (.lst []))
theorem ok_records {f C fI : Addr} {fd : FuncData} (F : Fun K "records" "GoingObserver.records" sGoingObserver_Records f fd) (B : Shg.Blt mg) (OC : ObsC K mg C fI) : FnOk P w K mg base CX0 1 f fd ["self"] (spRec C) := by
  refine F.ok scRec (fun vs H Q E h => ?_) (fun cdv A outer s H vs Q E hr h => ?_)
  · obtain ⟨x, cs, gs, rfl, _⟩ := h
    rfl
  · obtain ⟨x, cs, gs, rfl, ⟨dx, Cm, Gm, La, ws, hx, hC, pC, hG, hA⟩, kk⟩ := h
    refine ⟨_, (pss_one (ps_ret (pe_callTy call_list_of (by rfl) B.list (by decide +kernel) (pa_cons (pe_fld (pv 0) rfl) pa_nil)))), ?_⟩
    exact ⟨_, rfl, x, C, dx, _, _, rfl, hx, OC.cl, OC.n3, lk_a .., La, [], rfl, .inl (SqL.of hA), kk⟩
end
end Go
set_option Elab.async false
set_option linter.all false
set_option maxRecDepth 100000
set_option maxHeartbeats 4000000
set_option autoImplicit false
/-! What the two checks grant. -/
namespace Go
open PySem L2 Sho NdefX Shg Sh1 Sh4
theorem badC_ok : ∀ {cs : List (Str × Int)} {seen : List Str} {i : Nat}, badC seen i cs = none → ∀ c ∈ cs, okName c.1 = true ∧ 0 ≤ c.2 ∧ c.2 ≤ 999999999
  | [], _, _, _, c, hc => nomatch hc
  | x :: r, seen, i, h, c, hc => by
    unfold badC at h
    split at h
    · cases h
    · rename_i k
      rcases List.mem_cons.mp hc with rfl | hc
      · simp only [Bool.or_eq_true, not_or, Bool.not_eq_true', Bool.not_eq_false', Bool.and_eq_true, decide_eq_true_eq, Bool.not_eq_false, Bool.not_eq_true] at k
        have k2 := k.2.2
        refine ⟨?_, ?_⟩
        · cases e : okName c.1 with
          | true => rfl
          | false => exact absurd k.2.1 (by rw [e]; decide)
        · simpa using k2
      · exact badC_ok h c hc
theorem badG_ok {cs : List (Str × Int)} : ∀ {gs : List Int} {e : Int} {i : Nat}, badG cs e i gs = none → (∀ j g, gs[j]? = some g → e ≤ g ∧ i + j < (cs.filter fun c => decide (c.2 < g)).length) ∧ (∀ j g h, gs[j]? = some g → gs[j + 1]? = some h → g < h) ∧ cs.length ≤ i + gs.length
  | [], e, i, h => by
    unfold badG at h
    split at h
    · cases h
    · rename_i k
      exact ⟨fun j g e => by simp at e, fun j g h e => by simp at e, by simpa using Nat.le_of_not_lt k⟩
  | g :: r, e, i, h => by
    unfold badG at h
    split at h
    · cases h
    · rename_i k
      obtain ⟨h1, h2, h3⟩ := badG_ok h
      have k' : (e ≤ g ∧ g ≤ 1000000000) ∧ i < (cs.filter fun c => decide (c.2 < g)).length := by simpa using k
      refine ⟨fun j g2 ej => ?_, fun j g2 h2' ej ek => ?_, by rw [List.length_cons]; omega⟩
      · cases j with
        | zero =>
          cases ej
          exact ⟨k'.1.1, k'.2⟩
        | succ j =>
          obtain ⟨p1, p2⟩ := h1 j g2 ej
          exact ⟨by omega, by omega⟩
      · cases j with
        | zero =>
          cases ej
          have := (h1 0 h2' ek).1
          omega
        | succ j => exact h2 j g2 h2' ej ek
theorem valid_of {cs : List (Str × Int)} {gs : List Int} (l10 : cs.length ≤ 10) (hc : badC [] 0 cs = none) (hg : badG cs 0 0 gs = none) : Valid9 cs gs := by
  obtain ⟨h1, h2, h3⟩ := badG_ok hg
  refine ⟨l10, fun c h => (badC_ok hc c h).2.1, h2, fun i g e => ⟨(h1 i g e).1, by have := (h1 i g e).2; omega⟩, ?_⟩
  by_cases z : gs.length = 0
  · omega
  · have e : gs[gs.length - 1]? = some (gs[gs.length - 1]'(by omega)) := List.getElem?_eq_getElem _
    have k := (h1 _ _ e).2
    have l := List.length_filter_le (fun c => decide (c.2 < gs[gs.length - 1]'(by omega))) cs
    omega
end Go
set_option Elab.async false
set_option linter.all false
set_option maxRecDepth 100000
set_option maxHeartbeats 4000000
/-! all([lo <= c <= hi for c in z]); [c for c in z if not lo <= c <= hi] != []. -/
namespace Shg
open PySem L2 Sho NdefX
abbrev sgn (c : Nat) : V := .str ⟨#[c]⟩
abbrev rLeS : R2 := fun x y H Q => ∃ i j, x = .str i ∧ y = .str j ∧ Q (.bl (!decide (j.cps.toList < i.cps.toList))) H
theorem one_less (c d : Nat) : ([c] < [d]) ↔ c < d := by
  rw [List.cons_lt_cons_iff]
  simp
/-- between the signs a and b -/
def within (a b c : Nat) : Bool := !decide (c < a) && !decide (b < c)
theorem dpSigns {K : PySem.W.Frag} {H : Hp} : ∀ cs : List Nat, DpAll K H (cs.map sgn) (cs.map fun c => .str ⟨#[c]⟩)
  | [] => .nil
  | c :: cs => .cons (.str _) (dpSigns cs)
theorem laySigns : ∀ {cs : List Nat}, (∀ c ∈ cs, c < 0x110000) → PyData.canLayAll0 (cs.map fun c => .str ⟨#[c]⟩) = true
  | [], _ => rfl
  | c :: cs, h => by
    have h1 := h c List.mem_cons_self
    have h2 := laySigns (cs := cs) fun y hy => h y (List.mem_cons_of_mem _ hy)
    show (PyData.canLay0 (.str ⟨#[c]⟩) && PyData.canLayAll0 (cs.map fun c => .str ⟨#[c]⟩)) = true
    rw [h2, Bool.and_true]
    show (#[c].all fun x => decide (x < 0x110000)) = true
    simpa using h1
theorem depthSigns : ∀ cs : List Nat, PyData.depthAll (cs.map fun c => .str ⟨#[c]⟩) = 0
  | [] => rfl
  | c :: cs => by
    have h := depthSigns cs
    show max (PyData.depth (.str ⟨#[c]⟩)) (PyData.depthAll (cs.map fun c => .str ⟨#[c]⟩)) = 0
    rw [h]
    rfl
theorem shapedSigns {cs : List Nat} (h : ∀ c ∈ cs, c < 0x110000) : SeqAt.shaped (.list (cs.map fun c => .str ⟨#[c]⟩)) = true := by
  unfold SeqAt.shaped
  have h1 : PyData.canLay0 (.list (cs.map fun c => .str ⟨#[c]⟩)) = true := laySigns h
  have h2 : PyData.depth (.list (cs.map fun c => .str ⟨#[c]⟩)) ≤ 64 := by
    show PyData.depthAll (cs.map fun c => .str ⟨#[c]⟩) + 1 ≤ 64
    rw [depthSigns]
    decide
  rw [h1, decide_eq_true h2]
  rfl
/-- lo <= c <= hi of one sign -/
theorem chain_sign {lo up : Str} {a b c i : Nat} {σ : L2.St} {H : Hp} {Q : VK} (ha : lo.cps.toList = [a]) (hb : up.cps.toList = [b]) (hi : σ[i]? = some (some (sgn c))) (h : Q (.bl (within a b c)) H) :
    tChain rLeS rLeS (tC (.str lo)) (tVar i) (tC (.str up)) σ H Q := by
  refine ⟨_, hi, _, _, rfl, rfl, _, rfl, ?_⟩
  have e1 : decide (({ cps := #[c] } : Str).cps.toList < lo.cps.toList) = decide (c < a) := by
    rw [ha]
    exact decide_eq_decide.mpr (one_less c a)
  
  have e2 : decide (up.cps.toList < ({ cps := #[c] } : Str).cps.toList) = decide (b < c) := by
    rw [hb]
    exact decide_eq_decide.mpr (one_less b c)
  rw [e1]
  unfold within at h
  by_cases h3 : c < a
  · rw [decide_eq_true h3] at h ⊢
    exact iteF h
  · rw [decide_eq_false h3] at h ⊢
    refine iteT ⟨_, _, rfl, rfl, ?_⟩
    rw [e2]
    exact h
section
variable {z : Str} {lo up : Str} {a b i : Nat} {σ : L2.St} {vs : List Nat} {H1 : Hp} {D : Addr}
/-- all([lo <= c <= hi for c in z]) -/
theorem lc_all {Q : Addr → VK} {K : PySem.W.Frag} {R : VK} (ha : lo.cps.toList = [a]) (hb : up.cps.toList = [b]) (hz : z.length ≤ sizeLine) (hs : ∀ v, wipe ((wipe σ vs).set i (some v)) vs = wipe σ vs) (hg : ∀ v : V, ((wipe σ vs).set i (some v))[i]? = some (some v))
    {te : TE} (hte : ∀ Q : VK, Q (.str z) H1 → te σ H1 Q) (h : ∀ H', Same H1 H' → R (.bl (z.cps.toList.all (within a b))) H') :
    tCB (rAll K) (tCons (tLc (iStr te) (gName i) tYes (tChain rLeS rLeS (tC (.str lo)) (tVar i) (tC (.str up))) vs) tNil) σ H1 R := by
  refine hte _ ⟨z, rfl, fun D hD => ?_⟩
  refine lc_map (walk_str (z := z)) (fun i => (z.cps.toList[i]?).map fun c => .bl (within a b c)) hD hz (fun _ _ => trivial) (fun j x H2 H' hi s2 y R k1 => ?_) (fun i hi => ⟨_, by rw [List.getElem?_eq_getElem (by simpa using hi)]; rfl⟩) fun H2 s2 e2 => ?_
  · obtain ⟨rfl, c, hc, rfl⟩ := y
    refine ⟨hs _, chain_sign ha hb (hg _) (k1 _ _ (Same.refl _) ?_)⟩
    rw [Array.getElem?_toList, hc]
    rfl
  · refine ⟨D, z.cps.toList.map (within a b), rfl, ?_, ?_⟩
    · have e3 : gather (fun i => (z.cps.toList[i]?).map fun c => V.bl (within a b c)) z.cps.size = (z.cps.toList.map (within a b)).map V.bl := by
        have := gather_map z.cps.toList fun c => V.bl (within a b c)
        rw [Array.length_toList] at this
        rw [this, List.map_map]
        rfl
      rw [← e3]
      exact SqL.of e2
    · have e3 : (z.cps.toList.map (within a b)).all id = z.cps.toList.all (within a b) := by
        rw [List.all_map]
        rfl
      rw [e3]
      exact h _ s2
/-- [c for c in z if not lo <= c <= hi], a new list -/
theorem lc_signs {R : VK} (ha : lo.cps.toList = [a]) (hb : up.cps.toList = [b]) (hz : z.length ≤ sizeLine) (hs : ∀ v, wipe ((wipe σ vs).set i (some v)) vs = wipe σ vs) (hg : ∀ v : V, ((wipe σ vs).set i (some v))[i]? = some (some v))
    {te : TE} (hte : ∀ Q : VK, Q (.str z) H1 → te σ H1 Q) (h : ∀ D H2, Same H1 H2 → H1 D = none → H2 D = some (.lst ((z.cps.toList.filter fun c => !within a b c).map sgn)) → R (.ref D) H2) :
    tLc (iStr te) (gName i) (tNot (tTest (tChain rLeS rLeS (tC (.str lo)) (tVar i) (tC (.str up))))) (tVar i) vs σ H1 R := by
  refine hte _ ⟨z, rfl, fun D hD => ?_⟩
  refine lc_gather (walk_str (z := z)) (fun i => (z.cps.toList[i]?).bind fun c => match within a b c with | true => none | false => some (sgn c)) hD hz (fun _ _ => trivial) (fun j x H2 H' hi s2 y R k1 => ?_) fun H2 s2 e2 => ?_
  · obtain ⟨rfl, c, hc, rfl⟩ := y
    have k2 := k1 _ (Same.refl _)
    have fi : ((z.cps.toList[j]?).bind fun c => match within a b c with | true => none | false => some (sgn c)) = match within a b c with | true => none | false => some (sgn c) := by
      rw [Array.getElem?_toList, hc]
      rfl
    rw [fi] at k2
    refine ⟨hs _, chain_sign ha hb (hg _) ⟨_, rfl, ?_⟩⟩
    cases e : within a b c with
    | true => exact iteF (by rw [e] at k2; exact k2)
    | false => exact iteT ⟨_, hg _, by rw [e] at k2; exact k2⟩
  · refine h D H2 s2 hD ?_
    have e := gather_list z.cps.toList fun c => match within a b c with | true => none | false => some (sgn c)
    rw [Array.length_toList] at e
    rw [e] at e2
    rw [e2]
    congr 1
    generalize z.cps.toList = cs
    induction cs with
    | nil => rfl
    | cons c cs ih =>
      rw [List.filterMap_cons, List.filter_cons]
      cases e : within a b c with
      | true => simpa [e] using ih
      | false => simpa [e] using ih
/-- [c for c in z if not lo <= c <= hi] == [], as a value -/
theorem lc_good {K : PySem.W.Frag} {R : VK} (ha : lo.cps.toList = [a]) (hb : up.cps.toList = [b]) (hz : z.length ≤ sizeLine) (hc : ∀ c ∈ z.cps.toList, c < 0x110000) (hs : ∀ v, wipe ((wipe σ vs).set i (some v)) vs = wipe σ vs) (hg : ∀ v : V, ((wipe σ vs).set i (some v))[i]? = some (some v))
    {te : TE} (hte : ∀ Q : VK, Q (.str z) H1 → te σ H1 Q) (h : ∀ H', Same H1 H' → R (.bl (z.cps.toList.all (within a b))) H') :
    tOp (rEqD K) (tLc (iStr te) (gName i) (tNot (tTest (tChain rLeS rLeS (tC (.str lo)) (tVar i) (tC (.str up))))) (tVar i) vs) (tLst tNil) σ H1 R := by
  refine lc_signs ha hb hz hs hg hte fun D H2 s2 hD e2 => ⟨Nat.zero_le _, fun L hL => ⟨_, .list [], .lst (SqL.of (by rw [upd_ne (ne_of_none e2 hL)]; exact e2)) (dpSigns (z.cps.toList.filter fun c => !within a b c)), .lst (SqL.of upd_same) .nil, shapedSigns (cs := z.cps.toList.filter fun c => !within a b c) fun c hc' => hc c (List.mem_filter.mp hc').1, rfl, ?_⟩⟩
  have e5 : z.cps.toList.all (within a b) = PyData.eqv (.list ((z.cps.toList.filter fun c => !within a b c).map fun c => .str ⟨#[c]⟩)) (.list []) := by
    generalize z.cps.toList = cs
    show cs.all _ = PyData.eqvAll _ []
    induction cs with
    | nil => rfl
    | cons c cs ih =>
      rw [List.all_cons, List.filter_cons]
      cases within a b c with
      | true => simpa using ih
      | false => rfl
  rw [← e5]
  exact h _ (s2.trans (same_upd hL))
/-- [c for c in z if not lo <= c <= hi] != [] -/
theorem lc_bad {K : PySem.W.Frag} {R : Bool → Hp → Prop} (ha : lo.cps.toList = [a]) (hb : up.cps.toList = [b]) (hz : z.length ≤ sizeLine) (hc : ∀ c ∈ z.cps.toList, c < 0x110000) (hs : ∀ v, wipe ((wipe σ vs).set i (some v)) vs = wipe σ vs) (hg : ∀ v : V, ((wipe σ vs).set i (some v))[i]? = some (some v))
    {te : TE} (hte : ∀ Q : VK, Q (.str z) H1 → te σ H1 Q) (h : ∀ H', Same H1 H' → R (!z.cps.toList.all (within a b)) H') :
    tTest (tOp (rNeD K) (tLc (iStr te) (gName i) (tNot (tTest (tChain rLeS rLeS (tC (.str lo)) (tVar i) (tC (.str up))))) (tVar i) vs) (tLst tNil)) σ H1 R := by
  refine hte _ ⟨z, rfl, fun D hD => ?_⟩
  refine lc_gather (walk_str (z := z)) (fun i => (z.cps.toList[i]?).bind fun c => if within a b c = true then none else some (sgn c)) hD hz (fun _ _ => trivial) (fun j x H2 H' hi s2 y R k1 => ?_) fun H2 s2 e2 => ?_
  · obtain ⟨rfl, c, hc, rfl⟩ := y
    have k2 := k1 _ (Same.refl _)
    have fi : ((z.cps.toList[j]?).bind fun c => if within a b c = true then none else some (sgn c)) = if within a b c = true then none else some (sgn c) := by
      rw [Array.getElem?_toList, hc]
      rfl
    rw [fi] at k2
    refine ⟨hs _, chain_sign ha hb (hg _) ⟨_, rfl, ?_⟩⟩
    cases e : within a b c with
    | true =>
      rw [e, if_pos rfl] at k2
      exact iteF k2
    | false =>
      rw [e, if_neg Bool.false_ne_true] at k2
      exact iteT ⟨_, hg _, k2⟩
  · have e4 : gather (fun i => (z.cps.toList[i]?).bind fun c => if within a b c = true then none else some (sgn c)) z.cps.size = (z.cps.toList.filter fun c => !within a b c).map sgn := by
      have e := gather_list z.cps.toList fun c => if within a b c = true then none else some (sgn c)
      rw [Array.length_toList] at e
      rw [e]
      generalize z.cps.toList = cs
      induction cs with
      | nil => rfl
      | cons c cs ih =>
        rw [List.filterMap_cons, List.filter_cons, ih]
        cases within a b c <;> rfl
    rw [e4] at e2
    refine ⟨Nat.zero_le _, fun L hL => ⟨_, .list [], .lst (SqL.of ?_) (dpSigns (z.cps.toList.filter fun c => !within a b c)), .lst (SqL.of upd_same) .nil, shapedSigns (cs := z.cps.toList.filter fun c => !within a b c) fun c hc' => hc c (List.mem_filter.mp hc').1, rfl, _, rfl, ?_⟩⟩
    · rw [upd_ne (ne_of_none e2 hL)]
      exact e2
    · have e5 : z.cps.toList.all (within a b) = PyData.eqv (.list ((z.cps.toList.filter fun c => !within a b c).map fun c => .str ⟨#[c]⟩)) (.list []) := by
        generalize z.cps.toList = cs
        show cs.all _ = PyData.eqvAll _ []
        induction cs with
        | nil => rfl
        | cons c cs ih =>
          rw [List.all_cons, List.filter_cons]
          cases within a b c with
          | true => simpa using ih
          | false => rfl
      rw [← e5]
      exact h _ (s2.trans (same_upd hL))
end
end Shg
set_option Elab.async false
set_option linter.all false
set_option maxRecDepth 100000
set_option maxHeartbeats 2000000
/-! a op b op c op d as a test -/
namespace Sho
open PySem PySem.Spec PyProof.Rows L2 StX
section
variable {X : Cx} {a b c d : Expr} {ta tb tc td : TE} {pos : Pos}
def tChain3 (r1 r2 r3 : R2) (ta tb tc td : TE) : TT := fun σ H Q => ta σ H fun x H1 => tb σ H1 fun y H2 => r1 x y H2 fun z H3 => ∃ k, z = .bl k ∧
  (if k = true then tc σ H3 fun w H4 => r2 y w H4 fun z2 H5 => ∃ k2, z2 = .bl k2 ∧ (if k2 = true then td σ H5 fun u H6 => r3 w u H6 fun z3 H7 => ∃ k3, z3 = .bl k3 ∧ Q k3 H7 else Q false H5) else Q false H3)
theorem pt_chain3 {op1 op2 op3 : CmpOp} {r1 r2 r3 : R2} (h1 : OpR X (compareOp op1) r1) (h2 : OpR X (compareOp op2) r2) (h3 : OpR X (compareOp op3) r3) (ha : PE X a ta) (hb : PE X b tb) (hc : PE X c tc) (hd : PE X d td)
    (hm : lastMarks [op1, op2, op3] [b, c, d] = false := by with_unfolding_all rfl) : PT X (.Compare a [op1, op2, op3] [b, c, d] pos) (tChain3 r1 r2 r3 ta tb tc td) := by
  refine ⟨fun pins s σ H Q I h => ?_⟩
  refine isTrue_chain (thn (ha.run pins s σ H _ I h) fun v s1 ⟨x, H1, I1, rx, q1⟩ => test_link (thn (hb.run pins s1 σ H1 _ I1 q1) fun u s2 ⟨y, H2, I2, ry, q2⟩ =>
    thn (h1 pins s2 σ H2 x y v u _ I2 rx ry q2) fun e s3 ⟨z, H3, I3, rz, k, ez, q3⟩ => ?_)) hm
  subst ez
  cases rz
  refine wpAny_truthy_bool ?_
  cases k with
  | false => exact ite_ff ⟨H3, I3, q3⟩
  | true =>
    refine ite_tt (test_link (thn (hc.run pins s3 σ H3 _ I3 q3) fun v' s4 ⟨w, H4, I4, rw, q4⟩ => thn (h2 pins s4 σ H4 y w u v' _ I4 ry rw q4) fun e2 s5 ⟨z2, H5, I5, rz2, k2, ez2, q5⟩ => ?_))
    subst ez2
    cases rz2
    refine wpAny_truthy_bool ?_
    cases k2 with
    | false => exact ite_ff ⟨H5, I5, q5⟩
    | true =>
      refine ite_tt (test_last (thn (hd.run pins s5 σ H5 _ I5 q5) fun u' s6 ⟨w2, H6, I6, rw2, q6⟩ => thn (h3 pins s6 σ H6 w w2 v' u' _ I6 rw rw2 q6) fun e3 s7 ⟨z3, H7, I7, rz3, k3, ez3, q7⟩ => ?_))
      subst ez3
      cases rz3
      exact wpAny_truthy_bool ⟨H7, I7, q7⟩
end
end Sho
set_option Elab.async false
set_option linter.all false
set_option maxRecDepth 100000
set_option maxHeartbeats 8000000
set_option autoImplicit false
/-! _law_fault. -/
namespace Go
open PySem L2 Sho NdefX Shg Sh1 Sh4
abbrev NF : List Str := ["_law_comings", "_law_goings", "_law_k", "_law_name", "_law_come", "_law_good", "_law_here", "_law_one"]
/-- what is found of comings and goings -/
inductive Fo | many | stay (i : Nat) | going (i : Nat)
def Fo.vs : Fo → List V
  | .many => [.str "TooManyGuests"]
  | .stay i => [.str "InvalidStay", .int (i : Nat)]
  | .going i => [.str "InvalidGoings", .int (i : Nat)]
def faultOf (cs : List (Str × Int)) (gs : List Int) : Option Fo :=
  if 10 < cs.length then some .many else match badC [] 0 cs with
    | some i => some (.stay i)
    | none => match badG cs 0 0 gs with
      | some i => some (.going i)
      | none => none
def FoV (H : Hp) (v : V) : Option Fo → Prop
  | none => v = .non
  | some o => ∃ p, v = .ref p ∧ H p = some (.tup o.vs)
theorem ifs_one {c : TT} {A B : TS} {D : Ends} {σ : L2.St} {H : Hp} (h : c σ H fun b H1 => if b = true then A D σ H1 else B D σ H1) : tIfS c A B D σ H := h
theorem gather_pick {α : Type} (cs : List α) (ws : List V) (p : α → Bool) (hl : cs.length = ws.length) : ∀ n, n ≤ cs.length → (gather (fun i => (cs[i]?).bind fun c => if p c = true then ws[i]? else none) n).length = ((cs.take n).filter p).length
  | 0, _ => rfl
  | n + 1, h => by
    have ih := gather_pick cs ws p hl n (by omega)
    have e1 : cs[n]? = some (cs[n]'(by omega)) := List.getElem?_eq_getElem (by omega)
    have e2 : ws[n]? = some (ws[n]'(by omega)) := List.getElem?_eq_getElem (by omega)
    rw [List.take_add_one, e1, List.filter_append, List.length_append, ← ih]
    cases hp : p (cs[n]'(by omega)) with
    | true =>
      rw [gather_some (y := ws[n]'(by omega)) (by rw [e1, ← e2]; show (if p _ = true then _ else _) = _; rw [hp, if_pos rfl]), List.length_append]
      show _ = _ + (List.filter p [cs[n]'(by omega)]).length
      rw [List.filter_cons_of_pos hp]
      rfl
    | false =>
      rw [gather_none (by rw [e1]; show (if p _ = true then _ else _) = _; rw [hp, if_neg Bool.false_ne_true])]
      show _ = _ + (List.filter p [cs[n]'(by omega)]).length
      rw [List.filter_cons_of_neg (by rw [hp]; exact Bool.false_ne_true)]
      rfl
section
variable {P : Program} {w : World} {K : PySem.W.Frag} {mg : Str → Option Value} {base : Heap}
theorem scFault : FnScope NF ["_law_comings", "_law_goings"] (defScope sLawFault) := ⟨rfl, rfl, rfl, by decide +kernel, rfl, by decide +kernel, by decide +kernel⟩
def spFault : Sp := fun vs H Q _ => ∃ (Cm Gm : Addr) (ws : List V) (cs : List (Str × Int)) (gs : List Int), vs = [.ref Cm, .ref Gm] ∧ H Cm = some (.lst ws) ∧ PairsAt H ws cs ∧ H Gm = some (.lst (gs.map V.int)) ∧ cs.length ≤ 100 ∧ gs.length ≤ 100 ∧ (∀ c ∈ cs, c.1.length ≤ 1000 ∧ ∀ x ∈ c.1.cps.toList, x < 0x110000) ∧
  ∀ v H', Same H H' → FoV H' v (faultOf cs gs) → Q v H'
theorem ok_fault {f : Addr} {fd : FuncData} (F : Fun K "_law_fault" "_law_fault" sLawFault f fd) (B : Shg.Blt mg) : FnOk P w K mg base CX0 2 f fd ["_law_comings", "_law_goings"] spFault := by
  refine F.ok scFault (fun vs H Q E h => ?_) (fun cdv A outer s H vs Q E hr h => ?_)
  · obtain ⟨Cm, Gm, ws, cs, gs, rfl, _⟩ := h
    rfl
  obtain ⟨Cm, Gm, ws, cs, gs, rfl, hC, pC, hG, lc, lg, short, kk⟩ := h
  have nd := scFault.nd
  have lC := pair_len pC
  refine ⟨_, (pss_cons (ps_if (pt_cmpR op_gt (pe_callB call_len_seq (by rfl) B.len PySem.boot_len (pa_cons (pv 0) pa_nil)) pe_int (nomark _)) (pss_one (ps_ret (pe_tup (pa_cons pe_str pa_nil)))) pss_nil)
      (pss_cons (ps_for PassesOwn.never rfl (pi_range1 (by rfl) B.range (pa_cons (pe_callB call_len_seq (by rfl) B.len PySem.boot_len (pa_cons (pv 0) pa_nil)) pa_nil)) (pg_name (i := 2) nd rfl (Or.inr rfl)) (pss_cons (ps_asg (pe_ix ix_list (pv 0) (pv 2) (fun _ _ => rfl)) (pg_tup rfl (pgs_cons (pg_name (i := 3) nd rfl (Or.inl rfl)) (pgs_cons (pg_name (i := 4) nd rfl (Or.inl rfl)) pgs_nil))))
      (pss_cons (ps_set (i := 5) nd rfl (Or.inl rfl) (pe_and (pe_chain op_le op_le pe_int (pe_callB call_len_str (by rfl) B.len PySem.boot_len (pa_cons (pv 3) pa_nil)) pe_int) (pe_one (pe_cmpR (op_eqD hr.units) (pe_lc (own := [("_law_one", 7)]) (g := gName 7) (tt := tNot (tTest (tChain rLeS rLeS (tC (.str "a")) (tVar 7) (tC (.str "z"))))) rfl nd (pi_str (pv 3)) (blkOk_by (own := [("_law_one", 7)]) (N := NF) (sc := defScope sLawFault) (by decide +kernel))
        (fun _ _ _ _ _ => (pg_name (i := 7) nd rfl (Or.inl rfl))) (fun _ _ _ _ _ => pts_one (pt_not (pt_chain op_le_str op_le_str pe_str (pv 7) pe_str))) (fun _ _ _ _ _ => (pv 7))) (pe_lst pa_nil) (nomark _)))))
      (pss_one (ps_if (PW.pt (pw_or (pt_not (pt_val (pv 5))) (pw_or (pt_cmpR op_in_seq (pv 3) (pe_lc (own := [("_law_one", 7)]) (g := gName 7) (tt := tYes) (te := tOp (rIxT K) (tVar 7) (tC (.int 0))) rfl nd (pi_list (pe_slice sl_list (pv 0) po_none (po_some (pv 2)))) (blkOk_by (own := [("_law_one", 7)]) (N := NF) (sc := defScope sLawFault) (by decide +kernel))
        (fun _ _ _ _ _ => (pg_name (i := 7) nd rfl (Or.inl rfl))) (fun _ _ _ _ _ => pts_nil) (fun _ _ _ _ _ => (pe_ix ix_tup (pv 7) pe_int (fun _ _ => rfl)))) rfl) (pw_or1 (pt_not (pt_chain op_le op_lt pe_int (pv 4) (pe_op op_pow pe_int pe_int))))))) (pss_one (ps_ret (pe_tup (pa_cons pe_str (pa_cons (pv 2) pa_nil))))) pss_nil)))))
      (pss_cons (ps_for PassesOwn.never rfl (pi_range1 (by rfl) B.range (pa_cons (pe_callB call_len_seq (by rfl) B.len PySem.boot_len (pa_cons (pv 1) pa_nil)) pa_nil)) (pg_name (i := 2) nd rfl (Or.inr rfl)) (pss_cons (ps_set (i := 6) nd rfl (Or.inl rfl) (pe_callB call_len_seq (by rfl) B.len PySem.boot_len (pa_cons (pe_lc (own := [("_law_one", 7)]) (g := gName 7) (tt := tTest (tOp (rI0 fun i j => .bl (decide (i < j))) (tOp (rIxT K) (tVar 7) (tC (.int 1))) (tOp (rIxL K) (tVar 1) (tVar 2)))) rfl nd (pi_list (pv 0)) (blkOk_by (own := [("_law_one", 7)]) (N := NF) (sc := defScope sLawFault) (by decide +kernel))
        (fun _ _ _ _ _ => (pg_name (i := 7) nd rfl (Or.inl rfl))) (fun _ _ _ _ _ => pts_one (pt_cmpR op_lt (pe_ix ix_tup (pv 7) pe_int (fun _ _ => rfl)) (pe_ix ix_list (pv 1) (pv 2) (fun _ _ => rfl)) (nomark _))) (fun _ _ _ _ _ => (pv 7))) pa_nil)))
      (pss_one (ps_if (PW.pt (pw_or (PW.pt (pw_and (pt_cmpR op_gt (pv 2) pe_int (nomark _)) (pw_and1 (pt_cmpR op_le (pe_ix ix_list (pv 1) (pv 2) (fun _ _ => rfl)) (pe_ix ix_list (pv 1) (pe_callB (call_max2 rfl) (by rfl) B.max (by decide +kernel) (pa_cons (pe_op op_sub (pv 2) pe_int) (pa_cons pe_int pa_nil))) (fun _ _ => rfl)) (nomark _))))) (pw_or (pt_cmpR op_gt (pe_ix ix_list (pv 1) (pv 2) (fun _ _ => rfl)) (pe_op op_pow pe_int pe_int) (nomark _)) (pw_or1 (pt_cmpR op_lt (pv 6) (pe_op op_add (pv 2) pe_int) (nomark _)))))) (pss_one (ps_ret (pe_tup (pa_cons pe_str (pa_cons (pv 2) pa_nil))))) pss_nil))))
      (pss_cons (ps_if (pt_cmpR op_ne (pe_callB call_len_seq (by rfl) B.len PySem.boot_len (pa_cons (pv 1) pa_nil)) (pe_callB call_len_seq (by rfl) B.len PySem.boot_len (pa_cons (pv 0) pa_nil)) (nomark _)) (pss_one (ps_ret (pe_tup (pa_cons pe_str (pa_cons (pe_callB (call_min2 rfl) (by rfl) B.min (by decide +kernel) (pa_cons (pe_callB call_len_seq (by rfl) B.len PySem.boot_len (pa_cons (pv 1) pa_nil)) (pa_cons (pe_callB call_len_seq (by rfl) B.len PySem.boot_len (pa_cons (pv 0) pa_nil)) pa_nil))) pa_nil))))) pss_nil)
      (pss_one (ps_ret pe_non)))))), ?_⟩
  refine ⟨_, rfl, Cm, ws, rfl, .inl (SqL.of hC), _, _, rfl, rfl, _, rfl, ite2 (fun c => ?_) (fun c => nx_of ?_)⟩
  · have big : 10 < cs.length := by
      have := of_decide_eq_true c
      rw [lC] at this
      omega
    refine ⟨by show 1 ≤ sizeLine; decide, fun p hp => kk _ _ (same_upd hp) ?_⟩
    unfold faultOf
    rw [if_pos big]
    exact ⟨p, rfl, upd_same⟩
  have few : ¬ 10 < cs.length := fun z => c (decide_eq_true (by rw [lC]; omega))
  -- the comings
  refine ⟨_, rfl, Cm, ws, rfl, .inl (SqL.of hC), _, rfl, by omega, by omega, for_it walk_range (fun i σ H2 => ∃ o2 o3 o4 o5 o6 o7, σ = [some (.ref Cm), some (.ref Gm), o2, o3, o4, o5, o6, o7] ∧ Same H H2 ∧ badC ((cs.take i).map fun c => c.1) i (cs.drop i) = badC [] 0 cs)
    ⟨none, none, none, none, none, none, rfl, Same.refl _, rfl⟩ (fun _ _ _ _ _ => trivial) ?_ ?_⟩
  · rintro i v σ H3' H3 hi ⟨o2, o3, o4, o5, o6, o7, rfl, s3, hb⟩ ⟨rfl, ev⟩
    have ev' : v = V.int (i : Int) := ev.trans (by show V.int (0 + (i : Int)) = _; rw [Int.zero_add])
    clear ev
    subst ev'
    have hi' : i < ws.length := by simpa using hi
    obtain ⟨y, hy⟩ : ∃ y, ws[i]? = some y := ⟨_, List.getElem?_eq_getElem hi'⟩
    obtain ⟨x, hx, t, rfl, ht⟩ := pair_get pC hy
    have hxm := List.mem_of_getElem? hx
    obtain ⟨hx1, hxc⟩ := short x hxm
    refine ⟨_, rfl, _, rfl, Cm, ws, _, _, rfl, rfl, SqL.of (s3 _ _ hC), atI_nat hy, ?_⟩
    refine ⟨t, _, rfl, SqT.of (s3 _ _ ht), rfl, _, _, rfl, _, _, rfl, rfl, ?_⟩
    refine nx_of (asg_val (.bl (okName x.1)) (fun R h => ?_) fun H4 s4 => name_at ?_)
    · refine ⟨_, rfl, x.1, rfl, Nat.le_trans hx1 (by decide), _, _, rfl, rfl, _, rfl, ?_⟩
      have e3 : ∀ b1 b2 : Bool, b1 = decide ((1 : Int) ≤ x.1.length) → b2 = decide ((x.1.length : Int) ≤ 8) → okName x.1 = (b1 && (b2 && x.1.cps.toList.all (within 97 122))) := fun b1 b2 h1 h2 => by rw [h1, h2]; rfl
      refine ite2 (fun h1 => ?_) (fun h1 => ?_)
      · refine ⟨_, _, rfl, rfl, _, rfl, ?_⟩
        refine ite2 (fun h2 => ?_) (fun h2 => ?_)
        · refine lc_good (a := 97) (b := 122) cps_a cps_z (z := x.1) (Nat.le_trans hx1 (by decide)) hxc (fun v => rfl) (fun v => rfl) (fun Q q => ⟨_, rfl, q⟩) fun H' s' => ?_
          have := h H' s'
          rw [e3 true true h1.symm h2.symm, Bool.true_and, Bool.true_and] at this
          exact this
        · have := h _ (Same.refl _)
          rw [e3 true false h1.symm (Bool.eq_false_iff.mpr h2).symm] at this
          exact this
      · have := h _ (Same.refl _)
        rw [e3 false _ (Bool.eq_false_iff.mpr h1).symm rfl] at this
        exact ⟨_, rfl, iteF this⟩
    have s34 := s3.trans s4
    refine ifs_one (or_ans (!okName x.1) (decide (x.1 ∈ (cs.take i).map fun c => c.1) || !(decide (0 ≤ x.2) && decide (x.2 < 10 ^ (9 : Int).toNat))) (fun R h => ⟨_, rfl, _, rfl, h _ (Same.refl _)⟩) (fun H5 s5 _ R h => or_ans _ _ (fun R h => ?_) (fun H6 s6 _ R h => ?_) h) fun H5 s5 => ?_)
    · have s35 := s34.trans s5
      refine ⟨_, rfl, _, rfl, _, rfl, _, rfl, Cm, ws, rfl, SqL.of (s35 _ _ hC), fun p hp => ?_⟩
      have s8 := same_upd (o := .lst (cutV ws none (some (i : Int)))) hp
      have hp8 : (upd H5 p (.lst (cutV ws none (some (i : Int))))) p = some (.lst (cutV ws none (some (i : Int)))) := upd_same
      rw [cut_to ws (Nat.le_of_lt hi')] at hp8 s8 ⊢
      generalize upd H5 p (.lst (ws.take i)) = H8 at *
      have s38 := s35.trans s8
      have lt : (ws.take i).length = i := by rw [List.length_take]; omega
      refine ⟨p, rfl, ⟨_, SqL.of hp8⟩, fun D hD => ?_⟩
      refine lc_map walk_list (fun j => ((cs.take i)[j]?).map fun y => V.str y.1) hD (Nat.le_trans (Nat.le_of_eq lt) (by rw [sizeLine_eq]; omega)) (fun H1 s1 => SqL.of (s1 _ _ hp8)) (fun j v H1 H' hj s1 yy R' k1 => ?_) (fun j hj => ?_) fun H1 s1 e1 => ?_
      · obtain ⟨rfl, e2⟩ := yy
        rw [lt] at hj
        rw [List.getElem?_take_of_lt hj] at e2
        obtain ⟨y, hy2, t', rfl, ht'⟩ := pair_get pC e2
        refine ⟨rfl, _, rfl, t', _, 0, .str y.1, rfl, rfl, SqT.of (s1 _ _ (s38 _ _ ht')), atI_nat (j := 0) rfl, ?_⟩
        refine k1 _ _ (Same.refl _) ?_
        rw [List.getElem?_take_of_lt hj, hy2]
        rfl
      · rw [lt] at hj
        exact ⟨_, by rw [List.getElem?_take_of_lt hj, List.getElem?_eq_getElem (by omega)]; rfl⟩
      · have e3 := gather_map (cs.take i) fun y => V.str y.1
        have lt2 : (cs.take i).length = (ws.take i).length := by rw [List.length_take, List.length_take, lC]
        rw [lt2] at e3
        rw [e3] at e1
        have e : (cs.take i).map (fun y => V.str y.1) = ((cs.take i).map fun y => y.1).map V.str := by
          rw [List.map_map]
          rfl
        rw [e] at e1
        refine ⟨D, _, rfl, .inl (SqL.of e1), rfl, flat_strs _, _, rfl, ?_⟩
        rw [if_neg Bool.false_ne_true, inV_strs]
        exact h _ (s8.trans s1)
    · exact chainN _ _ _ (fun Q q => q) (fun Q q => ⟨_, rfl, q⟩) (fun Q q => ⟨_, _, rfl, rfl, ⟨by decide, by decide, by decide⟩, q⟩) (h _ (Same.refl _))
    · have s35 := s34.trans s5
      have hdrop : cs.drop i = x :: cs.drop (i + 1) := by
        obtain ⟨lt, e⟩ := List.getElem?_eq_some_iff.mp hx
        rw [List.drop_eq_getElem_cons lt, e]
      rw [hdrop] at hb
      have hb2 : (if (decide (x.1 ∈ (cs.take i).map fun c => c.1) || (!okName x.1 || !(decide (0 ≤ x.2) && decide (x.2 ≤ 999999999)))) = true then some i else badC ((cs.take i).map (fun c => c.1) ++ [x.1]) (i + 1) (cs.drop (i + 1))) = badC [] 0 cs := hb
      have eb : (!okName x.1 || (decide (x.1 ∈ (cs.take i).map fun c => c.1) || !(decide (0 ≤ x.2) && decide (x.2 < 10 ^ (9 : Int).toNat)))) = (decide (x.1 ∈ (cs.take i).map fun c => c.1) || (!okName x.1 || !(decide (0 ≤ x.2) && decide (x.2 ≤ 999999999)))) := by
        have t9 : (10 : Int) ^ (9 : Int).toNat = 1000000000 := by decide
        have : decide (x.2 < 10 ^ (9 : Int).toNat) = decide (x.2 ≤ 999999999) := decide_eq_decide.mpr (by rw [t9]; omega)
        rw [this, ← Bool.or_assoc, Bool.or_comm (!okName x.1), Bool.or_assoc]
      refine ite2 (fun qq => ?_) (fun qq => nx_of ?_)
      · rw [eb] at qq
        rw [if_pos qq] at hb2
        refine ⟨_, rfl, by show 2 ≤ sizeLine; decide, fun p hp => kk _ _ (s35.trans (same_upd hp)) ?_⟩
        unfold faultOf
        rw [if_neg few, ← hb2]
        exact ⟨p, rfl, upd_same⟩
      · rw [eb] at qq
        rw [if_neg qq] at hb2
        have take1 : cs.take (i + 1) = cs.take i ++ [x] := by rw [List.take_add_one, hx]; rfl
        refine ⟨_, _, _, _, _, _, rfl, s35, ?_⟩
        rw [take1, List.map_append]
        exact hb2
  · rintro σ H2 ⟨o2, o3, o4, o5, o6, o7, rfl, s2, hb⟩
    have goodC : badC [] 0 cs = none := by
      rw [← hb, lC, Int.toNat_natCast, List.drop_length]
      rfl
    have late := fun c hc => (badC_ok goodC c hc).2.1
    have fo : faultOf cs gs = match badG cs 0 0 gs with
      | some i => some (.going i)
      | none => none := by
      unfold faultOf
      rw [if_neg few, goodC]
    refine nx_of ?_
    refine ⟨_, rfl, Gm, _, rfl, .inl (SqL.of (s2 _ _ hG)), _, rfl, by omega, by rw [List.length_map]; omega, for_it walk_range (fun i σ H2 => ∃ o2 o3 o4 o5 o6 o7 e, σ = [some (.ref Cm), some (.ref Gm), o2, o3, o4, o5, o6, o7] ∧ Same H H2 ∧ badG cs e i (gs.drop i) = badG cs 0 0 gs ∧ (i = 0 → e = 0) ∧ (∀ j, i = j + 1 → ∃ g, gs[j]? = some g ∧ e = g + 1) ∧ i ≤ cs.length)
      ⟨_, _, _, _, _, _, 0, rfl, s2, rfl, fun _ => rfl, (fun j z => absurd z (by omega)), Nat.zero_le _⟩ (fun _ _ _ _ _ => trivial) ?_ ?_⟩
    · rintro i v σ H3' H3 hi ⟨o2, o3, o4, o5, o6, o7, e, rfl, s3, hb, e0, e1, il⟩ ⟨rfl, ev⟩
      have ev' : v = V.int (i : Int) := ev.trans (by show V.int (0 + (i : Int)) = _; rw [Int.zero_add])
      clear ev
      subst ev'
      have hi' : i < gs.length := by simpa using hi
      obtain ⟨g, hg⟩ : ∃ y, gs[i]? = some y := ⟨_, List.getElem?_eq_getElem hi'⟩
      have hgV : (gs.map V.int)[i]? = some (V.int g) := by rw [List.getElem?_map, hg]; rfl
      have hdrop : gs.drop i = g :: gs.drop (i + 1) := by
        obtain ⟨lt, e⟩ := List.getElem?_eq_some_iff.mp hg
        rw [List.drop_eq_getElem_cons lt, e]
      rw [hdrop] at hb
      have hb2 : (if (!(decide (e ≤ g) && decide (g ≤ 1000000000)) || decide ((cs.filter fun c => decide (c.2 < g)).length ≤ i)) = true then some i else badG cs (g + 1) (i + 1) (gs.drop (i + 1))) = badG cs 0 0 gs := hb
      refine name_at (asg_val (.int ((cs.filter fun c => decide (c.2 < g)).length : Nat)) (fun R h => ?_) fun H4 s4 => name_at ?_)
      · refine ⟨_, rfl, Cm, rfl, ⟨_, SqL.of (s3 _ _ hC)⟩, fun D hD => ?_⟩
        refine lc_gather (walk_list (xs := ws)) (fun i => (cs[i]?).bind fun c => if (fun c : Str × Int => decide (c.2 < g)) c = true then ws[i]? else none) hD (by rw [lC]; exact Nat.le_trans lc (by decide)) (fun H s => SqL.of (s _ _ (s3 _ _ hC))) (fun j v H5 H6 hj s5 vv R2 k1 => ?_) fun H5 s5 e5 => ?_
        · obtain ⟨rfl, ev⟩ := vv
          obtain ⟨c, hc, t, rfl, ht⟩ := pair_get pC ev
          have k3 := k1 _ (Same.refl _)
          rw [hc] at k3
          have k3' : R2 (if decide (c.2 < g) = true then ws[j]? else none) _ := k3
          rw [ev] at k3'
          have k4 : R2 (if decide (c.2 < g) = true then some (V.ref t) else none) _ := k3'
          refine ⟨rfl, _, rfl, t, _, 1, .int c.2, rfl, rfl, SqT.of (s5 _ _ (s3 _ _ ht)), atI_nat (j := 1) rfl, _, rfl, _, rfl, Gm, _, _, _, rfl, rfl, SqL.of (s5 _ _ (s3 _ _ hG)), atI_nat hgV, _, _, rfl, rfl, _, rfl, ?_⟩
          refine ite2 (fun q => ?_) (fun q => ?_)
          · rw [if_pos q] at k4
            exact ⟨_, rfl, k4⟩
          · rw [if_neg q] at k4
            exact k4
        · refine ⟨D, _, rfl, .inl (SqL.of e5), ?_⟩
          have el := gather_pick cs ws (fun c => decide (c.2 < g)) lC.symm cs.length (Nat.le_refl _)
          rw [List.take_length, ← lC] at el
          rw [el]
          exact h _ s5
      have s34 := s3.trans s4
      have nn0 : g < 0 → (cs.filter fun c => decide (c.2 < g)).length = 0 := fun z => by
        rw [List.length_eq_zero_iff, List.filter_eq_nil_iff]
        intro c hc
        have := late c hc
        simp
        omega
      have nle := List.length_filter_le (fun c : Str × Int => decide (c.2 < g)) cs
      generalize (cs.filter fun c => decide (c.2 < g)).length = n at *
      refine ifs_one (or_ans (decide (0 < i) && decide (g < e)) (decide (1000000000 < g) || decide (n < i + 1)) (fun R h => ?_) (fun H5 s5 _ R h => or_ans _ _ (fun R h => ?_) (fun H6 s6 _ R h => ?_) h) fun H5 s5 => ?_)
      · refine ⟨_, rfl, _, _, rfl, rfl, _, rfl, ite2 (fun q => ?_) (fun q => ?_)⟩
        · have q1 : 0 < i := by
            have := of_decide_eq_true q
            omega
          obtain ⟨j, rfl⟩ : ∃ j, i = j + 1 := ⟨i - 1, by omega⟩
          obtain ⟨gp, hgp, rfl⟩ := e1 j rfl
          have hgpV : (gs.map V.int)[j]? = some (V.int gp) := by rw [List.getElem?_map, hgp]; rfl
          have em : (if (0 : Int) > ((j + 1 : Nat) : Int) - 1 then (0 : Int) else ((j + 1 : Nat) : Int) - 1) = (j : Int) := by
            rw [if_neg (by omega)]
            omega
          refine ⟨_, rfl, _, rfl, Gm, _, _, _, rfl, rfl, SqL.of (s34 _ _ hG), atI_nat hgV, _, rfl, _, rfl, _, _, rfl, rfl, _, _, rfl, Gm, _, _, _, rfl, rfl, SqL.of (s34 _ _ hG), (by rw [em]; exact atI_nat hgpV), _, _, rfl, rfl, _, rfl, ?_⟩
          have := h _ (Same.refl _)
          rw [show (decide (0 < j + 1) && decide (g < gp + 1)) = decide (g ≤ gp) by rw [decide_eq_true (Nat.succ_pos j), Bool.true_and]; exact decide_eq_decide.mpr (by omega)] at this
          exact this
        · have := h _ (Same.refl _)
          rw [show decide (0 < i) = false from decide_eq_false fun z => q (decide_eq_true (by omega)), Bool.false_and] at this
          exact this
      · refine ⟨_, rfl, _, rfl, Gm, _, _, _, rfl, rfl, SqL.of ((s34.trans s5) _ _ hG), atI_nat hgV, _, _, rfl, rfl, ⟨by decide, by decide, by decide⟩, _, _, rfl, rfl, _, rfl, ?_⟩
        have := h _ (Same.refl _)
        rw [show decide ((1000000000 : Int) < g) = decide (10 ^ (9 : Int).toNat < g) by rw [show (10 : Int) ^ (9 : Int).toNat = 1000000000 by decide]] at this
        exact this
      · refine ⟨_, rfl, _, rfl, _, _, rfl, rfl, _, _, rfl, rfl, _, rfl, ?_⟩
        have := h _ (Same.refl _)
        rw [show decide (n < i + 1) = decide (((n : Nat) : Int) < ((i : Nat) : Int) + 1) from decide_eq_decide.mpr (by omega)] at this
        exact this
      · have eb : (decide (0 < i) && decide (g < e) || (decide (1000000000 < g) || decide (n < i + 1))) = (!(decide (e ≤ g) && decide (g ≤ 1000000000)) || decide (n ≤ i)) := by
          rw [Bool.eq_iff_iff]
          simp only [Bool.or_eq_true, Bool.and_eq_true, Bool.not_eq_true', Bool.and_eq_false_iff, decide_eq_true_eq, decide_eq_false_iff_not]
          by_cases i0 : i = 0
          · have := e0 i0
            by_cases g0 : g < 0
            · have := nn0 g0
              omega
            · omega
          · omega
        have s35 := s34.trans s5
        refine ite2 (fun qq => ?_) (fun qq => nx_of ?_)
        · rw [eb] at qq
          rw [if_pos qq] at hb2
          refine ⟨_, rfl, by show 2 ≤ sizeLine; decide, fun p hp => kk _ _ (s35.trans (same_upd hp)) ?_⟩
          rw [fo, ← hb2]
          exact ⟨p, rfl, upd_same⟩
        · rw [eb] at qq
          rw [if_neg qq] at hb2
          refine ⟨_, _, _, _, _, _, g + 1, rfl, s35, hb2, fun z => absurd z (by omega), (fun j z => ⟨g, by rw [← show i = j by omega]; exact hg, rfl⟩), ?_⟩
          have : ¬ n ≤ i := fun z => qq (by rw [decide_eq_true z, Bool.or_true])
          omega
    · rintro σ H4 ⟨o2, o3, o4, o5, o6, o7, e, rfl, s4, hb, _, _, il⟩
      have en : (((gs.map V.int).length : Nat) : Int).toNat = gs.length := by rw [Int.toNat_natCast, List.length_map]
      rw [en] at il hb
      rw [List.drop_length] at hb
      have hb2 : (if gs.length < cs.length then some gs.length else none) = badG cs 0 0 gs := hb
      refine nx_of ?_
      refine ⟨_, rfl, Gm, _, rfl, .inl (SqL.of (s4 _ _ hG)), _, rfl, Cm, _, rfl, .inl (SqL.of (s4 _ _ hC)), rfl, _, rfl, ite2 (fun q => ?_) (fun q => nx_of ?_)⟩
      · have ne : gs.length ≠ cs.length := fun z => by
          rw [List.length_map, lC, z] at q
          simp at q
        have lt : gs.length < cs.length := by omega
        rw [if_pos lt] at hb2
        refine ⟨_, rfl, Gm, _, rfl, .inl (SqL.of (s4 _ _ hG)), _, rfl, Cm, _, rfl, .inl (SqL.of (s4 _ _ hC)), _, _, rfl, by show 2 ≤ sizeLine; decide, fun p hp => kk _ _ (s4.trans (same_upd hp)) ?_⟩
        rw [fo, ← hb2]
        refine ⟨p, rfl, ?_⟩
        rw [upd_same]
        have em : (if ((ws.length : Nat) : Int) < (((gs.map V.int).length : Nat) : Int) then ((ws.length : Nat) : Int) else (((gs.map V.int).length : Nat) : Int)) = ((gs.length : Nat) : Int) := by
          rw [List.length_map, lC, if_neg (by omega)]
        rw [em]
        rfl
      · have ee : gs.length = cs.length := by
          rw [List.length_map, lC] at q
          simp at q
          omega
        rw [if_neg (by omega)] at hb2
        exact kk .non H4 s4 (by rw [fo, ← hb2]; rfl)
end
end Go
set_option Elab.async false
set_option linter.all false
set_option maxRecDepth 100000
set_option maxHeartbeats 4000000
set_option autoImplicit false
/-! _law_outcome: InvalidGoings, InvalidStay, TooManyGuests. -/
namespace Go
open PySem L2 Sho NdefX Shg Sh1 Sh4
/-- what the three clauses need -/
structure Errs9 (K : PySem.W.Frag) (mg : Str → Option Value) (CG CI CT : Addr) : Prop where
  gG : mg "InvalidGoings" = some (.ref CG)
  gI : mg "InvalidStay" = some (.ref CI)
  gT : mg "TooManyGuests" = some (.ref CT)
  xG : XfC K CG
  xI : XfC K CI
  nG : PySem.W.findIn K (.ref CG) "index" = some none
  nI : PySem.W.findIn K (.ref CI) "index" = some none
  gg : PySem.W.exmOne K (.ref CG) (.ref CG) = some true
  ig : PySem.W.exmOne K (.ref CI) (.ref CG) = some false
  ii : PySem.W.exmOne K (.ref CI) (.ref CI) = some true
  tg : PySem.W.exmOne K (.ref CT) (.ref CG) = some false
  ti : PySem.W.exmOne K (.ref CT) (.ref CI) = some false
  tt : PySem.W.exmOne K (.ref CT) (.ref CT) = some true
/-- what is answered of an exception -/
def Out9 (CG CI CT : Addr) (Q : VK) : XK := fun cls d H1 =>
  (cls = .ref CG ∧ ∃ (dd : Addr) (i : Nat), d = some dd ∧ H1 dd = some (.xd [(("index" : Str), .int (i : Nat))]) ∧ ∀ p H2, Same H1 H2 → H2 p = some (.tup (Fo.going i).vs) → Q (.ref p) H2) ∨
  (cls = .ref CI ∧ ∃ (dd : Addr) (i : Nat), d = some dd ∧ H1 dd = some (.xd [(("index" : Str), .int (i : Nat))]) ∧ ∀ p H2, Same H1 H2 → H2 p = some (.tup (Fo.stay i).vs) → Q (.ref p) H2) ∨
  (cls = .ref CT ∧ ∀ p H2, Same H1 H2 → H2 p = some (.tup Fo.many.vs) → Q (.ref p) H2)
section
variable {P : Program} {w : World} {K : PySem.W.Frag} {mg : Str → Option Value} {base : Heap}
theorem scOut : FnScope ["_law_work", "e"] ["_law_work"] (defScope sOut) := ⟨rfl, rfl, rfl, by decide +kernel, rfl, by decide +kernel, by decide +kernel⟩
theorem outcome_run {g CG CI CT : Addr} {fd : FuncData} (F : Fun K "_law_outcome" "_law_outcome" sOut g fd) (bF : Binds K fd ["_law_work"] []) (EE : Errs9 K mg CG CI CT)
    {cl : List (Str × Addr)} {fr : List Str} {ws : List (Option V)} {sp : SpL} {k : Nat} {A : Around} {outer : List Env} {s : Shared} {H : Hp} {f : Addr} {Q : VK} {E : XK} (hr : Room (k + 1) A) (e0 : Env0 P w K mg base A outer s H)
    (C : CellsAt cl fr ws s.heap H) (hact : Act P w K mg base (L2.CX P w) k cl fr sp f H) (q : ∀ E' : XK, (∀ cls d H1, Out9 CG CI CT Q cls d H1 → E' cls d H1) → sp ws H Q E') :
    codeAny (model P w) A (.call (.ref g) ⟨[.ref f], []⟩) (CR (L2.CX P w) outer P w H s Q E) s := by
  obtain ⟨oc, od, kV, doc, pm, an, cdv, ct, osl, rfl, lk, hcd⟩ := F.ex
  have KX : K.In s.heap := e0.mod.kin.keeps fun b o e => (e0.bs b o e).1
  refine LamX.run_ofS (N := ["_law_work", "e"]) (ps := ["_law_work"]) (us := [.ref f]) (vs := [.ref f]) lk hcd scOut hr e0 (bF s [.ref f] KX rfl) (.cons rfl .nil) rfl fun hr' => ?_
  have nd := scOut.nd
  refine ⟨_, pss_one (ps_try (Wout := fun cls d _ H' => E cls d H') (tb := fun W => tRet (tAct P w K mg base (L2.CX P w) k 0 cl fr ws fun σ => WE W σ)) rfl rfl nd (takes_of rfl rfl rfl rfl) (fun W pn xe tk po => pss_one (ps_ret (pe_act (i := 0) (CX := L2.CX P w) (k := k) (E := fun σ => WE W σ) hr' C (fun _ _ _ => List.not_mem_nil) (fun σ => passAt tk σ) rfl (.inl rfl)))) (l := [⟨.ref CG, some 1, _⟩, ⟨.ref CI, some 1, _⟩, ⟨.ref CT, none, _⟩])
    (.cons ⟨rfl, by decide, .inl EE.gG⟩ ⟨rfl, rfl⟩ (fun a oe cls d pn hz hf => pss_one (ps_ret (pe_tup (pa_cons pe_str (pa_cons (pe_xf EE.xG EE.nG hz hf (pv 1)) pa_nil)))))
      (.cons ⟨rfl, by decide, .inl EE.gI⟩ ⟨rfl, rfl⟩ (fun a oe cls d pn hz hf => pss_one (ps_ret (pe_tup (pa_cons pe_str (pa_cons (pe_xf EE.xI EE.nI hz hf (pv 1)) pa_nil)))))
        (.cons ⟨rfl, by decide, .inl EE.gT⟩ trivial (fun a oe cls d pn hz hf => pss_one (ps_ret (pe_tup (pa_cons pe_str pa_nil)))) .nil)))), ?_⟩
  refine ⟨f, sp, rfl, hact, q _ fun cls d H1 o => ?_⟩
  rcases o with ⟨rfl, dd, i, rfl, hd, k1⟩ | ⟨rfl, dd, i, rfl, hd, k1⟩ | ⟨rfl, k1⟩
  · refine ⟨true, EE.gg, fun _ a ha => ?_, fun z => nomatch z⟩
    refine ⟨_, rfl, rfl, rfl, dd, _, .int (i : Nat), rfl, hd, rfl, by show 2 ≤ sizeLine; decide, fun p hp => ?_⟩
    exact k1 p _ (same_upd hp) upd_same
  · refine ⟨false, EE.ig, ?_, ?_⟩
    · intro z
      cases z
    intro _
    refine ⟨true, EE.ii, ?_, ?_⟩
    · intro _ a ha
      refine ⟨_, rfl, rfl, rfl, dd, _, .int (i : Nat), rfl, hd, rfl, by show 2 ≤ sizeLine; decide, fun p hp => ?_⟩
      exact k1 p _ (same_upd hp) upd_same
    · intro z
      cases z
  · refine ⟨false, EE.tg, ?_, ?_⟩
    · intro z
      cases z
    intro _
    refine ⟨false, EE.ti, ?_, ?_⟩
    · intro z
      cases z
    intro _
    refine ⟨true, EE.tt, ?_, ?_⟩
    · intro _ a ha
      exact ⟨by show 1 ≤ sizeLine; decide, fun p hp => k1 p _ (same_upd hp) upd_same⟩
    · intro z
      cases z
end
end Go
set_option Elab.async false
set_option linter.all false
set_option maxRecDepth 100000
set_option maxHeartbeats 2000000
namespace Sh1
open PySem L2 Sho NdefX
/-! ### draws: the state is the list at l -/
structure DrawSt (K : PySem.W.Frag) (H : Hp) (l a : Addr) (ns : List Int) : Prop where
  ex : ∃ pos seed rest : Int, H l = some (.lst [.ref a, .int pos, .int seed, .int rest]) ∧ 0 ≤ pos ∧ (0 ≤ seed ∧ seed < 2147483647) ∧ 0 ≤ rest
  sc : SqL K H a (ns.map V.int)
  len : ns.length ≤ 63
/-- all but the object at l stays -/
def But (l : Addr) (H H' : Hp) : Prop := ∀ b o, H b = some o → b ≠ l → H' b = some o
theorem But.trans {l : Addr} {H H1 H2 : Hp} (a : But l H H1) (b : But l H1 H2) : But l H H2 := fun c o e n => b c o (a c o e n) n
theorem But.of {l : Addr} {H H' : Hp} (s : Same H H') : But l H H' := fun b o e _ => s b o e
theorem sql_but {K : PySem.W.Frag} {H H' : Hp} {l a : Addr} {ns : List Int} {r : List V} (hl : H l = some (.lst (.ref a :: r))) (h : SqL K H a (ns.map V.int)) (s : But l H H') : SqL K H' a (ns.map V.int) := by
  have ne : ∀ u, H a = some u → (∀ ys, u = .lst (V.ref a :: ys) → False) → a ≠ l := fun u e k z => by
    rw [z, hl] at e
    exact k r (by rw [← Option.some.inj e, z])
  rcases h with (h | ⟨o, h⟩) | h
  · refine .inl (.inl (s _ _ h (ne _ h fun ys e => ?_)))
    injection e with e
    cases ns with
    | nil => cases e
    | cons n ns => cases e
  · exact .inl (.inr ⟨o, s _ _ h (ne _ h fun ys e => by cases e)⟩)
  · exact .inr h
section
variable {P : Program} {w : World} {K : PySem.W.Frag} {mg : Str → Option Value} {base : Heap}
def spStart (K : PySem.W.Frag) : Sp := fun vs H Q _ => ∃ (a : Addr) (ns : List Int), vs = [.ref a] ∧ SqL K H a (ns.map V.int) ∧ ns.length ≤ 63 ∧ ∀ H' l, Same H H' → H l = none → DrawSt K H' l a ns → Q (.ref l) H'
theorem scStart : FnScope ["_law_script", "_law_mixed", "_law_cell"] ["_law_script"] (defScope sStart) := ⟨rfl, rfl, rfl, by decide +kernel, rfl, by decide +kernel, by decide +kernel⟩
theorem ok_start {f : Addr} {fd : FuncData} (F : Fun K "_law_start" "_law_start" sStart f fd) : FnOk P w K mg base CX0 1 f fd ["_law_script"] (spStart K) := by
  refine F.ok scStart (fun vs H Q E h => ?_) (fun cdv A outer s H vs Q E hr h => ?_)
  · obtain ⟨a, ns, rfl, _⟩ := h
    rfl
  · obtain ⟨a, ns, rfl, ha, hlen, k⟩ := h
    have nd := scStart.nd
    refine ⟨_, pss_cons (ps_set (i := 1) nd rfl (Or.inl rfl) pe_int) (pss_cons (ps_for PassesOwn.never rfl (pi_list (pv 0)) (pg_name (i := 2) nd rfl (Or.inl rfl))
        (pss_one (ps_set (i := 1) nd rfl (Or.inl rfl) (pe_op op_mod (pe_op op_add (pe_op op_add (pe_op op_mul (pv 1) pe_int) (pv 2)) pe_int) pe_int))))
      (pss_one (ps_ret (pe_lst (pa_cons (pv 0) (pa_cons pe_int (pa_cons (pv 1) (pa_cons pe_int pa_nil)))))))), ?_⟩
    refine ⟨_, rfl, a, rfl, ⟨_, ha⟩, for_it walk_list (fun i σ H2 => ∃ (m : Int) (o : Option V), σ = [some (.ref a), some (.int m), o] ∧ H2 = H ∧ 0 ≤ m ∧ m < 2147483647) ⟨1, none, rfl, rfl, by decide, by decide⟩
      (fun i σ H2 _ ⟨_, _, _, e, _⟩ => by rw [e]; exact ha) ?_ ?_⟩
    · rintro i y σ H2 H3 hi ⟨m, o, rfl, rfl, m0, m1⟩ ⟨rfl, e2⟩
      obtain ⟨c, rfl⟩ : ∃ c, y = V.int c := by
        rw [List.getElem?_map] at e2
        cases e : ns[i]? with
        | none =>
          rw [e] at e2
          cases e2
        | some c =>
          rw [e] at e2
          exact ⟨c, (Option.some.inj e2).symm⟩
      refine ⟨_, rfl, _, _, rfl, rfl, .inr ⟨by decide, by decide⟩, _, rfl, _, _, rfl, rfl, _, _, rfl, rfl, _, _, rfl, rfl, (by show (0 : Int) < 2147483647; decide), ?_⟩
      exact ⟨_, _, rfl, rfl, Int.emod_nonneg _ (by decide), Int.emod_lt_of_pos _ (by decide)⟩
    · rintro σ H2 ⟨m, o, rfl, rfl, m0, m1⟩
      refine ⟨_, rfl, _, rfl, by show 4 ≤ sizeLine; decide, fun l hl => ?_⟩
      have s1 : Same H2 (upd H2 l (.lst [.ref a, .int 0, .int m, .int 0])) := fun b o e => by rw [upd_ne (ne_of_none e hl)]; exact e
      exact k _ l s1 hl ⟨⟨0, m, 0, upd_same, by decide, ⟨m0, m1⟩, by decide⟩, s1.seq ha, hlen⟩
def spDrawn (K : PySem.W.Frag) : Sp := fun vs H Q _ => ∃ (l a : Addr) (ns : List Int) (n : Int), vs = [.ref l, .int n] ∧ DrawSt K H l a ns ∧ 0 < n ∧ n < 1073741824 ∧ ∀ (r : Int) H', 0 ≤ r → r < n → But l H H' → DrawSt K H' l a ns → Q (.int r) H'
theorem scDrawn : FnScope ["_law_state", "_law_count", "_law_result", "_law_cell"] ["_law_state", "_law_count"] (defScope sDrawn) := ⟨rfl, rfl, rfl, by decide +kernel, rfl, by decide +kernel, by decide +kernel⟩
theorem ok_drawn {f : Addr} {fd : FuncData} (F : Fun K "_law_drawn" "_law_drawn" sDrawn f fd) (B : Blt mg) : FnOk P w K mg base CX0 1 f fd ["_law_state", "_law_count"] (spDrawn K) := by
  refine F.ok scDrawn (fun vs H Q E h => ?_) (fun cdv A outer s H vs Q E hr h => ?_)
  · obtain ⟨l, a, ns, n, rfl, _⟩ := h
    rfl
  · obtain ⟨l, a, ns, n, rfl, ⟨⟨pos, seed, rest, hl, p0, ⟨s0, s1⟩, r0⟩, hsc, hlen⟩, n0, n1, k⟩ := h
    have nd := scDrawn.nd
    refine ⟨_, pss_cons (ps_if (pt_cmpR op_gt (pe_ix ix_list (pv 0) pe_int (fun _ _ => rfl)) pe_int (nomark _))
        (pss_cons (ps_set (i := 2) nd rfl (Or.inl rfl) (pe_op op_mod (pe_ix ix_list (pv 0) pe_int (fun _ _ => rfl)) (pv 1)))
          (pss_cons (ps_asg (pe_op op_fdiv (pe_ix ix_list (pv 0) pe_int (fun _ _ => rfl)) (pv 1)) (pg_sub (pv 0) pe_int set_list))
          (pss_one (ps_ret (pv 2))))) pss_nil)
      (pss_cons (ps_asg (pe_op op_add (pe_ix ix_list (pv 0) pe_int (fun _ _ => rfl)) pe_int) (pg_sub (pv 0) pe_int set_list))
      (pss_cons (ps_if (pt_cmpR op_le (pe_ix ix_list (pv 0) pe_int (fun _ _ => rfl)) (pe_callB call_len_seq (by rfl) B.len PySem.boot_len (pa_cons (pe_ix ix_list (pv 0) pe_int (fun _ _ => rfl)) pa_nil)) (nomark _))
        (pss_cons (ps_set (i := 3) nd rfl (Or.inl rfl) (pe_ix ix_list (pe_ix ix_list (pv 0) pe_int (fun _ _ => rfl)) (pe_op op_sub (pe_ix ix_list (pv 0) pe_int (fun _ _ => rfl)) pe_int) (fun _ _ => rfl)))
          (pss_cons (ps_asg (pe_ifExp (pt_cmpR op_ge (pv 3) (pe_op op_pow pe_int pe_int) (nomark _)) (pe_op op_fdiv (pv 3) (pv 1)) pe_int) (pg_sub (pv 0) pe_int set_list))
          (pss_one (ps_ret (pe_op op_mod (pv 3) (pv 1)))))) pss_nil)
      (pss_cons (ps_asg (pe_op op_mod (pe_op op_add (pe_op op_mul (pe_ix ix_list (pv 0) pe_int (fun _ _ => rfl)) pe_int) pe_int) pe_int) (pg_sub (pv 0) pe_int set_list))
      (pss_one (ps_ret (pe_op op_mod (pe_op op_fdiv (pe_ix ix_list (pv 0) pe_int (fun _ _ => rfl)) pe_int) (pv 1))))))), ?_⟩
    have upBut : ∀ {H1 : Hp} {o : HO}, But l H1 (upd H1 l o) := fun {H1 o} b u e nb => by rw [upd_ne nb]; exact e
    have fin : ∀ (r p' s' r' : Int) (H1 : Hp), 0 ≤ r → r < n → But l H H1 → H1 l = some (.lst [.ref a, .int p', .int s', .int r']) → 0 ≤ p' → 0 ≤ s' → s' < 2147483647 → 0 ≤ r' → Q (.int r) H1 := fun r p' s' r' H1 a1 a2 bu e b1 b2 b3 b4 =>
      k r H1 a1 a2 bu ⟨⟨p', s', r', e, b1, ⟨b2, b3⟩, b4⟩, sql_but hl hsc bu, hlen⟩
    refine ⟨_, rfl, l, _, 3, .int rest, rfl, rfl, SqL.of hl, atI_nat (j := 3) rfl, _, _, rfl, rfl, _, rfl, ?_⟩
    refine ite2 (fun h1 => ?_) (fun h1 => ?_)
    · refine ⟨_, rfl, l, _, 3, .int rest, rfl, rfl, SqL.of hl, atI_nat (j := 3) rfl, _, rfl, _, _, rfl, rfl, n0, _, rfl, l, _, 3, .int rest, rfl, rfl, SqL.of hl, atI_nat (j := 3) rfl, _, rfl, _, _, rfl, rfl, ⟨n0, n1⟩, _, rfl, l, _, 3, 3, rfl, rfl, hl, rfl, _, rfl, ?_⟩
      exact fin _ pos seed (rest / n) _ (Int.emod_nonneg _ (by omega)) (Int.emod_lt_of_pos _ n0) upBut upd_same p0 s0 s1 (Int.ediv_nonneg r0 (by omega))
    · refine ⟨_, rfl, l, _, 1, .int pos, rfl, rfl, SqL.of hl, atI_nat (j := 1) rfl, _, _, rfl, rfl, _, rfl, l, _, 1, 1, rfl, rfl, hl, rfl, ?_⟩
      generalize hH1 : upd H l (.lst ([V.ref a, .int pos, .int seed, .int rest].set 1 (.int (pos + 1)))) = H1
      have hl1 : H1 l = some (.lst [.ref a, .int (pos + 1), .int seed, .int rest]) := by rw [← hH1]; exact upd_same
      have b1 : But l H H1 := by rw [← hH1]; exact upBut
      have sc1 := sql_but hl hsc b1
      refine ⟨_, rfl, l, _, 1, .int (pos + 1), rfl, rfl, SqL.of hl1, atI_nat (j := 1) rfl, _, rfl, l, _, 0, .ref a, rfl, rfl, SqL.of hl1, atI_nat (j := 0) rfl, a, _, rfl, .inl sc1, _, _, rfl, rfl, _, rfl, ?_⟩
      refine ite2 (fun h2 => ?_) (fun h2 => ?_)
      · have h2' : pos + 1 ≤ ((ns.map V.int).length : Nat) := of_decide_eq_true h2
        rw [List.length_map] at h2'
        have lt : pos.toNat < ns.length := by omega
        obtain ⟨c, hc⟩ : ∃ c, ns[pos.toNat]? = some c := ⟨_, List.getElem?_eq_getElem lt⟩
        have hci : atI (ns.map V.int) (pos + 1 - 1) = some (.int c) := by
          have e : pos + 1 - 1 = ((pos.toNat : Nat) : Int) := by omega
          rw [e]
          refine atI_nat ?_
          rw [List.getElem?_map, hc]
          rfl
        refine ⟨_, rfl, l, _, 0, .ref a, rfl, rfl, SqL.of hl1, atI_nat (j := 0) rfl, _, rfl, l, _, 1, .int (pos + 1), rfl, rfl, SqL.of hl1, atI_nat (j := 1) rfl, _, _, rfl, rfl, a, _, _, .int c, rfl, rfl, sc1, hci, ?_⟩
        refine ⟨_, rfl, _, _, rfl, rfl, ⟨by decide, by decide, by decide⟩, _, _, rfl, rfl, _, rfl, ?_⟩
        have last : ∀ r' : Int, 0 ≤ r' → Q (.int (c % n)) (upd H1 l (.lst ([V.ref a, .int (pos + 1), .int seed, .int rest].set 3 (.int r')))) := fun r' hr' =>
          fin _ (pos + 1) seed r' _ (Int.emod_nonneg _ (by omega)) (Int.emod_lt_of_pos _ n0) (b1.trans upBut) upd_same (by omega) s0 s1 hr'
        refine ite2 (fun h3 => ?_) (fun h3 => ?_)
        · have c0 : 0 ≤ c := by
            have h3' := of_decide_eq_true h3
            have : (0 : Int) ≤ 10 ^ (Int.toNat 18) := by decide
            omega
          refine ⟨_, rfl, _, rfl, _, _, rfl, rfl, ⟨n0, n1⟩, _, rfl, l, _, 3, 3, rfl, rfl, hl1, rfl, _, rfl, _, rfl, _, _, rfl, rfl, n0, ?_⟩
          exact last _ (Int.ediv_nonneg c0 (by omega))
        · refine ⟨_, rfl, l, _, 3, 3, rfl, rfl, hl1, rfl, _, rfl, _, rfl, _, _, rfl, rfl, n0, ?_⟩
          exact last 0 (by decide)
      · refine ⟨_, rfl, l, _, 2, .int seed, rfl, rfl, SqL.of hl1, atI_nat (j := 2) rfl, _, _, rfl, rfl, .inr ⟨by decide, by decide⟩, _, _, rfl, rfl, _, _, rfl, rfl, (by show (0 : Int) < 2147483647; decide), _, rfl, l, _, 2, 2, rfl, rfl, hl1, rfl, ?_⟩
        refine ⟨_, rfl, l, _, 2, .int ((seed * 48271 + 11) % 2147483647), rfl, rfl, SqL.of upd_same, atI_nat (j := 2) rfl, _, _, rfl, rfl, ⟨by decide, by decide⟩, _, rfl, _, _, rfl, rfl, n0, ?_⟩
        exact fin _ (pos + 1) _ rest _ (Int.emod_nonneg _ (by omega)) (Int.emod_lt_of_pos _ n0) (b1.trans upBut) upd_same (by omega) (Int.emod_nonneg _ (by decide)) (Int.emod_lt_of_pos _ (by decide)) r0
end
end Sh1
set_option Elab.async false
set_option linter.all false
set_option maxRecDepth 100000
set_option maxHeartbeats 2000000
set_option autoImplicit false
/-! The state of the draws (K1j0) with the tables of code, through what changes beside it. -/
namespace Dw
open PySem L2 Sho NdefX Shg Sh1
structure St (K : PySem.W.Frag) (T : List (Addr × Str)) (l a : Addr) (ns : List Int) (H : Hp) : Prop where
  d : DrawSt K H l a ns
  t : LamX.Tabs T H
section
variable {K : PySem.W.Frag} {T : List (Addr × Str)} {l a : Addr} {ns : List Int} {H H' H0 H1 : Hp}
theorem ne_at {b c : Addr} {H : Hp} {o u : HO} (h1 : H b = some o) (h2 : H c = some u) (n : u ≠ o) : c ≠ b := fun z => by
  rw [z, h1] at h2
  exact n (Option.some.inj h2).symm
theorem tabs_b {l : Addr} {H H' : Hp} {zs : List V} {T : List (Addr × Str)} (hl : H l = some (.lst zs)) (e : But l H H') (t : LamX.Tabs T H) : LamX.Tabs T H' := fun p hp => by
  obtain ⟨qs, q1, q2, q3⟩ := t p hp
  refine ⟨qs, e _ _ q1 (ne_at hl q1 fun z => nomatch z), q2, fun p' cv h => ?_⟩
  obtain ⟨c, e1, e2⟩ := q3 p' cv h
  exact ⟨c, e1, e _ _ e2 (ne_at hl e2 fun z => nomatch z)⟩
theorem sql_e {a : Addr} {xs : List V} (e : LamX.ExtN H H') (h : SqL K H a xs) : SqL K H' a xs := by
  rcases h with (h | ⟨o, h⟩) | h
  · exact .inl (.inl (e _ _ h fun _ z => nomatch z))
  · exact .inl (.inr ⟨o, e _ _ h fun _ z => nomatch z⟩)
  · exact .inr h
theorem draw_ext (d : DrawSt K H l a ns) (e : LamX.ExtN H H') : DrawSt K H' l a ns := by
  obtain ⟨⟨p, s, r, h, k⟩, sc, len⟩ := d
  exact ⟨⟨p, s, r, e _ _ h (fun _ z => nomatch z), k⟩, sql_e e sc, len⟩
theorem draw_at (d : DrawSt K H l a ns) : ∃ zs, H l = some (.lst zs) := by
  obtain ⟨⟨_, _, _, h, _⟩, _, _⟩ := d
  exact ⟨_, h⟩
theorem St.at (s : St K T l a ns H) : ∃ zs, H l = some (.lst zs) := draw_at s.d
theorem St.grows (s : St K T l a ns H) (g : Grows T H H') : St K T l a ns H' := ⟨draw_ext s.d g.ext, g.tab s.t⟩
theorem St.same (s : St K T l a ns H) (e : Same H H') : St K T l a ns H' := ⟨draw_ext s.d (LamX.ExtN.of e), LamX.Tabs.ext s.t e⟩
theorem St.draw (s : St K T l a ns H) (b : But l H H') (d : DrawSt K H' l a ns) : St K T l a ns H' := by
  obtain ⟨zs, hl⟩ := s.at
  exact ⟨d, tabs_b hl b s.t⟩
theorem St.ne (s : St K T l a ns H) {p : Addr} (h : H p = none) : p ≠ l := by
  obtain ⟨zs, hl⟩ := s.at
  exact fun z => by rw [z, hl] at h; cases h
theorem but_upd0 {p : Addr} {o : HO} (b : But l H0 H1) (h : H0 p = none) : But l H0 (upd H1 p o) := fun c u e n => by
  rw [upd_ne (ne_of_none e h)]
  exact b c u e n
theorem but_same (b : But l H0 H1) (s : Same H1 H') : But l H0 H' := b.trans (But.of s)
theorem draw_upd {p : Addr} {o : HO} (s : St K T l a ns H0) (b : But l H0 H1) (d : DrawSt K H1 l a ns) (h : H0 p = none) : DrawSt K (upd H1 p o) l a ns := by
  obtain ⟨⟨p', s', r, e, k⟩, sc, len⟩ := id d
  obtain ⟨⟨_, _, _, e0, _⟩, sc0, _⟩ := s.d
  exact ⟨⟨p', s', r, by rw [upd_ne (Ne.symm (s.ne h))]; exact e, k⟩, sql_but e0 sc0 (but_upd0 b h), len⟩
theorem St.to {p : Addr} {o : HO} (s : St K T l a ns H0) (b : But l H0 H1) (d : DrawSt K H1 l a ns) (h : H0 p = none) : St K T l a ns (upd H1 p o) :=
  s.draw (but_upd0 b h) (draw_upd s b d h)
theorem at_mem {xs : List V} {r : Int} (h0 : 0 ≤ r) (h1 : r < xs.length) : ∃ z, z ∈ xs ∧ atI xs r = some z := by
  obtain ⟨k, rfl⟩ : ∃ k : Nat, r = k := ⟨r.toNat, by omega⟩
  have lt : k < xs.length := by omega
  exact ⟨xs[k], List.getElem_mem lt, atI_nat (List.getElem?_eq_getElem lt)⟩
theorem ifs_join {c : TT} {A B u : TS} {D : Ends} {σ : L2.St} {H : Hp} (P : L2.St → Hp → Prop) (h1 : ∀ N : L2.St → Hp → Prop, (∀ σ' H', P σ' H' → N σ' H') → c σ H fun b H1 => if b = true then A { D with nx := N } σ H1 else B { D with nx := N } σ H1) (h2 : ∀ σ' H', P σ' H' → u D σ' H') : tSeq (tIfS c A B) u D σ H := h1 _ h2
end
end Dw
namespace Shg
open PySem
theorem pair_take {α β : Type} {R : α → β → Prop} : ∀ {as : List α} {bs : List β} (k : Nat), PySem.Paired R as bs → PySem.Paired R (as.take k) (bs.take k)
  | _, _, k, .nil => by rw [List.take_nil, List.take_nil]; exact .nil
  | _, _, 0, .cons _ _ => .nil
  | _, _, k + 1, .cons h r => .cons h (pair_take k r)
theorem pair_drop {α β : Type} {R : α → β → Prop} : ∀ {as : List α} {bs : List β} (k : Nat), PySem.Paired R as bs → PySem.Paired R (as.drop k) (bs.drop k)
  | _, _, k, .nil => by rw [List.drop_nil, List.drop_nil]; exact .nil
  | _, _, 0, .cons h r => .cons h r
  | _, _, k + 1, .cons _ r => pair_drop k r
end Shg
set_option Elab.async false
set_option linter.all false
set_option maxRecDepth 100000
/-! One lemma for the loops of all comprehensions. -/
namespace Shg
open PySem L2
theorem loop_any {J : It} {n : Nat} {G : Hp → Prop} {Y : Nat → Hp → V → Hp → Prop} (w : Walk J n G Y) {H0 : Hp} {Qd : Hp → Prop} {B : V → Hp → (Hp → Prop) → Prop} (Pv : Nat → Hp → Prop) (h0 : Pv 0 H0) (hG : ∀ i H, i ≤ n → Pv i H → G H)
    (hs : ∀ i x H H', i < n → Pv i H → Y i H x H' → B x H' (Pv (i + 1))) (hd : ∀ H, Pv n H → Qd H) :
    ∃ W : Nat → Nat → Hp → Prop, (∃ m, W 0 m H0) ∧ ∀ i m H, W i m H →
      (J.stop i H ∧ Qd H) ∨ (J.go i H ∧ ∃ Nx : Hp → Prop, (∀ H', Nx H' → ∃ m', m' < m ∧ W (i + 1) m' H') ∧ ∀ x H', J.yld i H x H' → B x H' Nx) := by
  refine ⟨fun i m H => m = n - i ∧ i ≤ n ∧ Pv i H, ⟨n, (Nat.sub_zero n).symm, Nat.zero_le _, h0⟩, ?_⟩
  rintro i m H ⟨rfl, hi, p⟩
  have q := hG i H hi p
  rcases Nat.lt_or_ge i n with hlt | hge
  · exact .inr ⟨w.goes i H hlt q, Pv (i + 1), fun H' p' => ⟨n - (i + 1), by omega, rfl, hlt, p'⟩, fun x H' y => hs i x H H' hlt p (w.yields i H x H' hlt q y)⟩
  · obtain rfl : i = n := by omega
    exact .inl ⟨w.stops H q, hd H p⟩
end Shg
set_option Elab.async false
set_option linter.all false
set_option maxRecDepth 100000
set_option maxHeartbeats 8000000
set_option autoImplicit false
/-! The law of k09. -/
namespace Go
open PySem L2 Sho NdefX Shg Sh1 Sh4
abbrev qLaw : Str := "law.<locals>.<lambda>"
abbrev NL : List Str := ["_law_script", "_law_state", "_law_turn", "_law_high", "_law_size", "_law_last", "_law_come", "_law_branch", "_law_at", "_law_odd", "_law_same_here", "_law_expected", "_law_found", "_law_comings", "_law_goings", "_law_k", "_law_one", "_law_tick"]
abbrev n9names : List (Str × NameKind) := [("_law_comings", .free), ("_law_goings", .free)]
abbrev fr9 : List Str := ["_law_comings", "_law_goings"]
abbrev cl9 (n : Nat) : List (Str × Addr) := cloFrom (cellsFrom (n + 1) (defScope sLaw).names []) n9names []
open Dw
theorem fo_dp {K : PySem.W.Frag} {H : Hp} (o : Fo) : ∃ ds, DpAll K H o.vs ds ∧ SeqAt.shaped (.tuple ds) = true ∧ PyData.eqv (.tuple ds) (.tuple ds) = true ∧ ∀ H', DpAll K H' o.vs ds := by
  cases o with
  | many => exact ⟨[.str "TooManyGuests"], .cons (.str _) .nil, by decide +kernel, by decide +kernel, fun _ => .cons (.str _) .nil⟩
  | stay i => exact ⟨[.str "InvalidStay", .int i], .cons (.str _) (.cons (.int _) .nil), by unfold SeqAt.shaped; simp [PyData.canLay0, PyData.canLayAll0, PyData.depth, PyData.depthAll]; decide +kernel, by simp [PyData.eqv, PyData.eqvAll], fun _ => .cons (.str _) (.cons (.int _) .nil)⟩
  | going i => exact ⟨[.str "InvalidGoings", .int i], .cons (.str _) (.cons (.int _) .nil), by unfold SeqAt.shaped; simp [PyData.canLay0, PyData.canLayAll0, PyData.depth, PyData.depthAll]; decide +kernel, by simp [PyData.eqv, PyData.eqvAll], fun _ => .cons (.str _) (.cons (.int _) .nil)⟩
def GoodC (cs : List (Str × Int)) : Prop := ∀ c ∈ cs, c.1.length ≤ 1000 ∧ ∀ x ∈ c.1.cps.toList, x < 0x110000
structure CsAt (H : Hp) (Cm l : Addr) (n : Nat) (cs : List (Str × Int)) : Prop where
  at_ : ∃ ws, H Cm = some (.lst ws) ∧ PairsAt H ws cs
  ne : Cm ≠ l
  good : GoodC cs
  len : cs.length ≤ n
structure GsAt (H : Hp) (Gm l : Addr) (n : Nat) (gs : List Int) : Prop where
  at_ : H Gm = some (.lst (gs.map V.int))
  ne : Gm ≠ l
  len : gs.length ≤ n
theorem pairs_but {l : Addr} {H H' : Hp} {zs : List V} (hl : H l = some (.lst zs)) (b : But l H H') {ws : List V} {cs : List (Str × Int)} (h : PairsAt H ws cs) : PairsAt H' ws cs :=
  pair_mono (fun _ _ ⟨t, e, ht⟩ => ⟨t, e, b _ _ ht (ne_at hl ht fun z => nomatch z)⟩) h
theorem pairs_same {H H' : Hp} (s : Same H H') {ws : List V} {cs : List (Str × Int)} (h : PairsAt H ws cs) : PairsAt H' ws cs := pair_mono (fun _ _ ⟨t, e, ht⟩ => ⟨t, e, s _ _ ht⟩) h
theorem CsAt.but {l Cm : Addr} {n : Nat} {H H' : Hp} {zs : List V} {cs : List (Str × Int)} (hl : H l = some (.lst zs)) (c : CsAt H Cm l n cs) (b : But l H H') : CsAt H' Cm l n cs := by
  obtain ⟨⟨ws, h, p⟩, ne, g, ln⟩ := c
  exact ⟨⟨ws, b _ _ h ne, pairs_but hl b p⟩, ne, g, ln⟩
theorem GsAt.but {l Gm : Addr} {n : Nat} {H H' : Hp} {gs : List Int} (c : GsAt H Gm l n gs) (b : But l H H') : GsAt H' Gm l n gs := ⟨b _ _ c.at_ c.ne, c.ne, c.len⟩
theorem CsAt.le {l Cm : Addr} {n m : Nat} {H : Hp} {cs : List (Str × Int)} (c : CsAt H Cm l n cs) (h : n ≤ m) : CsAt H Cm l m cs := ⟨c.at_, c.ne, c.good, Nat.le_trans c.len h⟩
theorem GsAt.le {l Gm : Addr} {n m : Nat} {H : Hp} {gs : List Int} (c : GsAt H Gm l n gs) (h : n ≤ m) : GsAt H Gm l m gs := ⟨c.at_, c.ne, Nat.le_trans c.len h⟩
theorem pairs_upd {D : Addr} {H : Hp} {zs : List V} {o : HO} (hD : H D = some (.lst zs)) {ws : List V} {cs : List (Str × Int)} (h : PairsAt H ws cs) : PairsAt (upd H D o) ws cs :=
  pair_mono (fun _ _ ⟨t, e, ht⟩ => ⟨t, e, by rw [upd_ne (ne_at hD ht fun z => nomatch z)]; exact ht⟩) h
theorem GoodC.app {cs ds : List (Str × Int)} (h : GoodC cs) (k : GoodC ds) : GoodC (cs ++ ds) := fun c hc => (List.mem_append.mp hc).elim (h c) (k c)
theorem GoodC.one {z : Str} {r : Int} (h1 : z.length ≤ 1000) (h2 : ∀ x ∈ z.cps.toList, x < 0x110000) : GoodC [(z, r)] := fun c hc => by
  rw [List.mem_singleton.mp hc]
  exact ⟨h1, h2⟩
theorem asg_rel1 {te : TE} {g : TG} {D : Ends} {σ : L2.St} {H : Hp} (P : V → Hp → Prop) (h1 : ∀ R : VK, (∀ v H', P v H' → R v H') → te σ H R) (h2 : ∀ v H', P v H' → g v σ H' D.nx) : tAsg te g D σ H := h1 _ h2
theorem at_get {xs : List V} {r : Int} (h0 : 0 ≤ r) (h1 : r < xs.length) : ∃ (k : Nat) (z : V), xs[k]? = some z ∧ atI xs r = some z := by
  obtain ⟨k, rfl⟩ : ∃ k : Nat, r = k := ⟨r.toNat, by omega⟩
  have e : xs[k]? = some (xs[k]'(by omega)) := List.getElem?_eq_getElem (by omega)
  exact ⟨k, _, e, atI_nat e⟩
abbrev odds : List (Str × Int) := [("", 1), ("A", 2), ("a", 3), ("new", 10 ^ (9 : Int).toNat), ("new", 0 - 1), ("abcdefghi", 1)]
theorem odds_good : ∀ c ∈ odds, GoodC [c] := by
  have h : ∀ c ∈ odds, c.1.length ≤ 1000 ∧ ∀ x ∈ c.1.cps.toList, x < 0x110000 := by decide +kernel
  exact fun c hc => .one (h c hc).1 (h c hc).2
theorem letters_at (i : Nat) (h : i < 13) : ∃ c, ("abcdefghijklm" : Str).cps.toList[i]? = some c ∧ c < 0x110000 := by
  have e : ("abcdefghijklm" : Str).cps.toList = [97, 98, 99, 100, 101, 102, 103, 104, 105, 106, 107, 108, 109] := by decide +kernel
  rw [e]
  have : ∀ j : Fin 13, ∃ c, ([97, 98, 99, 100, 101, 102, 103, 104, 105, 106, 107, 108, 109] : List Nat)[j.val]? = some c ∧ c < 0x110000 := by decide
  exact this ⟨i, h⟩
theorem cut_fromN (ws : List V) (k : Nat) : cutV ws (some (k : Int)) none = ws.drop k := by
  unfold cutV
  rw [HT.sIx_none, HT.sIx_nat]
  by_cases h : k ≤ ws.length
  · rw [Nat.min_eq_left h, List.take_of_length_le (by rw [List.length_drop]; exact Nat.le_refl _)]
  · rw [Nat.min_eq_right (by omega), Nat.sub_self, List.take_zero, List.drop_of_length_le (by omega)]
theorem cut_toN (ws : List V) (k : Nat) : cutV ws none (some (k : Int)) = ws.take k := by
  unfold cutV
  rw [HT.sIx_none, HT.sIx_nat, List.drop_zero, Nat.sub_zero]
  by_cases h : k ≤ ws.length
  · rw [Nat.min_eq_left h]
  · rw [Nat.min_eq_right (by omega), List.take_length, List.take_of_length_le (by omega)]
section
variable {P : Program} {w : World} {K : PySem.W.Frag} {mg : Str → Option Value} {base : Heap}
def spLaw (K : PySem.W.Frag) (T : List (Addr × Str)) : Sp := fun vs H Q _ => ∃ (a : Addr) (ns : List Int), vs = [.ref a] ∧ SqL K H a (ns.map V.int) ∧ ns.length ≤ 63 ∧ LamX.Tabs T H ∧ ∀ H', Q (.bl true) H'
theorem scLaw : FnScope NL ["_law_script"] (defScope sLaw) := ⟨rfl, rfl, rfl, by decide +kernel, rfl, by decide +kernel, by decide +kernel⟩
/-- what the law calls -/
structure Defs (P : Program) (w : World) (K : PySem.W.Frag) (mg : Str → Option Value) (base : Heap) (T : List (Addr × Str)) (C fI CT CI CG : Addr) : Prop where
  B : Shg.Blt mg
  OC : ObsC K mg C fI
  EE : Errs9 K mg CG CI CT
  start : ∃ f fd, FnOk P w K mg base CX0 1 f fd ["_law_script"] (spStart K) ∧ mg "_law_start" = some (.ref f) ∧ PySem.W.keepIn K (.ref f) = true ∧ Binds K fd ["_law_script"] []
  drawn : ∃ f fd, FnOk P w K mg base CX0 1 f fd ["_law_state", "_law_count"] (spDrawn K) ∧ mg "_law_drawn" = some (.ref f) ∧ PySem.W.keepIn K (.ref f) = true ∧ Binds K fd ["_law_state", "_law_count"] []
  outcome : ∃ f fd, Fun K "_law_outcome" "_law_outcome" sOut f fd ∧ mg "_law_outcome" = some (.ref f) ∧ PySem.W.keepIn K (.ref f) = true ∧ Binds K fd ["_law_work"] []
  fault : ∃ f fd, FnOk P w K mg base CX0 2 f fd ["_law_comings", "_law_goings"] spFault ∧ mg "_law_fault" = some (.ref f) ∧ PySem.W.keepIn K (.ref f) = true ∧ Binds K fd ["_law_comings", "_law_goings"] []
  new : ∃ fd, FnOk P w K mg base (L2.CX P w) 4 fI fd ["self", "comings", "goings"] (spObs K mg C fI CT CI CG) ∧ Binds K fd ["self", "comings", "goings"] []
  recs : ∃ p g fd, FnOk P w K mg base CX0 1 g fd ["self"] (spRec C) ∧ PropOf K C "records" p g ∧ Binds K fd ["self"] []
  way : ∃ g fd, FnOk P w K mg base CX0 7 g fd ["self"] (spWayCount K mg C fI T) ∧ Meth K C "way_count" g ∧ Binds K fd ["self"] []
  isC : PySem.W.findIn K (.ref C) "__class__" = some (some (.builtin "object.__class__")) ∧ PySem.W.mroIn K C (.type "object") = some true ∧ PySem.W.kitOne K (.ref C) (.type "tuple") = some false
  isO : PySem.W.specialIn K (.builtin "object.__class__") "__get__" = some (some (.builtin "getset_descriptor.__get__")) ∧ PySem.W.takesIn K (.builtin "object.__class__") = some true
def spNew9 (C CT CI CG : Addr) : SpL := fun ws H Q E => ∃ (Cm Gm : Addr) (vs : List V) (cs : List (Str × Int)) (gs : List Int), ws = [some (.ref Cm), some (.ref Gm)] ∧ H Cm = some (.lst vs) ∧ PairsAt H vs cs ∧ H Gm = some (.lst (gs.map V.int)) ∧ cs.length ≤ 100 ∧ gs.length ≤ 100 ∧ GoodC cs ∧
  (faultOf cs gs = some .many → ∀ H', Same H H' → E (.ref CT) none H') ∧
  (∀ i, faultOf cs gs = some (.stay i) → ∀ (H' : Hp) (d : Addr), Same H H' → H' d = some (.xd [(("index" : Str), .int (i : Nat))]) → E (.ref CI) (some d) H') ∧
  (∀ i, faultOf cs gs = some (.going i) → ∀ (H' : Hp) (d : Addr), Same H H' → H' d = some (.xd [(("index" : Str), .int (i : Nat))]) → E (.ref CG) (some d) H') ∧
  (faultOf cs gs = none → ∀ x H', Same H H' → ObsAt C H' x cs gs → Q (.ref x) H')
theorem obs_same {C x : Addr} {H H' : Hp} {cs : List (Str × Int)} {gs : List Int} (s : Same H H') (h : ObsAt C H x cs gs) : ObsAt C H' x cs gs := by
  obtain ⟨dx, Cm, Gm, La, ws, h1, h2, h3, h4, h5⟩ := h
  exact ⟨dx, Cm, Gm, La, ws, s _ _ h1, s _ _ h2, pairs_same s h3, s _ _ h4, s _ _ h5⟩
theorem if_no {c : TT} {A u : TS} {D : Ends} {σ : L2.St} {H : Hp} (h : ∀ R : Bool → Hp → Prop, (∀ H', Same H H' → R false H') → c σ H R) (k : ∀ H', Same H H' → u D σ H') : tSeq (tIfS c A tNext) u D σ H :=
  h _ fun H' s' => iteF (k H' s')
theorem lk_way (a b c : V) : List.lookup ("way_count" : Str) [(("_comings" : Str), a), ("_goings", b), ("_accepted", c)] = none := by
  have h1 : (("way_count" : Str) == ("_comings" : Str)) = false := by decide +kernel
  have h2 : (("way_count" : Str) == ("_goings" : Str)) = false := by decide +kernel
  have h3 : (("way_count" : Str) == ("_accepted" : Str)) = false := by decide +kernel
  simp [List.lookup, h1, h2, h3]
theorem fo_many {cs : List (Str × Int)} {gs : List Int} (h : 10 < cs.length) : faultOf cs gs = some .many := if_pos h
theorem fo_stay {cs : List (Str × Int)} {gs : List Int} {i : Nat} (h : cs.length ≤ 10) (e : badC [] 0 cs = some i) : faultOf cs gs = some (.stay i) := by
  unfold faultOf
  rw [if_neg (by omega), e]
theorem fo_going {cs : List (Str × Int)} {gs : List Int} {i : Nat} (h : cs.length ≤ 10) (e : badC [] 0 cs = none) (g : badG cs 0 0 gs = some i) : faultOf cs gs = some (.going i) := by
  unfold faultOf
  rw [if_neg (by omega), e, g]
theorem fo_none {cs : List (Str × Int)} {gs : List Int} (h : cs.length ≤ 10) (e : badC [] 0 cs = none) (g : badG cs 0 0 gs = none) : faultOf cs gs = none := by
  unfold faultOf
  rw [if_neg (by omega), e, g]
theorem fo_valid {cs : List (Str × Int)} {gs : List Int} (h : faultOf cs gs = none) : Valid9 cs gs := by
  unfold faultOf at h
  split at h
  · cases h
  · rename_i k
    split at h
    · cases h
    · rename_i e
      split at h
      · cases h
      · rename_i g
        exact valid_of (by omega) e g
theorem ok_law {f c TP C fI CT CI CG : Addr} {fd : FuncData} {T : List (Addr × Str)} (F : Shg.FunL K "law" "law" sLaw f c fd) (D : Defs P w K mg base T C fI CT CI CG) (TB : LamX.TabB base mg c TP) (hm : (TP, qLaw) ∈ T) (hu : ∀ p ∈ T, p.1 = TP → p.2 = qLaw) :
    FnOk P w K mg base (L2.CX P w) 13 f fd ["_law_script"] (spLaw K T) := by
  obtain ⟨B, OC, EE, ⟨f1, fd1, G1, m1, k1, b1⟩, ⟨f2, fd2, G2, m2, k2, b2⟩, ⟨fO, fdO, FO, mO, kO, bO⟩, ⟨fF, fdF, GF, mF, kF, bF⟩, ⟨fdN, GN, bN⟩, ⟨pr, gR, fdR, GR, pR, bR⟩, ⟨gW, fdW, GW, hW, bW⟩, ⟨iC1, iC2, iC3⟩, iO1, iO2⟩ := D
  refine F.okX scLaw (fun vs H Q E h => ?_) (fun A outer s H vs Q E hr h => ?_)
  · obtain ⟨a, ns, rfl, _⟩ := h
    rfl
  obtain ⟨a, ns, rfl, ha, hl, hT, k⟩ := h
  have nd := scLaw.nd
  refine ⟨_, (pss_cons (ps_set (i := 1) nd rfl (Or.inr rfl) (pe_call G1 (hr.mono (by decide)) rfl m1 k1 b1 .nil pass0 (pa_cons (pv 0) pa_nil)))
      (pss_cons (ps_for (passes_of rfl) rfl (pi_range1 (by rfl) B.range (pa_cons pe_int pa_nil)) (pg_name (i := 2) nd rfl (Or.inl rfl)) (pss_cons (ps_set (i := 3) nd rfl (Or.inr rfl) (pe_ix ix_list (pe_lst (pa_cons pe_int (pa_cons (pe_op op_sub (pe_op op_pow pe_int pe_int) pe_int) pa_nil))) (pe_call G2 (hr.mono (by decide)) rfl m2 k2 b2 .nil pass0 (pa_cons (pv 1) (pa_cons pe_int pa_nil))) (fun _ _ => rfl)))
      (pss_cons (ps_set (i := 4) nd rfl (Or.inl rfl) (pe_call G2 (hr.mono (by decide)) rfl m2 k2 b2 .nil pass0 (pa_cons (pv 1) (pa_cons (pe_ix ix_list (pe_lst (pa_cons pe_int (pa_cons pe_int pa_nil))) (pe_call G2 (hr.mono (by decide)) rfl m2 k2 b2 .nil pass0 (pa_cons (pv 1) (pa_cons pe_int pa_nil))) (fun _ _ => rfl)) pa_nil))))
      (pss_cons (ps_set (i := 13) nd rfl (Or.inr rfl) (pe_lc (own := [("_law_k", 15)]) (g := gName 15) (tt := tYes) rfl nd (pi_range1 (by rfl) B.range (pa_cons (pv 4) pa_nil)) (blkOk_by (own := [("_law_k", 15)]) (N := NL) (sc := defScope sLaw) (by decide +kernel))
        (fun _ _ _ _ _ => (pg_name (i := 15) nd rfl (Or.inl rfl))) (fun _ _ _ _ _ => pts_nil) (fun _ _ _ _ _ => (pe_tup (pa_cons (pe_ix ix_str pe_str (pv 15) (fun _ _ => rfl)) (pa_cons (pe_call G2 (hr.mono (by decide)) rfl m2 k2 b2 .nil pass0 (pa_cons (pv 1) (pa_cons (pv 3) pa_nil))) pa_nil))))))
      (pss_cons (ps_asg (pe_tup (pa_cons pe_int (pa_cons (pe_lst pa_nil) pa_nil))) (pg_tup rfl (pgs_cons (pg_name (i := 5) nd rfl (Or.inl rfl)) (pgs_cons (pg_name (i := 14) nd rfl (Or.inr rfl)) pgs_nil))))
      (pss_cons (ps_for (passes_of rfl) rfl (pi_list (pe_callB cr_sorted (by rfl) B.sorted (by decide +kernel) (pa_cons (pe_lc (own := [("_law_one", 16)]) (g := gName 16) (tt := tYes) (te := tOp (rIxT K) (tVar 16) (tC (.int 1))) rfl nd (pi_list (pv 13)) (blkOk_by (own := [("_law_one", 16)]) (N := NL) (sc := defScope sLaw) (by decide +kernel))
        (fun _ _ _ _ _ => (pg_name (i := 16) nd rfl (Or.inl rfl))) (fun _ _ _ _ _ => pts_nil) (fun _ _ _ _ _ => (pe_ix ix_tup (pv 16) pe_int (fun _ _ => rfl)))) pa_nil))) (pg_name (i := 6) nd rfl (Or.inl rfl)) (pss_cons (ps_set (i := 5) nd rfl (Or.inl rfl) (pe_op op_add (pe_op op_add (pe_callB (call_max2 rfl) (by rfl) B.max (by decide +kernel) (pa_cons (pv 5) (pa_cons (pv 6) pa_nil))) pe_int) (pe_callTy call_int1 (by rfl) B.int (by decide +kernel) (pa_cons (pe_cmpR op_eq (pe_call G2 (hr.mono (by decide)) rfl m2 k2 b2 .nil pass0 (pa_cons (pv 1) (pa_cons pe_int pa_nil))) pe_int (nomark _)) pa_nil))))
      (pss_one (ps_expr (pe_bm PySem.F.plainAttrs_list PySem.F.slot_list_append PySem.F.type_list_append mt_append (pv 14) (pa_cons (pv 5) pa_nil))))))
      (pss_cons (ps_par (i := 7) (j := 8) rfl nd rfl rfl (by decide) rfl rfl (pa_cons (pe_call G2 (hr.mono (by decide)) rfl m2 k2 b2 .nil pass0 (pa_cons (pv 1) (pa_cons pe_int pa_nil))) (pa_cons (pe_call G2 (hr.mono (by decide)) rfl m2 k2 b2 .nil pass0 (pa_cons (pv 1) (pa_cons (pe_op op_add (pe_callB call_len_seq (by rfl) B.len PySem.boot_len (pa_cons (pv 13) pa_nil)) pe_int) pa_nil))) pa_nil)) (by rfl))
      (pss_cons (ps_if (pt_cmpR op_eq (pv 7) pe_int (nomark _)) (pss_cons (ps_set (i := 9) nd rfl (Or.inl rfl) (pe_lst (pa_cons (pe_tup (pa_cons pe_str (pa_cons pe_int pa_nil))) (pa_cons (pe_tup (pa_cons pe_str (pa_cons pe_int pa_nil))) (pa_cons (pe_tup (pa_cons pe_str (pa_cons pe_int pa_nil))) (pa_cons (pe_tup (pa_cons pe_str (pa_cons (pe_op op_pow pe_int pe_int) pa_nil))) (pa_cons (pe_tup (pa_cons pe_str (pa_cons (pe_op op_sub pe_int pe_int) pa_nil))) (pa_cons (pe_tup (pa_cons pe_str (pa_cons pe_int pa_nil))) pa_nil))))))))
      (pss_cons (ps_set (i := 9) nd rfl (Or.inl rfl) (pe_ix ix_list (pv 9) (pe_call G2 (hr.mono (by decide)) rfl m2 k2 b2 .nil pass0 (pa_cons (pv 1) (pa_cons pe_int pa_nil))) (fun _ _ => rfl)))
      (pss_one (ps_set (i := 13) nd rfl (Or.inr rfl) (pe_op op_cat (pe_op op_cat (pe_slice sl_list (pv 13) po_none (po_some (pv 8))) (pe_lst (pa_cons (pv 9) pa_nil))) (pe_slice sl_list (pv 13) (po_some (pv 8)) po_none)))))) (pss_one (ps_if (pt_cmpR op_eq (pv 7) pe_int (nomark _)) (pss_cons (ps_set (i := 10) nd rfl (Or.inl rfl) (pe_ifExp (pt_cmpR op_gt (pv 8) pe_int (nomark _)) (pe_ix ix_list (pv 14) (pe_op op_sub (pv 8) pe_int) (fun _ _ => rfl)) pe_int))
      (pss_cons (ps_set (i := 14) nd rfl (Or.inr rfl) (pe_op op_cat (pe_op op_cat (pe_slice sl_list (pv 14) po_none (po_some (pv 8))) (pe_lst (pa_cons (pe_ix ix_list (pe_lst (pa_cons pe_int (pa_cons pe_int (pa_cons (pe_op op_add (pe_op op_pow pe_int pe_int) pe_int) (pa_cons (pe_op op_add (pv 5) pe_int) (pa_cons (pv 10) (pa_cons (pv 10) pa_nil))))))) (pe_call G2 (hr.mono (by decide)) rfl m2 k2 b2 .nil pass0 (pa_cons (pv 1) (pa_cons pe_int pa_nil))) (fun _ _ => rfl)) pa_nil))) (pe_slice sl_list (pv 14) (po_some (pv 8)) po_none)))
      (pss_one (ps_set (i := 14) nd rfl (Or.inr rfl) (pe_ifExp (pt_cmpR op_eq (pe_call G2 (hr.mono (by decide)) rfl m2 k2 b2 .nil pass0 (pa_cons (pv 1) (pa_cons pe_int pa_nil))) pe_int (nomark _)) (pe_slice sl_list (pv 14) po_none (po_some (pe_callB call_len_seq (by rfl) B.len PySem.boot_len (pa_cons (pv 13) pa_nil)))) (pv 14)))))) (pss_one (ps_if (pt_cmpR op_eq (pv 7) pe_int (nomark _)) (pss_one (ps_set (i := 14) nd rfl (Or.inr rfl) (pe_op op_cat (pe_slice sl_list (pv 14) po_none (po_some (pv 8))) (pe_slice sl_list (pv 14) (po_some (pe_op op_add (pv 8) pe_int)) po_none)))) (pss_one (ps_if (pt_cmpR op_eq (pv 7) pe_int (nomark _)) (pss_one (ps_set (i := 14) nd rfl (Or.inr rfl) (pe_lc (own := [("_law_tick", 17)]) (g := gName 17) (tt := tYes) rfl nd (pi_list (pv 14)) (blkOk_by (own := [("_law_tick", 17)]) (N := NL) (sc := defScope sLaw) (by decide +kernel))
        (fun _ _ _ _ _ => (pg_name (i := 17) nd rfl (Or.inl rfl))) (fun _ _ _ _ _ => pts_nil) (fun _ _ _ _ _ => (pe_op op_sub (pv 17) pe_int))))) pss_nil)))))))
      (pss_cons (ps_set (i := 11) nd rfl (Or.inl rfl) (pe_call GF (hr.mono (by decide)) rfl mF kF bF .nil pass0 (pa_cons (pv 13) (pa_cons (pv 14) pa_nil))))
      (pss_cons (ps_set (i := 12) nd rfl (Or.inl rfl) (pe_callAt (CX := L2.CX P w) (E := fun _ _ _ => False) (know := fun σ s2 H2 => CellsAt (cl9 s.heap.objs.size) fr9 [slotAt σ 13, slotAt σ 14] s2.heap H2)
            (sp := fun σ v H1 Q' => ∃ f sp, v = .ref f ∧ Sho.Act P w K mg base (L2.CX P w) 11 (cl9 s.heap.objs.size) fr9 sp f H1 ∧ ∀ E' : XK, (∀ cls d H2, Out9 CG CI CT Q' cls d H2 → E' cls d H2) → sp [slotAt σ 13, slotAt σ 14] H1 Q' E')
            (by rfl) mO kO passL (fun pins σ H' s' I => cells_of (js := [13, 14]) (fr := fr9) I (Caps.made (scope := scL n9names) I.ok (free_by (os := (defScope sLaw).names) (by decide +kernel)) (by decide +kernel) rfl))
            (pa_cons (pe_lam TB rfl hm hu (free_by (os := (defScope sLaw).names) (by decide +kernel))) pa_nil) (fun σ2 s2 H2 u v Q2 e0 kn rv h => by
              obtain ⟨f2', sp2, rfl, ac, q⟩ := h
              cases rv
              exact outcome_run FO bO EE (hr.mono (by decide)) e0 kn ac q)))
      (pss_cons (ps_if (PW.pt (pw_and (pt_cmp (pc_notN (pv 11)) rfl) (pw_and1 (pt_cmpR (op_neD hr.units) (pv 12) (pv 11) (nomark _))))) (pss_one (ps_ret pe_bl)) pss_nil)
      (pss_one (ps_if (PW.pt (pw_and (pt_cmp (pc_isN (pv 11)) rfl) (pw_and1 (PW.pt (pw_or (pt_val (pe_callB call_isi (by rfl) B.isi (by decide +kernel) (pa_cons (pv 12) (pa_cons (pe_bltn (v := .ty "tuple") (by rfl) B.tuple (by decide +kernel) rfl) pa_nil)))) (pw_or (pt_cmpR (op_neD hr.units) (pe_prop (pv 12) OC.cl pR GR (hr.mono (by decide)) bR .nil pass0 rfl) (pe_lst pa_nil) (nomark _)) (pw_or1 (pt_cmpR op_lt (pe_meth0 (pv 12) OC.cl hW GW (hr.mono (by decide)) bW .nil pass0) pe_int (nomark _))))))))) (pss_one (ps_ret pe_bl)) pss_nil)))))))))))))
      (pss_one (ps_ret pe_bl)))), ?_⟩
  refine ⟨_, rfl, a, ns, rfl, ha, hl, fun H1 l s1 hl1 D1 => ?_⟩
  refine ⟨_, rfl, by decide, by decide, for_it walk_range (fun i σ H2 => ∃ o2 o3 o4 o5 o6 o7 o8 o9 o10 o11 o12 o13 o14 o15 o16 o17, σ = [some (.ref a), some (.ref l), o2, o3, o4, o5, o6, o7, o8, o9, o10, o11, o12, o13, o14, o15, o16, o17] ∧ St K T l a ns H2)
    ⟨none, none, none, none, none, none, none, none, none, none, none, none, none, none, none, none, rfl, D1, LamX.Tabs.ext hT s1⟩ (fun _ _ _ _ _ => trivial) ?_ ?_⟩
  · rintro i v σ H3 H2 hi ⟨o2, o3, o4, o5, o6, o7, o8, o9, o10, o11, o12, o13, o14, o15, o16, o17, rfl, S2⟩ ⟨rfl, ev⟩
    -- high
    refine name_at (asg_rel (fun v H' => ∃ hi : Int, v = .int hi ∧ 0 < hi ∧ hi < 1073741824 ∧ St K T l a ns H') (fun R h0 => ?_) fun vh Hh hh => ?_)
    · refine ⟨_, _, rfl, rfl, ⟨by decide, by decide, by decide⟩, _, _, rfl, rfl, by show 2 ≤ sizeLine; decide, fun p hp => ?_⟩
      have S3 := S2.same (same_upd (o := .lst [.int 6, .int (10 ^ (9 : Int).toNat - 20)]) hp)
      refine ⟨_, rfl, l, a, ns, 2, rfl, S3.d, by decide, by decide, fun r H4 r0 r1 b4 d4 => ?_⟩
      obtain ⟨z, hz, ez⟩ := at_mem (xs := [V.int 6, .int (10 ^ (9 : Int).toNat - 20)]) r0 r1
      refine ⟨p, _, r, z, rfl, rfl, SqL.of (b4 _ _ upd_same (S2.ne hp)), ez, h0 _ _ ?_⟩
      simp only [List.mem_cons, List.not_mem_nil, or_false] at hz
      rcases hz with rfl | rfl
      · exact ⟨_, rfl, by decide, by decide, S3.draw b4 d4⟩
      · exact ⟨_, rfl, by decide, by decide, S3.draw b4 d4⟩
    obtain ⟨hig, rfl, hg0, hg1, S4⟩ := hh
    -- size
    refine name_at (asg_rel (fun v H' => ∃ sz : Int, v = .int sz ∧ 0 ≤ sz ∧ sz < 13 ∧ St K T l a ns H') (fun R h0 => ?_) fun vs Hs hs => ?_)
    · refine ⟨_, rfl, by show 2 ≤ sizeLine; decide, fun p hp => ?_⟩
      have S5 := S4.same (same_upd (o := .lst [.int 6, .int 13]) hp)
      refine ⟨_, rfl, l, a, ns, 2, rfl, S5.d, by decide, by decide, fun r H5 r0 r1 b5 d5 => ?_⟩
      obtain ⟨z, hz, ez⟩ := at_mem (xs := [V.int 6, .int 13]) r0 r1
      refine ⟨p, _, r, z, rfl, rfl, SqL.of (b5 _ _ upd_same (S4.ne hp)), ez, ?_⟩
      have S6 := S5.draw b5 d5
      have key : ∃ n : Int, z = .int n ∧ 0 < n ∧ n ≤ 13 := by
        simp only [List.mem_cons, List.not_mem_nil, or_false] at hz
        rcases hz with rfl | rfl
        · exact ⟨_, rfl, by decide, by decide⟩
        · exact ⟨_, rfl, by decide, by decide⟩
      obtain ⟨n, rfl, n0, n1⟩ := key
      exact ⟨l, a, ns, n, rfl, d5, n0, by omega, fun r2 H6 c0 c1 b6 d6 => h0 _ _ ⟨r2, rfl, c0, by omega, S6.draw b6 d6⟩⟩
    obtain ⟨sz, rfl, z0, z1, S5⟩ := hs
    clear S2 S4 hl1 s1 D1 ha hT
    -- the comings
    refine name_at (asg_rel (fun v H' => ∃ (Cm : Addr) (cs : List (Str × Int)), v = .ref Cm ∧ CsAt H' Cm l 12 cs ∧ St K T l a ns H') (fun R h0 => ?_) fun vc Hc hc => ?_)
    · refine ⟨_, rfl, sz, rfl, by omega, by omega, fun D hD => ?_⟩
      have nD := S5.ne hD
      obtain ⟨zs, hl5⟩ := S5.at
      refine loop_any walk_range (fun i H' => ∃ ws cs, H' D = some (.lst ws) ∧ PairsAt H' ws cs ∧ cs.length = i ∧ GoodC cs ∧ But l Hs H' ∧ DrawSt K H' l a ns) ⟨[], [], upd_same, .nil, rfl, (fun c hc => nomatch hc), but_upd0 (But.of (Same.refl _)) hD, draw_upd S5 (But.of (Same.refl _)) S5.d hD⟩ (fun _ _ _ _ => trivial) ?_ ?_
      · rintro i x H6 H7 hi ⟨ws, cs, eD, pC, lC, gC, b6, d6⟩ ⟨rfl, ev⟩
        have ev' : x = V.int (i : Int) := ev.trans (by show V.int (0 + (i : Int)) = _; rw [Int.zero_add])
        clear ev
        subst ev'
        obtain ⟨c, hc, c1⟩ := letters_at i (by omega)
        refine ⟨rfl, _, rfl, _, _, _, rfl, rfl, by decide +kernel, atI_nat hc, _, rfl, _, rfl, l, a, ns, hig, rfl, d6, hg0, hg1, fun r H8 r0 r1 b8 d8 => ⟨by show 2 ≤ sizeLine; decide, fun t ht => ?_⟩⟩
        have s8 := same_upd (o := .tup [.str ⟨#[c]⟩, .int r]) ht
        have e8 := s8 _ _ (b8 _ _ eD nD)
        have ntD : t ≠ D := fun z => by rw [z, b8 _ _ eD nD] at ht; cases ht
        have lw := pair_len pC
        refine ⟨ws, e8, by rw [lw, lC]; exact Nat.lt_of_lt_of_le hi (Nat.le_trans (show sz.toNat ≤ 13 by omega) (by decide)), ?_⟩
        refine ⟨ws ++ [.ref t], cs ++ [(⟨#[c]⟩, r)], upd_same, pair_app (pairs_upd e8 (pairs_same s8 (pairs_but (draw_at d6).choose_spec b8 pC))) (.cons ⟨t, rfl, by rw [upd_ne ntD]; exact upd_same⟩ .nil), by rw [List.length_append, lC]; rfl, gC.app (GoodC.one (z := ⟨#[c]⟩) (by show 1 ≤ 1000; decide) fun x hx => ?_), but_upd0 ((b6.trans b8).trans (But.of s8)) hD, draw_upd S5 ((b6.trans b8).trans (But.of s8)) (draw_ext d8 (LamX.ExtN.of s8)) hD⟩
        rw [List.mem_singleton.mp hx]
        exact c1
      · rintro H6 ⟨ws, cs, eD, pC, lC, gC, b6, d6⟩
        exact h0 _ _ ⟨D, cs, rfl, ⟨⟨ws, eD, pC⟩, nD, gC, by omega⟩, S5.draw b6 d6⟩
    obtain ⟨Cm, cs, rfl, C6, S6⟩ := hc
    clear S5
    obtain ⟨zs6, hl6⟩ := S6.at
    -- the goings
    refine name_at ?_
    refine ⟨Nat.zero_le _, fun Gm hGm => ⟨by show 2 ≤ sizeLine; decide, fun t ht => ?_⟩⟩
    have nG := S6.ne hGm
    have sG := same_upd (o := .lst []) hGm
    have sT := same_upd (o := .tup [.int 0, .ref Gm]) ht
    refine ⟨t, _, rfl, SqT.of upd_same, rfl, _, _, rfl, _, _, rfl, rfl, ?_⟩
    have b7 : But l Hc (upd (upd Hc Gm (.lst [])) t (.tup [.int 0, .ref Gm])) := But.of (sG.trans sT)
    have d7 := draw_ext S6.d (LamX.ExtN.of (sG.trans sT))
    have eG7 := sT _ _ (upd_same (H := Hc) (a := Gm) (o := .lst []))
    generalize upd (upd Hc Gm (.lst [])) t (.tup [.int 0, .ref Gm]) = H7 at *
    clear sG sT ht
    obtain ⟨⟨wc, eC7, pC⟩, nC, gC, lenC⟩ := C6.but hl6 b7
    have lC := pair_len pC
    refine ⟨_, rfl, Cm, rfl, ⟨_, SqL.of eC7⟩, fun D hD => ?_⟩
    refine lc_map walk_list (fun j => (cs[j]?).map fun y => V.int y.2) hD (by rw [lC]; exact Nat.le_trans lenC (by decide)) (fun H1 s1 => SqL.of (s1 _ _ eC7)) (fun j v H1 H' hj s1 yy R' k1 => ?_) (fun j hj => ?_) fun H8 s8 e8 => ?_
    · obtain ⟨rfl, e2⟩ := yy
      obtain ⟨y, hy2, t', rfl, ht'⟩ := pair_get pC e2
      refine ⟨rfl, _, rfl, t', _, 1, .int y.2, rfl, rfl, SqT.of (s1 _ _ ht'), atI_nat (j := 1) rfl, ?_⟩
      refine k1 _ _ (Same.refl _) ?_
      rw [hy2]
      rfl
    · exact ⟨_, by rw [List.getElem?_eq_getElem (by omega)]; rfl⟩
    have e8' : H8 D = some (.lst ((cs.map fun y => y.2).map V.int)) := by
      rw [e8, lC, gather_map cs fun y => V.int y.2, List.map_map]
      rfl
    refine ⟨D, cs.map (fun y => y.2), rfl, SqL.of e8', by rw [List.length_map]; omega, fun ns' p perm _ hp => ?_⟩
    have sp := same_upd (o := .lst (ns'.map V.int)) hp
    have b9 : But l Hc (upd H8 p (.lst (ns'.map V.int))) := (b7.trans (But.of s8)).trans (But.of sp)
    have d9 := draw_ext d7 (LamX.ExtN.of (s8.trans sp))
    have eG9 := sp _ _ (s8 _ _ eG7)
    have eP9 : (upd H8 p (.lst (ns'.map V.int))) p = some (.lst (ns'.map V.int)) := upd_same
    have npG : p ≠ Gm := fun z => by rw [z, s8 _ _ eG7] at hp; cases hp
    have npl : p ≠ l := fun z => by
      obtain ⟨zs, e⟩ := draw_at d7
      rw [z, s8 _ _ e] at hp
      cases hp
    generalize upd H8 p (.lst (ns'.map V.int)) = H9 at *
    refine ⟨p, rfl, ⟨_, SqL.of eP9⟩, for_it walk_list (fun i σ H => ∃ (o6 : Option V) (last : Int) (gs : List Int), σ = [some (.ref a), some (.ref l), some v, some (.int hig), some (.int sz), some (.int last), o6, o7, o8, o9, o10, o11, o12, some (.ref Cm), some (.ref Gm), o15, o16, o17] ∧ But l Hc H ∧ DrawSt K H l a ns ∧ H Gm = some (.lst (gs.map V.int)) ∧ gs.length = i ∧ H p = some (.lst (ns'.map V.int)))
      ⟨o6, 0, [], rfl, b9, d9, eG9, rfl, eP9⟩ (fun i σ H _ p => by obtain ⟨_, _, _, _, _, _, _, _, e⟩ := p; exact SqL.of e) ?_ ?_⟩
    · rintro i y σ Ha Hb hi' ⟨o6, last, gs, rfl, ba, da, eG, lG, eP⟩ ⟨rfl, ey⟩
      rw [List.getElem?_map] at ey
      obtain ⟨g, hg, rfl⟩ : ∃ g, ns'[i]? = some g ∧ y = .int g := by
        cases e : ns'[i]? with
        | none => rw [e] at ey; cases ey
        | some z => rw [e] at ey; cases ey; exact ⟨z, rfl, rfl⟩
      refine name_at (asg_rel (fun v H' => ∃ n : Int, v = .int n ∧ But l Hc H' ∧ DrawSt K H' l a ns ∧ H' Gm = some (.lst (gs.map V.int)) ∧ H' p = some (.lst (ns'.map V.int))) (fun R h0 => ?_) fun vn Hn hn => ?_)
      · exact ⟨_, rfl, _, rfl, _, _, rfl, _, _, rfl, rfl, _, rfl, l, a, ns, 3, rfl, da, by decide, by decide, fun r Hd r0 r1 bd dd => ⟨rfl, .inr ⟨_, rfl, _, _, rfl, rfl, h0 _ _ ⟨_, rfl, ba.trans bd, dd, bd _ _ eG nG, bd _ _ eP npl⟩⟩⟩⟩
      obtain ⟨n, rfl, bn, dn, eGn, ePn⟩ := hn
      refine name_at ?_
      refine ⟨_, rfl, .inl ⟨rfl, _, SqL.of eGn⟩, _, rfl, Gm, _, _, rfl, rfl, eGn, ?_, ?_⟩
      · rw [List.length_map, lG]
        have : i < ns'.length := by simpa using hi'
        have := perm.length_eq
        rw [List.length_map] at this
        exact Nat.lt_of_lt_of_le (show i < 13 by omega) (by decide)
      · exact ⟨_, n, gs ++ [n], rfl, but_upd0 bn hGm, draw_upd S6 bn dn hGm, by rw [upd_same, List.map_append]; rfl, by rw [List.length_append, lG]; rfl, by rw [upd_ne npG]; exact ePn⟩
    rintro σ Ha ⟨o6, last, gs, rfl, ba, da, eG, lG, _⟩
    have lG' : gs.length = cs.length := by
      have := perm.length_eq
      rw [List.length_map] at this lG
      omega
    have Sa := S6.draw ba da
    have Ca := C6.but hl6 ba
    have Ga : GsAt Ha Gm l 12 gs := ⟨eG, nG, by omega⟩
    clear eP9 npG npl sp s8 e8 e8' eG7 d7 b7 eC7 pC eG9 b9 d9 S6 C6 hGm hl6 hD hp ba da eG perm
    obtain ⟨zs, hla⟩ := Sa.at
    obtain ⟨⟨wa, eCa, pCa⟩, _, gCa, lCa⟩ := id Ca
    refine ⟨_, rfl, l, a, ns, 7, rfl, Sa.d, by decide, by decide, fun br Hb r0 r1 bb db => ?_⟩
    refine ⟨_, rfl, _, rfl, Cm, wa, rfl, .inl (SqL.of (bb _ _ eCa nC)), _, _, rfl, rfl, l, a, ns, _, rfl, db, by omega, by have := pair_len pCa; omega, fun att Hd q0 q1 bd dd => ⟨_, _, rfl, ?_⟩⟩
    obtain ⟨k, rfl⟩ : ∃ k : Nat, att = k := ⟨att.toNat, by omega⟩
    have hk : k ≤ cs.length := by
      have := pair_len pCa
      omega
    have Sd := Sa.draw (bb.trans bd) dd
    have Cd := Ca.but hla (bb.trans bd)
    have Gd := Ga.but (bb.trans bd)
    clear Sa Ca Ga hla eCa pCa lCa bb db bd dd q0 q1
    -- the branches
    refine nx_of (ifs_join (fun σ' H' => ∃ (o9 o10 : Option V) (Cm' Gm' : Addr) (cs' : List (Str × Int)) (gs' : List Int), σ' = [some (.ref a), some (.ref l), some v, some (.int hig), some (.int sz), some (.int last), o6, some (.int br), some (.int (k : Nat)), o9, o10, o11, o12, some (.ref Cm'), some (.ref Gm'), o15, o16, o17] ∧ St K T l a ns H' ∧ CsAt H' Cm' l 13 cs' ∧ GsAt H' Gm' l 14 gs') (fun N hN => ?_) ?_)
    · obtain ⟨zs, hld⟩ := Sd.at
      obtain ⟨⟨wd, eCd, pCd⟩, _, _, lCd⟩ := id Cd
      have lwd := pair_len pCd
      have eGd := Gd.at_
      refine ⟨_, rfl, rfl, _, rfl, ite2 (fun q => ?_) (fun q => ?_)⟩
      · -- an odd coming
        refine asg_rel (fun v H' => ∃ L us, v = .ref L ∧ H' L = some (.lst us) ∧ PairsAt H' us odds ∧ Hd L = none ∧ Same Hd H') (fun R h0 => ?_) fun vo Ho ho => ?_
        · refine ⟨by show 2 ≤ sizeLine; decide, fun u1 h1 => ⟨by show 2 ≤ sizeLine; decide, fun u2 h2 => ⟨by show 2 ≤ sizeLine; decide, fun u3 h3 => ⟨_, _, rfl, rfl, ⟨by decide, by decide, by decide⟩, by show 2 ≤ sizeLine; decide, fun u4 h4 => ⟨_, _, rfl, rfl, by show 2 ≤ sizeLine; decide, fun u5 h5 => ⟨by show 2 ≤ sizeLine; decide, fun u6 h6 => ⟨by show 6 ≤ sizeLine; decide, fun L hL => ?_⟩⟩⟩⟩⟩⟩⟩
          have t1 := same_upd (o := .tup [.str "", .int 1]) h1
          have t2 := same_upd (o := .tup [.str "A", .int 2]) h2
          have t3 := same_upd (o := .tup [.str "a", .int 3]) h3
          have t4 := same_upd (o := .tup [.str "new", .int (10 ^ (9 : Int).toNat)]) h4
          have t5 := same_upd (o := .tup [.str "new", .int (0 - 1)]) h5
          have t6 := same_upd (o := .tup [.str "abcdefghi", .int 1]) h6
          have t7 := same_upd (o := .lst [.ref u1, .ref u2, .ref u3, .ref u4, .ref u5, .ref u6]) hL
          have c6 := t7
          have c5 := t6.trans c6
          have c4 := t5.trans c5
          have c3 := t4.trans c4
          have c2 := t3.trans c3
          have c1 := t2.trans c2
          have cL : Hd L = none := by
            cases e : Hd L with
            | none => rfl
            | some o => rw [(((((t1.trans t2).trans t3).trans t4).trans t5).trans t6) _ _ e] at hL; cases hL
          exact h0 _ _ ⟨L, _, rfl, upd_same, .cons ⟨u1, rfl, c1 _ _ upd_same⟩ (.cons ⟨u2, rfl, c2 _ _ upd_same⟩ (.cons ⟨u3, rfl, c3 _ _ upd_same⟩ (.cons ⟨u4, rfl, c4 _ _ upd_same⟩ (.cons ⟨u5, rfl, c5 _ _ upd_same⟩ (.cons ⟨u6, rfl, c6 _ _ upd_same⟩ .nil))))), cL, t1.trans c1⟩
        obtain ⟨L, us, rfl, eL, pU, fL, so⟩ := ho
        have So := Sd.same so
        have lU := pair_len pU
        refine name_at (asg_rel (fun v H' => ∃ (t : Addr) (c : Str × Int), v = .ref t ∧ H' t = some (.tup [.str c.1, .int c.2]) ∧ GoodC [c] ∧ But l Ho H' ∧ DrawSt K H' l a ns) (fun R h0 => ?_) fun vt Ht ht => ?_)
        · refine ⟨_, rfl, _, rfl, l, a, ns, 6, rfl, So.d, by decide, by decide, fun r He e0 e1 be de => ?_⟩
          obtain ⟨j, y, hj, ey⟩ := at_get (xs := us) e0 (by rw [lU]; exact e1)
          obtain ⟨c, hc, t, rfl, htt⟩ := pair_get pU hj
          exact ⟨L, us, r, _, rfl, rfl, SqL.of (be _ _ eL (Sd.ne fL)), ey, h0 _ _ ⟨t, c, rfl, be _ _ htt (ne_at So.at.choose_spec htt fun z => nomatch z), odds_good c (List.mem_of_getElem? hc), be, de⟩⟩
        obtain ⟨t, c, rfl, ett, gc, bt, dt⟩ := ht
        have St1 := So.draw bt dt
        have Ct := (Cd.but hld (But.of so)).but So.at.choose_spec bt
        have Gt := (Gd.but (But.of so)).but bt
        obtain ⟨⟨wt, eCt, pCt⟩, _, gCt, _⟩ := id Ct
        have lwt := pair_len pCt
        refine name_at (asg_rel1 (fun v H' => ∃ M, v = .ref M ∧ H' M = some (.lst (wt.take k ++ [.ref t] ++ wt.drop k)) ∧ Ht M = none ∧ Same Ht H') (fun R h0 => ?_) fun vm Hm hm => ?_)
        · refine ⟨_, rfl, _, rfl, _, rfl, Cm, wt, rfl, SqL.of eCt, fun p1 hp1 => ⟨_, rfl, by show 1 ≤ sizeLine; decide, fun p2 hp2 => ?_⟩⟩
          rw [cut_toN] at hp2 ⊢
          have u1 := same_upd (o := .lst (wt.take k)) hp1
          have u2 := same_upd (o := .lst [.ref t]) hp2
          refine ⟨p1, p2, _, _, rfl, rfl, u2 _ _ upd_same, upd_same, ?_, fun p3 hp3 => ?_⟩
          · exact Nat.le_trans (show (wt.take k).length + 1 ≤ 14 by rw [List.length_take]; omega) (by decide)
          have u3 := same_upd (o := .lst (wt.take k ++ [.ref t])) hp3
          refine ⟨_, rfl, _, rfl, _, rfl, Cm, wt, rfl, SqL.of (((u1.trans u2).trans u3) _ _ eCt), fun p4 hp4 => ?_⟩
          rw [cut_fromN] at *
          have u4 := same_upd (o := .lst (wt.drop k)) hp4
          refine ⟨p3, p4, _, _, rfl, rfl, u4 _ _ upd_same, upd_same, ?_, fun M hM => h0 _ _ ⟨M, rfl, upd_same, ?_, (((u1.trans u2).trans u3).trans u4).trans (same_upd hM)⟩⟩
          · exact Nat.le_trans (show (wt.take k ++ [V.ref t]).length + (wt.drop k).length ≤ 14 by rw [List.length_append, List.length_take, List.length_drop]; simp; omega) (by decide)
          · cases e : Ht M with
            | none => rfl
            | some o => rw [(((u1.trans u2).trans u3).trans u4) _ _ e] at hM; cases hM
        obtain ⟨M, rfl, eM, fM, sm⟩ := hm
        refine name_at (hN _ _ ⟨_, _, M, Gm, cs.take k ++ [c] ++ cs.drop k, gs, rfl, St1.same sm, ⟨⟨_, eM, pair_app (pair_app (pair_take k (pairs_same sm pCt)) (.cons ⟨t, rfl, sm _ _ ett⟩ .nil)) (pair_drop k (pairs_same sm pCt))⟩, St1.ne fM, ?_, ?_⟩, (Gt.but (But.of sm)).le (by decide)⟩)
        · exact (GoodC.app (fun x hx => gCt x (List.mem_of_mem_take hx)) gc).app fun x hx => gCt x (List.mem_of_mem_drop hx)
        · rw [List.length_append, List.length_append, List.length_take, List.length_drop]
          simp
          omega
      · refine ⟨_, rfl, rfl, _, rfl, ite2 (fun q => ?_) (fun q => ?_)⟩
        · -- an odd going
          refine asg_rel (fun v H' => ∃ z : Int, v = .int z ∧ Hd = H') (fun R h0 => ?_) fun vz Hz hz => ?_
          · refine ⟨_, rfl, _, _, rfl, rfl, _, rfl, ite2 (fun q => ?_) (fun q => h0 _ _ ⟨_, rfl, rfl⟩)⟩
            have kp : 0 < k := by
              have := of_decide_eq_true q
              omega
            have hgk : (gs.map V.int)[k - 1]? = some (V.int (gs[k - 1]'(by omega))) := by
              rw [List.getElem?_map, List.getElem?_eq_getElem (by omega)]
              rfl
            exact ⟨_, rfl, _, rfl, _, _, rfl, rfl, Gm, _, _, _, rfl, rfl, SqL.of eGd, by rw [show ((k : Nat) : Int) - 1 = ((k - 1 : Nat) : Int) by omega]; exact atI_nat hgk, h0 _ _ ⟨_, rfl, rfl⟩⟩
          obtain ⟨z, rfl, rfl⟩ := hz
          refine name_at (asg_rel (fun v H' => ∃ (M : Addr) (g : Int), v = .ref M ∧ H' M = some (.lst ((gs.take k ++ [g] ++ gs.drop k).map V.int)) ∧ M ≠ l ∧ But l Hd H' ∧ DrawSt K H' l a ns) (fun R h0 => ?_) fun vm Hm hm => ?_)
          · refine ⟨_, rfl, _, rfl, _, rfl, Gm, _, rfl, SqL.of eGd, fun p1 hp1 => ?_⟩
            rw [cut_toN]
            have u1 := same_upd (o := .lst ((gs.map V.int).take k)) hp1
            refine ⟨_, _, rfl, rfl, ⟨by decide, by decide, by decide⟩, _, _, rfl, rfl, _, rfl, _, _, rfl, rfl, _, rfl, _, rfl, by show 6 ≤ sizeLine; decide, fun p2 hp2 => ?_⟩
            have u2 := same_upd (o := .lst [.int 0, .int 3, .int (10 ^ (9 : Int).toNat + 1), .int (last + 5), .int z, .int z]) hp2
            refine ⟨_, rfl, l, a, ns, 6, rfl, draw_ext Sd.d (LamX.ExtN.of (u1.trans u2)), by decide, by decide, fun r He e0 e1 be de => ?_⟩
            obtain ⟨y, hy, ey⟩ := at_mem (xs := [V.int 0, .int 3, .int (10 ^ (9 : Int).toNat + 1), .int (last + 5), .int z, .int z]) e0 e1
            obtain ⟨g, rfl⟩ : ∃ g : Int, y = .int g := by
              simp only [List.mem_cons, List.not_mem_nil, or_false] at hy
              rcases hy with rfl | rfl | rfl | rfl | rfl | rfl <;> exact ⟨_, rfl⟩
            have n1 : p1 ≠ l := Sd.ne hp1
            have n2 : p2 ≠ l := (Sd.same u1).ne hp2
            refine ⟨p2, _, r, _, rfl, rfl, SqL.of (be _ _ upd_same n2), ey, by show 1 ≤ sizeLine; decide, fun p3 hp3 => ?_⟩
            have u3 := same_upd (o := .lst [.int g]) hp3
            have e1' := u3 _ _ (be _ _ (u2 _ _ upd_same) n1)
            refine ⟨p1, p3, _, _, rfl, rfl, e1', upd_same, ?_, fun p4 hp4 => ?_⟩
            · exact Nat.le_trans (show ((gs.map V.int).take k).length + 1 ≤ 14 by rw [List.length_take, List.length_map]; omega) (by decide)
            have u4 := same_upd (o := .lst ((gs.map V.int).take k ++ [.int g])) hp4
            have eG4 := (u3.trans u4) _ _ (be _ _ ((u1.trans u2) _ _ eGd) Gd.ne)
            refine ⟨_, rfl, _, rfl, _, rfl, Gm, _, rfl, SqL.of eG4, fun p5 hp5 => ?_⟩
            rw [cut_fromN] at *
            have u5 := same_upd (o := .lst ((gs.map V.int).drop k)) hp5
            refine ⟨p4, p5, _, _, rfl, rfl, u5 _ _ upd_same, upd_same, ?_, fun M hM => h0 _ _ ⟨M, g, rfl, ?_, ?_, ((But.of (u1.trans u2)).trans be).trans (But.of (((u3.trans u4).trans u5).trans (same_upd hM))), draw_ext de (LamX.ExtN.of (((u3.trans u4).trans u5).trans (same_upd hM)))⟩⟩
            · exact Nat.le_trans (show ((gs.map V.int).take k ++ [V.int g]).length + ((gs.map V.int).drop k).length ≤ 14 by rw [List.length_append, List.length_take, List.length_drop, List.length_map]; simp; omega) (by decide)
            · rw [upd_same, List.map_append, List.map_append, List.map_take, List.map_drop]
              rfl
            · obtain ⟨zs, e⟩ := draw_at de
              exact fun z => by rw [z, ((u3.trans u4).trans u5) _ _ e] at hM; cases hM
          obtain ⟨M, g, rfl, eM, nM, bM, dM⟩ := hm
          have SM := Sd.draw bM dM
          have CM := Cd.but hld bM
          refine name_at (asg_rel1 (fun v H' => ∃ (M2 : Addr) (gs2 : List Int), v = .ref M2 ∧ GsAt H' M2 l 14 gs2 ∧ But l Hm H' ∧ DrawSt K H' l a ns) (fun R h0 => ?_) fun vn Hn hn => ?_)
          · have len14 : (gs.take k ++ [g] ++ gs.drop k).length ≤ 14 := by
              rw [List.length_append, List.length_append, List.length_take, List.length_drop]
              simp
              omega
            refine ⟨_, rfl, l, a, ns, 2, rfl, dM, by decide, by decide, fun r He e0 e1 be de => ⟨rfl, _, rfl, ite2 (fun q => ?_) (fun q => ?_)⟩⟩
            · obtain ⟨⟨wm, eCm, _⟩, _⟩ := CM
              refine ⟨_, rfl, _, rfl, Cm, wm, rfl, .inl (SqL.of (be _ _ eCm nC)), _, rfl, M, _, rfl, SqL.of (be _ _ eM nM), fun p hp => ?_⟩
              rw [cut_toN]
              have sp := same_upd (o := .lst (((gs.take k ++ [g] ++ gs.drop k).map V.int).take wm.length)) hp
              exact h0 _ _ ⟨p, (gs.take k ++ [g] ++ gs.drop k).take wm.length, rfl, ⟨by rw [upd_same, List.map_take], (SM.draw be de).ne hp, by rw [List.length_take]; omega⟩, be.trans (But.of sp), draw_ext de (LamX.ExtN.of sp)⟩
            · exact ⟨_, rfl, h0 _ _ ⟨M, _, rfl, ⟨be _ _ eM nM, nM, len14⟩, be, de⟩⟩
          obtain ⟨M2, gs2, rfl, GN2, bN2, dN2⟩ := hn
          exact name_at (hN _ _ ⟨_, _, Cm, M2, cs, gs2, rfl, SM.draw bN2 dN2, (CM.but (draw_at dM).choose_spec bN2).le (by decide), GN2⟩)
        refine ⟨_, rfl, rfl, _, rfl, ite2 (fun q => ?_) (fun q => ?_)⟩
        · -- one going left out
          refine asg_rel1 (fun v H' => ∃ M : Addr, v = .ref M ∧ H' M = some (.lst ((gs.take k ++ gs.drop (k + 1)).map V.int)) ∧ Hd M = none ∧ Same Hd H') (fun R h0 => ?_) fun vm Hm hm => ?_
          · refine ⟨_, rfl, _, rfl, _, rfl, Gm, _, rfl, SqL.of eGd, fun p1 hp1 => ?_⟩
            rw [cut_toN]
            have u1 := same_upd (o := .lst ((gs.map V.int).take k)) hp1
            refine ⟨_, rfl, _, rfl, _, _, rfl, rfl, _, rfl, Gm, _, rfl, SqL.of (u1 _ _ eGd), fun p2 hp2 => ?_⟩
            rw [show ((k : Nat) : Int) + 1 = ((k + 1 : Nat) : Int) by omega, cut_fromN] at *
            have u2 := same_upd (o := .lst ((gs.map V.int).drop (k + 1))) hp2
            refine ⟨p1, p2, _, _, rfl, rfl, u2 _ _ upd_same, upd_same, ?_, fun M hM => h0 _ _ ⟨M, rfl, ?_, ?_, (u1.trans u2).trans (same_upd hM)⟩⟩
            · exact Nat.le_trans (show ((gs.map V.int).take k).length + ((gs.map V.int).drop (k + 1)).length ≤ 14 by rw [List.length_take, List.length_drop, List.length_map]; omega) (by decide)
            · rw [upd_same, List.map_append, List.map_take, List.map_drop]
            · cases e : Hd M with
              | none => rfl
              | some o => rw [(u1.trans u2) _ _ e] at hM; cases hM
          obtain ⟨M, rfl, eM, fM, sm⟩ := hm
          exact name_at (hN _ _ ⟨_, _, Cm, M, cs, _, rfl, Sd.same sm, (Cd.but hld (But.of sm)).le (by decide), ⟨eM, Sd.ne fM, by rw [List.length_append, List.length_take, List.length_drop]; omega⟩⟩)
        refine ⟨_, rfl, rfl, _, rfl, ite2 (fun q => ?_) (fun q => hN _ _ ⟨_, _, Cm, Gm, cs, gs, rfl, Sd, Cd.le (by decide), Gd.le (by decide)⟩)⟩
        refine asg_rel1 (fun v H' => ∃ M : Addr, v = .ref M ∧ H' M = some (.lst ((gs.map fun g => g - 1).map V.int)) ∧ Hd M = none ∧ Same Hd H') (fun R h0 => ?_) fun vm Hm hm => ?_
        · refine ⟨_, rfl, Gm, rfl, ⟨_, SqL.of eGd⟩, fun D hD => ?_⟩
          refine lc_map walk_list (fun j => (gs[j]?).map fun y => V.int (y - 1)) hD (by rw [List.length_map]; exact Nat.le_trans Gd.len (by decide)) (fun H1 s1 => SqL.of (s1 _ _ eGd)) (fun j v H1 H' hj s1 yy R' k1 => ?_) (fun j hj => ?_) fun H8 s8 e8 => ?_
          · obtain ⟨rfl, e2⟩ := yy
            rw [List.getElem?_map] at e2
            obtain ⟨g, hg, rfl⟩ : ∃ g, gs[j]? = some g ∧ v = .int g := by
              cases e : gs[j]? with
              | none => rw [e] at e2; cases e2
              | some z => rw [e] at e2; cases e2; exact ⟨z, rfl, rfl⟩
            exact ⟨rfl, _, rfl, _, _, rfl, rfl, k1 _ _ (Same.refl _) (by rw [hg]; rfl)⟩
          · rw [List.length_map] at hj
            exact ⟨_, by rw [List.getElem?_eq_getElem hj]; rfl⟩
          · rw [List.length_map, gather_map gs fun y => V.int (y - 1)] at e8
            exact h0 _ _ ⟨D, rfl, by rw [e8, List.map_map]; rfl, hD, s8⟩
        obtain ⟨M, rfl, eM, fM, sm⟩ := hm
        exact name_at (hN _ _ ⟨_, _, Cm, M, cs, _, rfl, Sd.same sm, (Cd.but hld (But.of sm)).le (by decide), ⟨eM, Sd.ne fM, by rw [List.length_map]; have := Gd.len; omega⟩⟩)
    clear Sd Cd Gd nC nG gC lenC lC gCa lG' hk lG
    rintro σ' Hx ⟨o9, o10, Cm, Gm, cs, gs, rfl, Sx, Cx, Gx⟩
    obtain ⟨⟨wx, eCx, pCx⟩, nCx, gCx, lCx⟩ := id Cx
    refine asg_rel (fun v H' => Same Hx H' ∧ FoV H' v (faultOf cs gs)) (fun R h0 => ⟨_, rfl, _, rfl, Cm, Gm, wx, cs, gs, rfl, eCx, pCx, Gx.at_, by omega, by have := Gx.len; omega, gCx, fun v H' s' fv => h0 _ _ ⟨s', fv⟩⟩) fun ve He he => ?_
    obtain ⟨se, fe⟩ := he
    have Se := Sx.same se
    refine name_at (asg_rel (fun v H' => St K T l a ns H' ∧ LamX.ExtN He H' ∧ ((∃ o, faultOf cs gs = some o ∧ ∃ p, v = .ref p ∧ H' p = some (.tup o.vs)) ∨ (faultOf cs gs = none ∧ ∃ x, v = .ref x ∧ ObsAt C H' x cs gs))) (fun R h0 => ?_) fun vf Hf hf => ?_)
    · refine cons_of ⟨Se.t, fun f0 c0 Hh Gh nh lh => ⟨_, rfl, f0, spNew9 C CT CI CG, rfl, ?_, fun E' hE => ?_⟩⟩
      · refine act0 (k := 10) (N := fr9) (fr := fr9) (sp := spNew9 C CT CI CG) lh (nscope_by (sc := scL [("_law_comings", .free), ("_law_goings", .free), ("GoingObserver", .globalImplicit), ("tuple", .globalImplicit)]) (by decide +kernel)) (fun _ _ => rfl) fun A outer s H ws Q E hr hw h => ?_
        obtain ⟨Cm, Gm, vs, cs, gs, rfl, hC, pC, hG, lc, lg, gc, kM, kS, kG, kN⟩ := h
        refine ⟨_, pe_make OC.mkr GN (hr.mono (by decide)) rfl OC.gm bN .nil (passes_call (takes_of rfl rfl rfl rfl) fun _ _ _ _ z => z) (pa_cons (pe_callTy call_tuple_of (by rfl) B.tuple (by decide +kernel) (pa_cons (pv 0) pa_nil)) (pa_cons (pe_callTy call_tuple_of (by rfl) B.tuple (by decide +kernel) (pa_cons (pv 1) pa_nil)) pa_nil)), ?_⟩
        refine ⟨_, rfl, Cm, vs, rfl, .inl ⟨SqL.of hC, fun t1 ht1 => ?_⟩⟩
        have u1 := same_upd (o := .tup vs) ht1
        refine ⟨_, rfl, Gm, _, rfl, .inl ⟨SqL.of (u1 _ _ hG), fun t2 ht2 => fun x dx hx hdx ne => ?_⟩⟩
        have u2 := same_upd (o := .tup (gs.map V.int)) ht2
        have sx : Same (upd (upd H t1 (.tup vs)) t2 (.tup (gs.map V.int))) (upd (upd (upd (upd H t1 (.tup vs)) t2 (.tup (gs.map V.int))) dx (.own x)) x (.ins C dx [])) := fun b o e => by
          rw [upd_ne (ne_of_none e hx), upd_ne (ne_of_none e hdx)]
          exact e
        have sA := (u1.trans u2).trans sx
        refine ⟨x, dx, t1, t2, vs, cs, gs, rfl, upd_same, (u2.trans sx) _ _ upd_same, pairs_same sA pC, sx _ _ upd_same, by omega, by omega, fun c hc => (gc c hc).1, fun big H' s' => kM (fo_many big) H' (sA.trans s'), fun c10 => ⟨fun i e H' d s' hd => kS i (fo_stay c10 e) H' d (sA.trans s') hd, fun e => ⟨fun i g H' d s' hd => kG i (fo_going c10 e g) H' d (sA.trans s') hd, fun g H' OA keep => ⟨rfl, kN (fo_none c10 e g) x H' (fun b o eb => keep b o (ne_of_none ((u1.trans u2) _ _ eb) hx) (sA _ _ eb)) OA⟩⟩⟩⟩
      · have Sh := Se.grows Gh
        have xh := Gh.ext
        have ok : ∀ {H2 : Hp}, Same Hh H2 → St K T l a ns H2 ∧ LamX.ExtN He H2 := fun s => ⟨Sh.same s, xh.trans (LamX.ExtN.of s)⟩
        refine ⟨Cm, Gm, wx, cs, gs, rfl, xh _ _ (se _ _ eCx) (fun _ z => nomatch z), pair_mono (fun _ _ ⟨t, e, ht⟩ => ⟨t, e, xh _ _ (se _ _ ht) fun _ z => nomatch z⟩) pCx, xh _ _ (se _ _ Gx.at_) (fun _ z => nomatch z), by omega, by have := Gx.len; omega, gCx, fun e H' s' => ?_, fun i e H' d s' hd => ?_, fun i e H' d s' hd => ?_, fun e x H' s' OA => h0 _ _ ⟨(ok s').1, (ok s').2, .inr ⟨e, x, rfl, OA⟩⟩⟩
        · exact hE _ _ _ (.inr (.inr ⟨rfl, fun p H2 s2 e2 => h0 _ _ ⟨(ok (s'.trans s2)).1, (ok (s'.trans s2)).2, .inl ⟨_, e, p, rfl, e2⟩⟩⟩))
        · exact hE _ _ _ (.inr (.inl ⟨rfl, d, i, rfl, hd, fun p H2 s2 e2 => h0 _ _ ⟨(ok (s'.trans s2)).1, (ok (s'.trans s2)).2, .inl ⟨_, e, p, rfl, e2⟩⟩⟩))
        · exact hE _ _ _ (.inl ⟨rfl, d, i, rfl, hd, fun p H2 s2 e2 => h0 _ _ ⟨(ok (s'.trans s2)).1, (ok (s'.trans s2)).2, .inl ⟨_, e, p, rfl, e2⟩⟩⟩)
    obtain ⟨Sf, ef, hf⟩ := hf
    refine name_at (if_no (fun R0 h0 => ?_) fun Hg sg => ?_)
    · rcases hf with ⟨o, eo, p, rfl, hp⟩ | ⟨en, x, rfl, OA⟩
      · rw [eo] at fe
        obtain ⟨pe, rfl, hpe⟩ := fe
        refine ⟨_, rfl, _, rfl, ?_⟩
        have e1 : (!decide (V.ref pe = V.non)) = true := by simp
        rw [e1]
        refine iteT ?_
        obtain ⟨ds, dp, sh, ev, dpA⟩ := fo_dp (K := K) (H := Hf) o
        refine ⟨_, rfl, _, rfl, .tuple ds, .tuple ds, .tup (SqT.of hp) (dpA _), .tup (SqT.of (ef _ _ hpe fun _ z => nomatch z)) (dpA _), sh, sh, _, rfl, ?_⟩
        rw [ev]
        exact h0 _ (Same.refl _)
      · rw [en] at fe
        obtain rfl : ve = .non := fe
        refine ⟨_, rfl, _, rfl, ?_⟩
        have e1 : (!decide (V.non = V.non)) = false := by simp
        rw [e1]
        exact iteF (h0 _ (Same.refl _))
    have Sg := Sf.same sg
    refine if_rel1 (fun H' => St K T l a ns H') (fun R0 h0 => ?_) fun Hk sk => ⟨_, _, _, _, _, _, _, _, _, _, _, _, _, _, _, _, rfl, sk⟩
    rcases hf with ⟨o, eo, p, rfl, hp⟩ | ⟨en, x, rfl, OA⟩
    · rw [eo] at fe
      obtain ⟨pe, rfl, hpe⟩ := fe
      refine ⟨_, rfl, _, rfl, ?_⟩
      have e1 : decide (V.ref pe = V.non) = false := by simp
      rw [e1]
      exact iteF (h0 _ Sg)
    · rw [en] at fe
      obtain rfl : ve = .non := fe
      refine ⟨_, rfl, _, rfl, ?_⟩
      have e1 : decide (V.non = V.non) = true := by simp
      rw [e1]
      have OAg := obs_same sg OA
      obtain ⟨dx, _, _, _, _, hx, _⟩ := id OAg
      refine iteT ⟨_, rfl, .ref x, .ty "tuple", .ref C, .type "tuple", false, rfl, .ty _, .base (.ins hx OC.cl iC1 iO1 iO2 iC2), iC3, _, rfl, iteF ?_⟩
      refine ⟨_, rfl, x, dx, _, rfl, hx, x, cs, gs, rfl, OAg, fun lr hlr => ⟨Nat.zero_le _, fun L hL => ?_⟩⟩
      have u1 := same_upd (o := .lst []) hlr
      have u2 := same_upd (o := .lst []) hL
      refine ⟨.list [], .list [], .lst (SqL.of (u2 _ _ upd_same)) .nil, .lst (SqL.of upd_same) .nil, rfl, rfl, _, rfl, iteF ?_⟩
      have s12 := u1.trans u2
      refine ⟨_, rfl, x, dx, _, rfl, s12 _ _ hx, lk_way _ _ _, x, cs, gs, rfl, obs_same s12 OAg, fo_valid en, (Sg.same s12).t, fun c H' gr hc => ⟨_, _, rfl, rfl, _, rfl, ?_⟩⟩
      rw [decide_eq_false (by omega)]
      exact h0 _ ((Sg.same s12).grows gr)
  · rintro σ H2 ⟨o2, o3, o4, o5, o6, o7, o8, o9, o10, o11, o12, o13, o14, o15, o16, o17, rfl, S2⟩
    exact k _
end

end Go
set_option Elab.async false
set_option linter.all false
set_option maxRecDepth 100000
set_option maxHeartbeats 4000000
/-! The head's facts of k09. -/
namespace Go
open PySem L2 Sho NdefX He Shh Shg Sh1 Shd Sh4
abbrev dm (C m qual : Str) (st : Stmt) : Dn := ⟨fun K => ma K (ga K C) m, m, qual, st, fun _ => []⟩
abbrev dp (C m qual : Str) (st : Stmt) : Dn := ⟨fun K => getA K (ga K C) m, m, qual, st, fun _ => []⟩
abbrev dnE (x : Str) (qual : Str) (st : Stmt) : Dn := ⟨fun K => eInit K x, "__init__", qual, st, fun K => [(("__class__" : Str), cellA K (eInit K x))]⟩
theorem sblt {mg : Str → Option Value} (k : ∀ x, x ∈ bltNames → mg x = none) : Sh1.Blt mg := ⟨k _ (by simp), k _ (by simp), k _ (by simp), k _ (by simp), k _ (by simp), k _ (by simp), k _ (by simp), k _ (by simp), k _ (by simp), k _ (by simp), k _ (by simp)⟩
theorem ernO_ok {K : Shh.Fr} {mg : Str → Option Value} {x : Str} (gm : mg x = some (.ref (ga K x))) (c : ernB K x = true) : ErrO K mg x (ga K x) := by
  obtain ⟨c1, c⟩ := ba c
  obtain ⟨c2, c⟩ := ba c
  obtain ⟨c3, c⟩ := ba c
  obtain ⟨c4, c5⟩ := ba c
  exact ⟨c1, gm, c2, of_decide_eq_true c3, of_decide_eq_true c4, of_decide_eq_true c5⟩
theorem errC_InvalidStay {K : Shh.Fr} {mg : Str → Option Value} {P : Program} (E : ErrF "/claim/cut.py" K "InvalidStay" "index") (D : FunF K "__init__" "InvalidStay.__init__" sInvInit [(("__class__" : Str), cellA K (eInit K "InvalidStay"))] (eInit K "InvalidStay")) (hf : P.main.file = "/claim/cut.py") (sup : mg "super" = none)
    (h2 : (P.main.scope.names.lookup ("super" : Str)).isSome = false) (gm : mg "InvalidStay" = some (.ref (ga K "InvalidStay"))) : ErrC P K mg "InvalidStay" "index" nfInv (ga K "InvalidStay") :=
  ⟨⟨_, _, _, err_txt E D hf sup ⟨_, rfl, rfl⟩ h2 (by decide +kernel) (by decide +kernel) (by decide +kernel), E.ini, E.ity⟩, E.sup, E.xf, E.no, gm, E.exm⟩
theorem errC_InvalidGoings {K : Shh.Fr} {mg : Str → Option Value} {P : Program} (E : ErrF "/claim/cut.py" K "InvalidGoings" "index") (D : FunF K "__init__" "InvalidGoings.__init__" sGoingsInit [(("__class__" : Str), cellA K (eInit K "InvalidGoings"))] (eInit K "InvalidGoings")) (hf : P.main.file = "/claim/cut.py") (sup : mg "super" = none)
    (h2 : (P.main.scope.names.lookup ("super" : Str)).isSome = false) (gm : mg "InvalidGoings" = some (.ref (ga K "InvalidGoings"))) : ErrC P K mg "InvalidGoings" "index" nfGo (ga K "InvalidGoings") :=
  ⟨⟨_, _, _, err_txt E D hf sup ⟨_, rfl, rfl⟩ h2 (by decide +kernel) (by decide +kernel) (by decide +kernel), E.ini, E.ity⟩, E.sup, E.xf, E.no, gm, E.exm⟩
abbrev glo09 : List Str := "is_name" :: "is_within" :: "_check_comings" :: "_check_goings" :: "_after_going" :: "_ways_to_go" :: "_law_start" :: "_law_drawn" :: "_law_outcome" :: "_law_fault" :: "InvalidStay" :: "InvalidGoings" :: "TooManyGuests" :: "GoingObserver" :: "bottom_up" :: "law" :: []
abbrev keep09 : List Str := ["is_name", "is_within", "_check_comings", "_check_goings", "_after_going", "_ways_to_go", "_law_start", "_law_drawn", "_law_outcome", "_law_fault", "bottom_up", "law"]
def fn09 : List Dn := [Shd.dn "is_name" sIsName, Shd.dn "is_within" sIsWithin, Shd.dn "_check_comings" sCheckComings, Shd.dn "_check_goings" sCheckGoings, Shd.dn "_after_going" sAfterGoing, Shd.dn "_ways_to_go" sWaysToGo, Shd.dn "_law_start" sStart, Shd.dn "_law_drawn" sDrawn, Shd.dn "_law_outcome" sOut, Shd.dn "_law_fault" sLawFault, dnE "InvalidStay" "InvalidStay.__init__" sInvInit, dnE "InvalidGoings" "InvalidGoings.__init__" sGoingsInit, dm "GoingObserver" "__init__" "GoingObserver.__init__" sGoingObserver_Init, dp "GoingObserver" "records" "GoingObserver.records" sGoingObserver_Records, dm "GoingObserver" "way_count" "GoingObserver.way_count" sGoingObserver_WayCount, Shd.dn "bottom_up" sBottomUp, Shd.dn "law" sLaw]
def fa09 : List (Shh.Fr → Bool) := [fun K => gloB K glo09, fun K => freeB K bltNames, fun K => keepB K keep09, fun K => decide (Shd.tabA K "bottom_up" ≠ Shd.tabA K "law"), fun K => (Fa.int "LONGEST_NAME" 8).ok K, fun K => (Fa.int "LAST_TICK" 1000000000).ok K, fun K => (Fa.int "MOST_GUESTS" 10).ok K, fun K => errB "/claim/cut.py" K "InvalidStay" "index", fun K => errB "/claim/cut.py" K "InvalidGoings" "index", fun K => ernB K "TooManyGuests", fun K => decide (PySem.W.exmOne K (.ref (ga K "InvalidStay")) (.ref (ga K "InvalidGoings")) = some false), fun K => decide (PySem.W.exmOne K (.ref (ga K "TooManyGuests")) (.ref (ga K "InvalidGoings")) = some false), fun K => decide (PySem.W.exmOne K (.ref (ga K "TooManyGuests")) (.ref (ga K "InvalidStay")) = some false), fun K => (Fa.cls "GoingObserver").ok K, fun K => ["_comings", "_goings", "_accepted"].all fun x => (Fa.noat "GoingObserver" x).ok K, fun K => (Fa.mkr "GoingObserver").ok K, fun K => PySem.W.keepIn K (.ref (ma K (ga K "GoingObserver") "__init__")), fun K => propB K (ga K "GoingObserver") "records", fun K => PySem.W.keepIn K (.ref (getA K (ga K "GoingObserver") "records")), fun K => (Fa.meth "GoingObserver" "way_count").ok K, fun K => eqO (PySem.W.findIn K (.ref (ga K "GoingObserver")) "__class__") (some (some (.builtin "object.__class__"))), fun K => decide (PySem.W.mroIn K (ga K "GoingObserver") (.type "object") = some true), fun K => decide (PySem.W.kitOne K (.ref (ga K "GoingObserver")) (.type "tuple") = some false), fun K => eqO (PySem.W.specialIn K (.builtin "object.__class__") "__get__") (some (some (.builtin "getset_descriptor.__get__"))), fun K => decide (PySem.W.takesIn K (.builtin "object.__class__") = some true)]
def tf09 : List (Shh.Fr → Addr) := [fun K => ga K "bottom_up", fun K => ga K "law"]
abbrev T09 (K : Shh.Fr) : List (Addr × Str) := [(Shd.tabA K "bottom_up", qBot), (Shd.tabA K "law", qLaw)]
abbrev cs09 (K : Shh.Fr) : List (Addr × Addr) := [(codeA K (ga K "bottom_up"), Shd.tabA K "bottom_up"), (codeA K (ga K "law"), Shd.tabA K "law")]
theorem facts09 {P : Program} {w : World} {K : Shh.Fr} {h : Heap} {mg : Str → Option Value} (X : K.In h) (G : h.Ns mainGlobals mg) (c : SaysS fa09 fn09 tf09 h K) (hf : P.main.file = "/claim/cut.py") (hs : (P.main.scope.names.lookup ("super" : Str)).isSome = false) :
    ∃ fd : FuncData, (∀ (s : Shared) (v : Value), BindsTo s fd ⟨[v], []⟩ [("_law_script", v)]) ∧ ∀ base : Heap, (∀ p ∈ cs09 K, LamX.TabB base mg p.1 p.2) → FnOk P w K mg base (L2.CX P w) 13 (ga K "law") fd ["_law_script"] (spLaw K (T09 K)) := by
  have B := Shd.blt_ok X G (c.fact 1)
  have B1 : Sh1.Blt mg := sblt fun x hx => freeB_ok X G (c.fact 1) hx
  have g : ∀ x, x ∈ glo09 → mg x = some (.ref (ga K x)) := fun x hx => gloB_ok X G (c.fact 0) hx
  have kp : ∀ x, x ∈ keep09 → PySem.W.keepIn K (.ref (ga K x)) = true := fun x hx => keepB_ok (c.fact 2) hx
  obtain ⟨tg8, g8⟩ := int_ok X G (x := "LONGEST_NAME") (i := 8) (c.fact 4)
  obtain ⟨tg9, g9⟩ := int_ok X G (x := "LAST_TICK") (i := 1000000000) (c.fact 5)
  obtain ⟨tg10, g10⟩ := int_ok X G (x := "MOST_GUESTS") (i := 10) (c.fact 6)
  have ECI : ErrC P K mg "InvalidStay" "index" nfInv (ga K "InvalidStay") := errC_InvalidStay (errB_ok (K := K) (file := "/claim/cut.py") (x := "InvalidStay") (fld := "index") (c.fact 7)) (c.def_ 10 (d := dnE "InvalidStay" "InvalidStay.__init__" sInvInit)) hf B.sup hs (g "InvalidStay" (by simp))
  have ECG : ErrC P K mg "InvalidGoings" "index" nfGo (ga K "InvalidGoings") := errC_InvalidGoings (errB_ok (K := K) (file := "/claim/cut.py") (x := "InvalidGoings") (fld := "index") (c.fact 8)) (c.def_ 11 (d := dnE "InvalidGoings" "InvalidGoings.__init__" sGoingsInit)) hf B.sup hs (g "InvalidGoings" (by simp))
  have ET : ErrO K mg "TooManyGuests" (ga K "TooManyGuests") := ernO_ok (g "TooManyGuests" (by simp)) (c.fact 9)
  have xig : PySem.W.exmOne K (.ref (ga K "InvalidStay")) (.ref (ga K "InvalidGoings")) = some false := of_decide_eq_true (c.fact 10)
  have xtg : PySem.W.exmOne K (.ref (ga K "TooManyGuests")) (.ref (ga K "InvalidGoings")) = some false := of_decide_eq_true (c.fact 11)
  have xti : PySem.W.exmOne K (.ref (ga K "TooManyGuests")) (.ref (ga K "InvalidStay")) = some false := of_decide_eq_true (c.fact 12)
  have go_c : Cls K (ga K "GoingObserver") := cls_ok (c.fact 13)
  have go_na : ((["_comings", "_goings", "_accepted"] : List Str).all fun x => (Fa.noat "GoingObserver" x).ok K) = true := c.fact 14
  have go_n : ∀ x, x ∈ (["_comings", "_goings", "_accepted"] : List Str) → NoAttr K (ga K "GoingObserver") x := fun x hx => noat_ok (List.all_eq_true.mp go_na x hx)
  have go_m : Mk K (ga K "GoingObserver") (ma K (ga K "GoingObserver") "__init__") := mkr_ok (c.fact 15)
  have go_mk : PySem.W.keepIn K (.ref (ma K (ga K "GoingObserver") "__init__")) = true := c.fact 16
  obtain ⟨fdI, FI, bI, _⟩ := FunF.funW (c.def_ 12 (d := dm "GoingObserver" "__init__" "GoingObserver.__init__" sGoingObserver_Init)) go_mk
  have bI := bI ["self", "comings", "goings"] (fun _ _ _ _ _ _ us hl => match us, hl with | [_, _, _], _ => rfl)
  have PR : PropOf K (ga K "GoingObserver") "records" (ma K (ga K "GoingObserver") "records") (getA K (ga K "GoingObserver") "records") := propB_ok (c.fact 17)
  have PRk : PySem.W.keepIn K (.ref (getA K (ga K "GoingObserver") "records")) = true := c.fact 18
  obtain ⟨fdR, FR, bR, _⟩ := FunF.funW (c.def_ 13 (d := dp "GoingObserver" "records" "GoingObserver.records" sGoingObserver_Records)) PRk
  have bR := bR ["self"] (fun _ _ _ _ _ _ us hl => match us, hl with | [_], _ => rfl)
  have MW : Meth K (ga K "GoingObserver") "way_count" (ma K (ga K "GoingObserver") "way_count") := meth_ok (c.fact 19)
  obtain ⟨fdW, FW, bW, _⟩ := FunF.funW (c.def_ 14 (d := dm "GoingObserver" "way_count" "GoingObserver.way_count" sGoingObserver_WayCount)) MW.kp
  have bW := bW ["self"] (fun _ _ _ _ _ _ us hl => match us, hl with | [_], _ => rfl)
  have ic1 : PySem.W.findIn K (.ref (ga K "GoingObserver")) "__class__" = some (some (.builtin "object.__class__")) := eqO_ok (c.fact 20)
  have ic2 : PySem.W.mroIn K (ga K "GoingObserver") (.type "object") = some true := of_decide_eq_true (c.fact 21)
  have ic3 : PySem.W.kitOne K (.ref (ga K "GoingObserver")) (.type "tuple") = some false := of_decide_eq_true (c.fact 22)
  have io1 : PySem.W.specialIn K (.builtin "object.__class__") "__get__" = some (some (.builtin "getset_descriptor.__get__")) := eqO_ok (c.fact 23)
  have io2 : PySem.W.takesIn K (.builtin "object.__class__") = some true := of_decide_eq_true (c.fact 24)
  obtain ⟨fd_0, F_0, b_0, _⟩ := FunF.funW (c.def_ 0 (d := Shd.dn "is_name" sIsName)) (kp "is_name" (by simp))
  have b_0 := b_0 ["word"] (fun _ _ _ _ _ _ us hl => match us, hl with | [_], _ => rfl)
  have m_0 := g "is_name" (by simp)
  have k_0 := kp "is_name" (by simp)
  obtain ⟨fd_1, F_1, b_1, _⟩ := FunF.funW (c.def_ 1 (d := Shd.dn "is_within" sIsWithin)) (kp "is_within" (by simp))
  have b_1 := b_1 ["number", "low", "high"] (fun _ _ _ _ _ _ us hl => match us, hl with | [_, _, _], _ => rfl)
  have m_1 := g "is_within" (by simp)
  have k_1 := kp "is_within" (by simp)
  obtain ⟨fd_2, F_2, b_2, _⟩ := FunF.funW (c.def_ 2 (d := Shd.dn "_check_comings" sCheckComings)) (kp "_check_comings" (by simp))
  have b_2 := b_2 ["comings"] (fun _ _ _ _ _ _ us hl => match us, hl with | [_], _ => rfl)
  have m_2 := g "_check_comings" (by simp)
  have k_2 := kp "_check_comings" (by simp)
  obtain ⟨fd_3, F_3, b_3, _⟩ := FunF.funW (c.def_ 3 (d := Shd.dn "_check_goings" sCheckGoings)) (kp "_check_goings" (by simp))
  have b_3 := b_3 ["comings", "goings"] (fun _ _ _ _ _ _ us hl => match us, hl with | [_, _], _ => rfl)
  have m_3 := g "_check_goings" (by simp)
  have k_3 := kp "_check_goings" (by simp)
  obtain ⟨fd_4, F_4, b_4, _⟩ := FunF.funW (c.def_ 4 (d := Shd.dn "_after_going" sAfterGoing)) (kp "_after_going" (by simp))
  have b_4 := b_4 ["piles", "seen"] (fun _ _ _ _ _ _ us hl => match us, hl with | [_, _], _ => rfl)
  have m_4 := g "_after_going" (by simp)
  have k_4 := kp "_after_going" (by simp)
  obtain ⟨fd_5, F_5, b_5, _⟩ := FunF.funW (c.def_ 5 (d := Shd.dn "_ways_to_go" sWaysToGo)) (kp "_ways_to_go" (by simp))
  have b_5 := b_5 ["comings", "goings", "records"] (fun _ _ _ _ _ _ us hl => match us, hl with | [_, _, _], _ => rfl)
  have m_5 := g "_ways_to_go" (by simp)
  have k_5 := kp "_ways_to_go" (by simp)
  obtain ⟨fd_6, F_6, b_6, _⟩ := FunF.funW (c.def_ 6 (d := Shd.dn "_law_start" sStart)) (kp "_law_start" (by simp))
  have b_6 := b_6 ["_law_script"] (fun _ _ _ _ _ _ us hl => match us, hl with | [_], _ => rfl)
  have m_6 := g "_law_start" (by simp)
  have k_6 := kp "_law_start" (by simp)
  obtain ⟨fd_7, F_7, b_7, _⟩ := FunF.funW (c.def_ 7 (d := Shd.dn "_law_drawn" sDrawn)) (kp "_law_drawn" (by simp))
  have b_7 := b_7 ["_law_state", "_law_count"] (fun _ _ _ _ _ _ us hl => match us, hl with | [_, _], _ => rfl)
  have m_7 := g "_law_drawn" (by simp)
  have k_7 := kp "_law_drawn" (by simp)
  obtain ⟨fd_8, F_8, b_8, _⟩ := FunF.funW (c.def_ 8 (d := Shd.dn "_law_outcome" sOut)) (kp "_law_outcome" (by simp))
  have b_8 := b_8 ["_law_work"] (fun _ _ _ _ _ _ us hl => match us, hl with | [_], _ => rfl)
  have m_8 := g "_law_outcome" (by simp)
  have k_8 := kp "_law_outcome" (by simp)
  obtain ⟨fd_9, F_9, b_9, _⟩ := FunF.funW (c.def_ 9 (d := Shd.dn "_law_fault" sLawFault)) (kp "_law_fault" (by simp))
  have b_9 := b_9 ["_law_comings", "_law_goings"] (fun _ _ _ _ _ _ us hl => match us, hl with | [_, _], _ => rfl)
  have m_9 := g "_law_fault" (by simp)
  have k_9 := kp "_law_fault" (by simp)
  have n1 : Shd.tabA K "bottom_up" ≠ Shd.tabA K "law" := of_decide_eq_true (c.fact 3)
  obtain ⟨fdB, FB, bB, _⟩ := FunF.funL9 (c.def_ 15 (d := Shd.dn "bottom_up" sBottomUp))
  have bB := bB ["stays"] (fun _ _ _ _ _ _ us hl => match us, hl with | [_], _ => rfl)
  have mB := g "bottom_up" (by simp)
  have kB := kp "bottom_up" (by simp)
  obtain ⟨fdL, FL, _, bL⟩ := FunF.funL9 (c.def_ 16 (d := Shd.dn "law" sLaw))
  refine ⟨fdL, fun s v => bL ["_law_script"] (fun _ _ _ _ _ _ us hl => match us, hl with | [_], _ => rfl) s [v] rfl, fun base hT => ?_⟩
  have TL : LamX.TabB base mg (codeA K (ga K "law")) (Shd.tabA K "law") := hT (codeA K (ga K "law"), Shd.tabA K "law") (by simp)
  have TB : LamX.TabB base mg (codeA K (ga K "bottom_up")) (Shd.tabA K "bottom_up") := hT (codeA K (ga K "bottom_up"), Shd.tabA K "bottom_up") (by simp)
  have uB : ∀ p ∈ T09 K, p.1 = Shd.tabA K "bottom_up" → p.2 = qBot := fun p hp e => by
    rcases List.mem_cons.mp hp with rfl | hp
    · rfl
    · rcases List.mem_cons.mp hp with rfl | hp
      · exact absurd e.symm n1
      · cases hp
  have uL : ∀ p ∈ T09 K, p.1 = Shd.tabA K "law" → p.2 = qLaw := fun p hp e => by
    rcases List.mem_cons.mp hp with rfl | hp
    · exact absurd e n1
    · rcases List.mem_cons.mp hp with rfl | hp
      · rfl
      · cases hp
  have OC : ObsC K mg (ga K "GoingObserver") (ma K (ga K "GoingObserver") "__init__") := ⟨g "GoingObserver" (by simp), go_c, go_n _ (by simp), go_n _ (by simp), go_n _ (by simp), go_m⟩
  have G_0 : FnOk P w K mg base CX0 1 _ _ _ _ := ok_isName F_0 B1 g8
  have G_1 : FnOk P w K mg base CX0 1 _ _ _ _ := ok_isWithin F_1 B
  have GB : FnOk P w K mg base CX0 5 _ _ _ _ := ok_bottom (T := T09 K) FB B TB (by simp) uB
  have G_2 : FnOk P w K mg base (L2.CX P w) 3 _ _ _ _ := ok_checkC F_2 B ET ECI g10 g9 G_0 m_0 k_0 b_0 G_1 m_1 k_1 b_1
  have G_3 : FnOk P w K mg base (L2.CX P w) 3 _ _ _ _ := ok_checkG F_3 B ECG g9 G_1 m_1 k_1 b_1
  have G_4 : FnOk P w K mg base CX0 1 _ _ _ _ := ok_afterG F_4 B
  have G_5 : FnOk P w K mg base CX0 6 _ _ _ _ := ok_ways (T := T09 K) F_5 B GB mB kB bB G_4 m_4 k_4 b_4
  have GI : FnOk P w K mg base (L2.CX P w) 4 _ _ _ _ := ok_obs FI OC G_2 m_2 k_2 b_2 G_3 m_3 k_3 b_3
  have GW : FnOk P w K mg base CX0 7 _ _ _ (spWayCount K mg (ga K "GoingObserver") (ma K (ga K "GoingObserver") "__init__") (T09 K)) := ok_wayCount FW OC G_5 m_5 k_5 b_5
  have GR : FnOk P w K mg base CX0 1 _ _ _ (spRec (ga K "GoingObserver")) := ok_records FR B OC
  exact ok_law (C := (ga K "GoingObserver")) (fI := ma K (ga K "GoingObserver") "__init__") (CT := ga K "TooManyGuests") (CI := ga K "InvalidStay") (CG := ga K "InvalidGoings") FL ⟨B, OC, ⟨ECG.gm, ECI.gm, ET.gm, ECG.xf, ECI.xf, ECG.no, ECI.no, ECG.exm, xig, ECI.exm, xtg, xti, ET.exm⟩, ⟨_, _, ok_start F_6, m_6, k_6, b_6⟩, ⟨_, _, ok_drawn F_7 B1, m_7, k_7, b_7⟩, ⟨_, _, F_8, m_8, k_8, b_8⟩, ⟨_, _, ok_fault F_9 B, m_9, k_9, b_9⟩,
    ⟨_, GI, bI⟩, ⟨_, _, _, GR, PR, bR⟩, ⟨_, _, GW, MW, bW⟩, ⟨ic1, ic2, ic3⟩, io1, io2⟩ TL (by simp) uL
end Go
set_option Elab.async false
set_option linter.all false
set_option maxRecDepth 100000
set_option maxHeartbeats 0
namespace Go
open PySem PySem.Spec PyProof.Rows L2 Sho He Shh Shd
abbrev R09 : PySem.W.OpenRow := PySem.W.OpenLaw.row PySem.Challenge.rw_shoepile_k09_invalid_comings_and_goings
abbrev hk09 : PySem.W.Hook := hookS 6 fa09 fn09 tf09
def ob09 (s : PySem.W.SharedT) : Shh.AlS := obsS 6 fa09 fn09 tf09 (HandSHeadRun.getT s)
theorem ob09_eq (s : PySem.W.SharedT) : ob09 s = hk09.obs s.abs := obsS_eq (HandSHeadRun.getT_eq s)
def looseA : List Str := ["_wall", "PartyError", "InvalidStay", "TooManyGuests", "InvalidGoings", "LAST_TICK", "LONGEST_NAME", "is_name", "is_within", "bottom_up"]
def looseB : List Str := ["MOST_GUESTS", "_check_comings", "_check_goings", "_after_going", "_ways_to_go", "GoingObserver", "_law_start", "_law_drawn", "_law_same", "_law_outcome", "_law_fault"]
def loose09 : List Str := looseA ++ looseB
theorem run09 (w : World) : HandSHeadRun.RunEq R09 (PySem.W.view R09.prog [25]) hk09 ob09 20000 loose09 w := by
  intro os
  kernel_rfl
theorem cases2 {α : Type} {a b : α} (P : α → Prop) (pa : P a) (pb : P b) : ∀ x ∈ [a, b], P x := fun x h => by
  rcases List.mem_cons.mp h with rfl | h
  · exact pa
  · rcases List.mem_cons.mp h with rfl | h
    · exact pb
    · cases h
theorem at09 {w : World} {K : Shh.Fr} {h : Heap} {mg : Str → Option Value} {fa : Addr} (KX : K.In h) (G : h.Ns mainGlobals mg) (c : SaysS fa09 fn09 tf09 h K) (hmg : mg "law" = some (.ref fa)) :
    LamX.LawAtS PySem.Challenge.rw_shoepile_k09_invalid_comings_and_goings w K (L2.CX PySem.Challenge.rw_shoepile_k09_invalid_comings_and_goings.prog w) 13 63 "_law_script" mg fa h := by
  obtain ⟨fd, hb, hF⟩ := facts09 (P := PySem.Challenge.rw_shoepile_k09_invalid_comings_and_goings.prog) (w := w) KX G c rfl (by decide +kernel)
  have e : fa = ga K "law" := by
    have q := hmg.symm.trans (gloB_ok KX G (xs := glo09) (c.fact 0) (x := "law") (by simp))
    injection q with q
    injection q
  subst e
  have t0 : (fun K => ga K "bottom_up") ∈ tf09 := List.mem_cons_self
  have t1 : (fun K => ga K "law") ∈ tf09 := List.mem_cons_of_mem _ List.mem_cons_self
  refine ⟨fd, cs09 K, spLaw K (T09 K), ?_, ?_, ?_, hb, fun H a ns hl _ ht hS => ?_, fun base _ _ hT => hF base hT⟩
  · exact cases2 (fun p : Addr × Addr => h.get? p.2 = some { cls := .none, data := .fields #[] }) (c.empty _ t0) (c.empty _ t1)
  · exact cases2 (fun p : Addr × Addr => K.lookup p.2 = none) (c.out _ t0) (c.out _ t1)
  · exact cases2 (fun p : Addr × Addr => PySem.W.CodeHd h p.1 p.2) (PySem.W.codeHd_of_K KX (c.hd _ t0)) (PySem.W.codeHd_of_K KX (c.hd _ t1))
  · refine ⟨a, ns, rfl, hS, hl, ?_, fun _ => rfl⟩
    exact cases2 (fun p : Addr × Str => LamX.TabS H p.1 p.2) (LamX.TabS.nil (ht _ List.mem_cons_self)) (LamX.TabS.nil (ht _ (List.mem_cons_of_mem _ List.mem_cons_self)))
end Go
open PySem PySem.W PySem.Calls PyProof.Rows
theorem PySem.Challenge.cw_shoepile_k09_invalid_comings_and_goings_holds : PySem.Challenge.rw_shoepile_k09_invalid_comings_and_goings.Holds := by
  w_on; o_law
  refine HandSHeadRun.head_any (r := OpenLaw.row PySem.Challenge.rw_shoepile_k09_invalid_comings_and_goings) (q := view (OpenLaw.row PySem.Challenge.rw_shoepile_k09_invalid_comings_and_goings).prog [25]) (H := Go.hk09) (ob := Go.ob09) (M := 20000) (loose := Go.loose09) (d := HandSHeadRun.topDef (OpenLaw.row PySem.Challenge.rw_shoepile_k09_invalid_comings_and_goings).prog 25) (kwd := []) Go.ob09_eq
    (by kernel_rfl) (fun s => by kernel_rfl) Go.run09 (by kernel_rfl) (by kernel_rfl) (by kernel_rfl) (by rfl) (by first | assumption | decide +kernel) (by decide +kernel) ⟨rfl, rfl, rfl, rfl, rfl, by decide +kernel⟩ ?hw ?hc
  case hw => w_witness2
  case hc =>
    refine LamX.walk_ofTsE (l := PySem.Challenge.rw_shoepile_k09_invalid_comings_and_goings) (n := 63) (k := 13) (x := "_law_script") (CX := fun w => L2.CX PySem.Challenge.rw_shoepile_k09_invalid_comings_and_goings.prog w) rfl (by decide) (by kernel_rfl) ⟨rfl, by decide, by decide⟩ ?F ?hCX
    case hCX =>
      rintro w H s e s' ⟨a, B, H', cls, d, _, _, _, _, _, _, _, z⟩
      exact z
    case F =>
      intro w mg fa h Y G hmg0
      obtain ⟨K, KX, c⟩ := Y
      have hmg : mg ("law" : PySem.Str) = some (.ref fa) := by
        have e : (HandSHeadRun.topDef (OpenLaw.row PySem.Challenge.rw_shoepile_k09_invalid_comings_and_goings).prog 25).name = ("law" : PySem.Str) := by kernel_rfl
        rw [← e]
        exact hmg0
      exact ⟨K, KX, Go.at09 KX G c hmg⟩
