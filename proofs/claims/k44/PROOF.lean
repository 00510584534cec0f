import PyProof.Rows.All
import Wide.All
import OpenK.AllK
import Wide.FinOn
import KE.KStateDown
import HandS.ForExc
import HandS.Defaults
import HandS.Head0
import HandS.Head1
import HandS.Head2
import HandS.HeadHook1
import HandS.HeadHook2
import HandS.HeadHook3
import HandS.HeadHook4
import HandS.HeadNt
import HandS.HeadWalk
import HandS.EndTab
import HandS.Star
import HandS.Property
import HandS.ExcField
import KE.KExcLine
import KE.KSuper
import HandS.ForMost
import HandS.FStr
import HandS.ExcInit
import HandS.ExcOwn
import HandS.Nested
import HandS.MakeKwOnly
import HandS.Walk
import HandS.More
import HandS.Lambda
import HandS.TryMany
import HandS.TupAny
import HandS.IsInst
import HandS.ClsMeth
import HandS.DeepEq
import HandS.Words
import KE.KExcIs
import HandS.SetFor
import HandS.ExcIs
import HandS.RaiseMore
import HandS.List
import KE.KRevSl
import KE.GoesMore
import PyProof.EnumMake
import PyProof.EnumFor
import PyProof.Draws
import HandS.Dict
import HandS.Style
import HandS.Text
import HandS.IterVal
import HandS.MethStar
import PySem.Challenge.RW_shoepile_k44_whole_operations_reverted
set_option Elab.async false
set_option linter.all false
set_option maxRecDepth 100000
set_option maxHeartbeats 4000000
/-! Own errors over ValueError: made with keywords, their __init__ with super(). -/
namespace ShX
open PySem PySem.W PySem.HandSPX
open Builtin Builtin.ObjectAttr
section
variable {M : Model} {prog : Program} {w : World} {A : Around} {E : Value → Shared → Prop} {R : Result → Shared → Prop}
variable {h : Heap} {g : Array GenState} {d : Drawn} {t : Nat} {os : OsState}
variable {nm q : Str} {C N : Addr} {bs bm bmB : List Value} {hdct : Bool} {sn : List Str} {sub : List Value} {ab : Bool} {col : Option Bool} {dd : Option Addr} {k0 k1 k2 k3 k5 : Option Value} {B newId initId : String}

theorem chk_new (F : ExcBaseFacts B newId initId bmB) (hT : ∀ X : String, bm.contains (.type X) = bmB.contains (.type X)) {kw : List (Str × Value)} {Q : Unit → Shared → Prop}
    (hC : h.get? C = some (excClassObj nm q C N bs bm hdct sn sub ab col dd k0 k1 k2 k3 k5 newId)) (hq : Q () ⟨h, g, d, t, os⟩) :
    wpAny M A (checkBuiltinCall newId ⟨[.ref C], kw⟩) Q E ⟨h, g, d, t, os⟩ := by
  have has : (Value.ref C :: bm).contains (.type B) = true := by rw [List.contains_cons, hT, F.hasB, Bool.or_true]
  have star := F.noStar
  simp only [checkBuiltinCall, F.newKind, F.newSplit, F.newRow]
  repeat (first
    | refine wpAny_loadPart_at hC ?_
    | (refine wpAny_isSubtype_exc hC ?_; rw [has])
    | refine wpAny_staticBase_exc hC ?_
    | refine wpAny_madeBy_exc hC ?_
    | simp only [bne_self_eq_false, Bool.false_eq_true, if_false]
    | wp_step)
  exact hq

/-- the new object: its args are none, the keywords go to __init__ alone -/
theorem new_kw (F : ExcBaseFacts B newId initId bmB) (hT : ∀ X : String, bm.contains (.type X) = bmB.contains (.type X)) {kw : List (Str × Value)}
    (hC : h.get? C = some (excClassObj nm q C N bs bm hdct sn sub ab col dd k0 k1 k2 k3 k5 newId))
    (hq : R (.ok (.ret (.ref (h.objs.size + 1)))) ⟨(h.push (kdv_tup [])).push (excO C h.objs.size), g, d, t, os⟩) :
    codeAny (model prog w) A (.builtin newId ⟨[.ref C], kw⟩) R ⟨h, g, d, t, os⟩ := by
  have ends := F.ends
  have has : ∀ Y : String, (Value.ref C :: bm).contains (.type Y) = bmB.contains (.type Y) := fun Y => by rw [List.contains_cons, hT]; rfl
  have yes : (Value.ref C :: bm).contains (.type B) = true := (has _).trans F.hasB
  have no1 : (Value.ref C :: bm).contains (.type "AttributeError") = false := (has _).trans F.noAttr
  have no2 : (Value.ref C :: bm).contains (.type "NameError") = false := (has _).trans F.noName
  refine codeAny_builtinAt F.entry ?_
  unfold Builtin.«BaseException.__new__»
  refine wpAt_bind ?_
  show wpAt _ _ _ (stack >>= _) _ _ _
  refine wpAt_bind (wpAt_stack fun p below => wpAt_of_wpAny ?_)
  wp_walk
  refine wpAt_of_wpAny ?_
  rw [F.owner]
  repeat (first
    | with_reducible refine wpAny_madeHere_exc F.canon hC ?_
    | with_reducible refine wpAny_loadPart_at hC ?_
    | (with_reducible refine wpAny_isSubtype_exc hC ?_; first | rw [yes] | rw [no1] | rw [no2])
    | wp_step)
  show R _ _
  rw [Heap.size_push]
  exact hq

theorem tcall_kw (F : ExcBaseFacts B newId initId bmB) (hT : ∀ X : String, bm.contains (.type X) = bmB.contains (.type X)) {kw : List (Str × Value)} {fI : Addr} {Q : Fin → Shared → Prop}
    (hC : h.get? C = some (excClassObj nm q C N bs bm hdct sn sub ab col dd k0 k1 k2 k3 k5 newId))
    (hi : Looks (model prog w) h (typeLookup (.ref C) "__init__") (some (.ref fI))) (hb : ∀ self, Looks (model prog w) h (bindSpecial (.ref fI) self) (.ref fI, [self]))
    (hq : codeAny (model prog w) A (.call (.ref fI) ⟨[.ref (h.objs.size + 1)], kw⟩)
      (fun r s' => match r with
        | .ok (.ret v) => v = .none ∧ Q (.done (.ret (.ref (h.objs.size + 1)))) s'
        | .ok _ => False
        | .error e => E e s')
      ⟨(h.push (kdv_tup [])).push (excO C h.objs.size), g, d, t, os⟩) :
    wpAny (model prog w) A (Builtin.«type.__call__» ⟨[.ref C], kw⟩) Q E ⟨h, g, d, t, os⟩ := by
  repeat (first | with_reducible refine wpAny_loadPart_at hC ?_ | with_reducible refine wpAny_madeBy_exc hC ?_ | wp_step)
  refine codeAny_call_builtin_code (Code.quiet_builtin _ F.quiet) (chk_new F hT hC ?_)
  refine new_kw F hT hC ?_
  show wpAny _ _ _ _ _ _
  have kp : ∀ b o, h.get? b = some o → ((h.push (kdv_tup [])).push (excO C h.objs.size)).get? b = some o := fun b o e => Heap.get?_push_of_some _ (Heap.get?_push_of_some _ e)
  have cls1 := kp _ _ hC
  have new1 : ((h.push (kdv_tup [])).push (excO C h.objs.size)).get? (h.objs.size + 1) = some (excO C h.objs.size) := by heap_get
  have self1 : (Value.ref C :: bm).contains (.ref C) = true := by simp
  have look1 := hi.keeps kp
  have bind1 := (hb (.ref (h.objs.size + 1))).keeps kp
  unfold isInstance
  repeat (first | with_reducible refine wpAny_loadPart_at new1 ?_ | (with_reducible refine wpAny_isSubtype_exc cls1 ?_; rw [self1]) | wp_step)
  show wpAny _ _ (typeLookup (.ref C) _) _ _ _
  refine look1.at ?_
  refine wpAny_holding (wpAny_bind (bind1.at ?_))
  refine wpAny_bind (wpAny_call (codeAny_mono hq fun r s' z => ?_))
  rcases r with e | (v | _ | _ | _) <;> first | exact z | exact z.elim | skip
  obtain ⟨rfl, z⟩ := z
  first
    | exact wpAny_pure (wpAny_pure z)
    | (wp_walk; exact z)

theorem chk_tcall {kw : List (Str × Value)} {Q : Unit → Shared → Prop} (hC : h.get? C = some (excClassObj nm q C N bs bm hdct sn sub ab col dd k0 k1 k2 k3 k5 newId))
    (hq : Q () ⟨h, g, d, t, os⟩) : wpAny M A (checkBuiltinCall "type.__call__" ⟨[.ref C], kw⟩) Q E ⟨h, g, d, t, os⟩ := by
  have f3 := tc_sub
  have hT : (⟨h, g, d, t, os⟩ : Shared).TypeIs (.ref C) "type" := ⟨_, hC, rfl⟩
  simp only [checkBuiltinCall, tc_kind, tc_split]
  repeat (any_goals (first | assumption | with_reducible refine wpAny_loadPart_at hC ?_ | with_reducible refine wpAny_onRaise ?_ | with_reducible refine wpAny_map ?_ | wp_step))

theorem call_kw (F : ExcBaseFacts B newId initId bmB) (hT : ∀ X : String, bm.contains (.type X) = bmB.contains (.type X)) {kw : List (Str × Value)} {fI : Addr}
    (hC : h.get? C = some (excClassObj nm q C N bs bm hdct sn sub ab col dd k0 k1 k2 k3 k5 newId))
    (hi : Looks (model prog w) h (typeLookup (.ref C) "__init__") (some (.ref fI))) (hb : ∀ self, Looks (model prog w) h (bindSpecial (.ref fI) self) (.ref fI, [self]))
    (hq : codeAny (model prog w) (A.under (.builtin "type.__call__" ⟨[.ref C], kw⟩)) (.call (.ref fI) ⟨[.ref (h.objs.size + 1)], kw⟩) (InitBack (h.objs.size + 1) R)
      ⟨(h.push (kdv_tup [])).push (excO C h.objs.size), g, d, t, os⟩) :
    codeAny (model prog w) A (.call (.ref C) ⟨[], kw⟩) R ⟨h, g, d, t, os⟩ := by
  have f1 := tc_lookup
  have f2 := tc_bind (.ref C)
  have hTy : (⟨h, g, d, t, os⟩ : Shared).TypeIs (.ref C) "type" := ⟨_, hC, rfl⟩
  refine codeAny_of_tree ?_
  show wpAny _ _ (callAny (.ref C) _) _ _ _
  repeat (any_goals (first | assumption | with_reducible refine wpAny_loadPart_at hC ?_ | wp_step))
  refine ⟨rfl, ?_⟩
  refine codeAny_call_builtin_at (Code.quiet_builtin _ (by decide +kernel)) entry_typeCall (chk_tcall hC (tcall_kw F hT hC hi hb ?_))
  refine codeAny_mono hq fun r s' z => ?_
  rcases r with e | (v | _ | _ | _) <;> exact z
end
end ShX

namespace ShX
open PySem PySem.W PySem.Calls PyProof.Rows PySem.HandSPX
section
variable {prog : Program} {w : World} {A : Around} {E : Value → Shared → Prop} {h : Heap} {g : Array GenState} {d : Drawn} {t : Nat} {os : OsState}
variable {nm q : Str} {C N : Addr} {bs bm : List Value} {hdct : Bool} {sn : List Str} {sub : List Value} {ab : Bool} {col : Option Bool} {dd : Option Addr} {k0 k1 k2 k3 k5 : Option Value}
abbrev veI : String := "ValueError.__init__"
/-- ValueError's __init__, bound to the exception at e, called -/
theorem call_mw {u e t0 : Addr} {rest : List Value} {Q : Value → Shared → Prop}
    (hC : h.get? C = some (excClassObj nm q C N bs bm hdct sn sub ab col dd k0 k1 k2 k3 k5 "ValueError.__new__")) (he : h.get? e = some (excO C t0))
    (hu : h.get? u = some (kxs_mw veI e)) (hz : rest.length ≤ sizeLine)
    (hq : ∀ h' t1, (∀ b o, b ≠ e → h.get? b = some o → h'.get? b = some o) → h'.get? e = some (excO C t1) → Q .none ⟨h', g, d, t, os⟩) :
    wpAny (model prog w) A (call (.ref u) rest) Q E ⟨h, g, d, t, os⟩ := by
  refine wpAny_call (codeAny_of_tree ?_)
  show wpAny _ A.in1 (callAny (.ref u) ⟨rest, []⟩) _ _ _
  simp only [callAny]
  refine wpAny_bind (wpAny_load hu ?_)
  have yes : (Value.type "method-wrapper" == Value.type "method" || Value.type "method-wrapper" == Value.type "builtin_function_or_method" || Value.type "method-wrapper" == Value.type "method-wrapper") = true := by decide
  simp only [kxs_mw, yes, if_true]
  refine KFB.if_so (by decide) ?_
  refine wpAny_bind (check_bound_init F.excBase_ValueError.toExcCallFacts hC he rfl ?_)
  refine wpAny_bind (wpAny_pure (wpAny_pure ?_))
  refine ⟨plainId_quiet F.excBase_ValueError.init.plain _, codeAny_builtin F.excBase_ValueError.initEntry ?_⟩
  exact exc_init_tree (cls := .ref C) (t0 := t0) (dv := none) (c2 := .none) (c3 := .none) (b4 := .bool false) he hz fun h' k e' _ => hq h' _ k e'
end
end ShX
set_option Elab.async false
set_option linter.all false
set_option maxRecDepth 100000
set_option maxHeartbeats 4000000

namespace Sho
open PySem PySem.Spec PyProof.Rows L2 NdefX
/-- what the written part says of an own error's __init__ at f that says super() -/
structure SupTxt (P : Program) (K : PySem.W.Frag) (mg : Str → Option Value) (F : NF) (f cc D : Addr) : Prop where
  fn : ∃ (oc : Value) (od : Option Addr) (doc pm : Value) (an : Option Addr) (ct : Value) (osl : Array (Option Value)),
    K.lookup f = some ⟨oc, od, .func (PySem.W.ksFn F.name F.qual F.params F.body F.scope .none .none doc pm an (.ref F.c) ct cc), osl⟩
  cd : PySem.W.codeIn K (.ref F.c) F.qual = true
  cell : ∃ (cl : Value) (cld : Option Addr) (csl : Array (Option Value)), K.lookup cc = some ⟨cl, cld, .cell (some (.ref D)), csl⟩
  cls : F.cl = [(("__class__" : Str), cc)]
  file : ∃ (oc : Value) (od : Option Addr) (vs : Array Value) (sl : Array (Option Value)) (fl : Str) (tf : Tok), K.lookup F.c = some ⟨oc, od, .fields vs, sl⟩ ∧ vs[2]? = some (.str fl tf) ∧ ((P.main.file : Str) == fl) = true
  first : ∃ ar : Arg, (F.params.posonlyargs ++ F.params.args).head? = some ar ∧ ar.arg = ("self" : Str)
  sup : mg "super" = none
  top : (P.main.scope.names.lookup ("super" : Str)).isSome = false
  ks : F.scope.names.lookup ("super" : Str) = some .globalImplicit
  kc : F.scope.names.lookup ("__class__" : Str) = some .free
  kse : F.scope.names.lookup ("self" : Str) = some .local
  isD : PySem.W.isClsIn K D = true
  opq : PySem.W.nsIn K cStatics "thirdparty.any" = some none
/-- the context's class: C's __init__ from D on is ValueError's -/
structure SupCls (K : PySem.W.Frag) (C D : Addr) : Prop where
  o : OexC K C
  sub : PySem.W.mroIn K C (.ref D) = some true
  nxt : PySem.W.ks_superIn K C D "__init__" = some (some (.builtin ShX.veI))
  ve : PySem.W.subIn K (.ref C) (.type "ValueError") = some true
section
variable {X : Cx} {pins : List (Addr × Obj)} {σ : L2.St} {H : Hp} {s : Shared} {F : NF} {f cc D a C : Addr}
theorem cls_at {K : PySem.W.Frag} {h : Heap} {D : Addr} (X : K.In h) (i : PySem.W.isClsIn K D = true) : ∃ (o : Obj) (cd : ClassData), h.get? D = some o ∧ o.data = .cls cd ∧ PySem.W.clsIn K D = some cd := by
  have i2 : (PySem.W.clsIn K D).isSome = true := i
  cases e : PySem.W.clsIn K D with
  | none =>
    rw [e] at i2
    cases i2
  | some cd =>
    have e0 := e
    unfold PySem.W.clsIn at e
    split at e
    · rename_i c d cd' sl ho
      cases e
      exact ⟨_, _, X _ _ ho, rfl, rfl⟩
    · cases e
/-- super().__init__(e), the exception at a being made -/
theorem sup_stmt {pl : Sem Bool} {R : Hp → Prop} {body : List Stmt} {e : Expr} {te : TA} {p0 p1 p2 p3 p4 : Pos} {Qf : PySem.Flow → Shared → Prop} {Ex : Value → Shared → Prop} (T : SupTxt X.prog X.K X.mg F f cc D) (V : SupCls X.K C D)
    (hX : X.env = envF F f X.env.locals) (I : Inv X pins σ H s) (hi : X.N[0]? = some ("self" : Str)) (hv : σ[0]? = some (some (.ref a))) (ha : H a = some (exo a C none))
    (he : PA X [e] te) (hxe : ∀ v s', X.xe v s' → Ex v s') (hq : te σ H fun xs H1 => xs.length ≤ 1000 ∧ H1 a = some (exo a C none) ∧ R H1) (hR : ∀ H1 s', Inv X pins σ H1 s' → R H1 → Qf .next s')
    (hce : eval (.Call (.Attribute (.Call (.Name "super" p0) [] [] p1) "__init__" p2) [e] [] p3) X.env = (do
      let ov ← attributeBase (.Call (.Name "super" p0) [] [] p1) "__init__" X.env (eval (.Call (.Name "super" p0) [] [] p1) X.env)
      standAt p2.atName
      let (fx, first) ← holding [ov] (getMethod ov "__init__" pl)
      callWith p3 fx first (backTo p3 (starEach [e] X.env)) []))
    (hst : starEach [e] X.env = (false, eval e X.env) :: starEach [] X.env) :
    PySem.wpAt (model X.prog X.w) X.A (.func body X.env) (exec (.Expr (.Call (.Attribute (.Call (.Name "super" p0) [] [] p1) "__init__" p2) [e] [] p3) p4) X.env) Qf Ex s := by
  obtain ⟨fc, fod, doc, pm, an, ct, osl, hf⟩ := T.fn
  obtain ⟨cl, cld, csl, hcell⟩ := T.cell
  obtain ⟨oc, od, vs, sl, fl, tf, hcode, hvs, hfile⟩ := T.file
  obtain ⟨ar, hfirst, har⟩ := T.first
  obtain ⟨oD, cdD, hD1, hD2, _⟩ := cls_at I.kIn T.isD
  obtain ⟨t0, hx⟩ := exo_at I.hok ha
  obtain ⟨nm, q, N, bs, bm, sn, sub, ab, col, dd, k0, k1, k2, k3, k5, hC, hbm⟩ := V.o.cls
  have hclC : PySem.W.clsIn X.K C = some { name := nm, bases := bs, mro := .ref C :: bm, ns := N, qualname := q, hasDict := true, slotNames := sn, subclasses := sub, abstract := ab, collection := col, hasDel := false } := by unfold PySem.W.clsIn; rw [hC] <;> rfl
  have IA : PySem.W.InstAt s.heap a ({ cls := .ref C, data := .fields #[.ref t0, .none, .none, .none, .bool false, .none] } : Obj) C none := ⟨hx, rfl, rfl, True.intro⟩
  have kD : X.env.kindOf ("self" : Str) = some .local := by rw [hX]; exact T.kse
  have selfv : ∃ m, s.heap.Ns X.env.locals m ∧ m ("self" : Str) = some (.ref a) := by
    obtain ⟨m, hm, hl⟩ := I.loc
    obtain ⟨u, ru, lk⟩ := hl 0 _ _ hi hv (.inl (by have := kD; rw [hX] at this; rw [hX]; exact this))
    obtain rfl : u = Value.ref a := ru
    rcases lk with ⟨_, e⟩ | ⟨e, _⟩
    · exact ⟨m, hm, e⟩
    · rw [kD] at e
      rcases e with e | e <;> cases e
  obtain ⟨m, hm, hself⟩ := selfv
  obtain ⟨mb, hb1, hb2⟩ := I.mod.blt
  have ek : X.env.scope.kind = .function := I.ok.kind
  have e1 : X.env.kindOf ("super" : Str) = some .globalImplicit := by rw [hX]; exact T.ks
  have e2 : X.env.kindOf ("__class__" : Str) = some .free := by rw [hX]; exact T.kc
  have e3 : X.env.cells.lookup ("__class__" : Str) = some cc := by
    rw [hX]
    show F.cl.lookup _ = _
    rw [T.cls]
    rfl
  refine ks_wpAt_Expr_any ?_ (I.quiet) (by rfl)
  refine ks_wpAt_MethodCall ?_ hce
  refine ks_wpAt_super_base (prog := X.prog) (w := X.w) (f := f) (cc := F.c) e1 e2 (by rfl) (by rw [hX]) (I.kIn _ _ hf) rfl hfirst (by rw [hX]) (I.kIn _ _ hcode) rfl hvs hfile T.top ?_
  refine PySem.W.ks_loadName_global ek e1 (PySem.Calls.loadGlobal_builtin (by rw [I.ok.glob]; exact I.mod.glob.keeps I.bk) T.sup (by rw [I.ok.blt]; exact hb1.keeps I.bk) ((hb2 _ (by decide)).trans (by decide +kernel)) ⟨rfl, ?_⟩)
  refine wpAny_loadName_free ek e2 e3 ⟨_, I.kIn _ _ hcell, rfl⟩ ?_
  rw [har]
  refine wpAny_loadName_local ek kD hm hself ?_
  refine ks_wpAny_isType_cls hD1 hD2 ⟨rfl, ?_⟩
  obtain ⟨hp, g, d, tk, os⟩ := s
  refine ks_wpAny_call_super hD1 hD2 hx rfl (fun c z => by cases z) (PySem.W.looks_mroIn I.kIn V.sub) fun h1 so1 kp1 => ?_
  have I1 : Inv X pins σ H ⟨h1, g, d, tk, os⟩ := I.kept (t' := tk) kp1
  have nx := V.nxt
  unfold PySem.W.ks_superIn at nx
  rw [hclC] at nx
  have hxC : a ≠ C := by
    rintro rfl
    have z := I.kIn _ _ hC
    have z2 : hp.get? a = some (excClassObj nm q a N bs bm true sn sub ab col dd k0 k1 k2 k3 k5 "ValueError.__new__") := z
    rw [z2] at hx
    cases hx
  have hmro : PySem.W.Looks (model X.prog X.w) h1 (mroOf (.ref C)) (.ref C :: bm) := (PySem.W.looks_clsIn I1.kIn hclC).andThen .now
  have hinst : PySem.W.Looks (model X.prog X.w) h1 (isInstance (.ref a) (.type "ValueError")) true :=
    PySem.W.Looks.andThen (PySem.W.InstAt.type (⟨kp1 _ _ hx, rfl, rfl, True.intro⟩ : PySem.W.InstAt h1 a _ C none)) (PySem.W.looks_subIn I1.kIn V.ve)
  refine PySem.W.kxs_getMethod PySem.W.kxs_ValueError so1 (PySem.W.looks_opaque I1.kIn T.opq) hmro rfl I1.kIn nx hinst hxC (by decide) ?_
  generalize hu : h1.objs.size = u
  have kp2 : ∀ b o, h1.get? b = some o → (h1.push (PySem.W.kxs_mw ShX.veI a)).get? b = some o := fun b o z => Heap.get?_push_of_some _ z
  have I2 : Inv X pins σ H ⟨h1.push (PySem.W.kxs_mw ShX.veI a), g, d, tk + 1, os⟩ := I1.kept (t' := tk + 1) kp2
  have gu : (h1.push (PySem.W.kxs_mw ShX.veI a)).get? u = some (PySem.W.kxs_mw ShX.veI a) := by rw [← hu]; exact Heap.get?_push_size _ rfl
  have fu : FpOk X pins H u := I1.fpOk (by rw [← hu]; exact Nat.le_refl _) (I1.hok.fresh (by rw [← hu]; exact Nat.le_refl _))
  have I3 : Inv X ((u, PySem.W.kxs_mw ShX.veI a) :: pins) σ H ⟨h1.push (PySem.W.kxs_mw ShX.veI a), g, d, tk + 1, os⟩ := I2.pins_of fun p hp => by
    rcases List.mem_cons.mp hp with rfl | hp
    · exact ⟨gu, fu.1, fu.2.1, fu.2.2.1, fun v z => by cases z⟩
    · exact I2.pin p (List.mem_append_right _ hp)
  refine wpAny_mono (PySem.W.kxs_callWith (i := ShX.veI) (x := a) (Q := fun _ s' => Qf .next s') (E := X.xe) (by rw [hst]; rfl) ?_) (fun _ _ z => z) hxe
  rw [hst]
  refine PySem.Calls.evalArgs_plain ?_
  have hr := he.run p3 ((u, PySem.W.kxs_mw ShX.veI a) :: pins) _ σ H _ I3 hq
  rw [hst] at hr
  refine thn hr fun us s2 ⟨xs, H2, I4, rv, hl, ha2, q⟩ => ?_
  have gu2 := (I4.pin (u, PySem.W.kxs_mw ShX.veI a) (List.mem_append_right _ List.mem_cons_self)).1
  refine ⟨gu2, ?_⟩
  obtain ⟨t2, hx2⟩ := exo_at I4.hok ha2
  obtain ⟨hp2, g2, d2, tk2, os2⟩ := s2
  refine ShX.call_mw (I4.kIn _ _ hC) hx2 gu2 ?_ fun h' t3 k3 e3 => ?_
  · show us.length ≤ sizeLine
    rw [← rv.length, sizeLine_eq]
    omega
  · have J := I4.write (t' := tk2) (x := a) (e := a) (o := exo a C none) (by rw [ha2]; exact True.intro) (.inl rfl) k3 ⟨_, e3⟩ (exo_ok e3)
    have eu : upd H2 a (exo a C none) = H2 := by
      funext b
      by_cases hb : b = a
      · rw [hb, upd_same, ha2]
      · rw [upd_ne hb]
    rw [eu] at J
    refine hR _ _ (J.pins_of fun p hp => J.pin p (by
      rcases List.mem_append.mp (List.mem_append_right X.pn hp) with z | z
      · exact List.mem_append_left _ z
      · exact List.mem_append_right _ (List.mem_cons_of_mem _ z))) q
end
section
variable {CX : CXT} {P : Program} {w : World} {K : PySem.W.Frag} {mg : Str → Option Value} {base : Heap} {N ps : List Str} {F : NF} {f cc D C a : Addr} {A : Around} {outer : List Env} {s : Shared} {H : Hp} {E : XK} {Q : VK} {us : List Value} {vs : List V} {k : Nat}
/-- the __init__ of an own error that says super() first, run: a is the exception -/
theorem run_sup {pl : Sem Bool} {args : Args} {e : Expr} {te : TA} {tr : TS} {rest : List Stmt} {p0 p1 p2 p3 p4 : Pos} (T : SupTxt P K mg F f cc D) (VC : SupCls K C D) (S : NScope N ps ["__class__"] F.scope) (hr : Room (k + 1) A) (e0 : Env0 P w K mg base A outer s H)
    (hb : ∀ doc pm an ct, BindsTo s (PySem.W.ksFn F.name F.qual F.params F.body F.scope .none .none doc pm an (.ref F.c) ct cc) args (ps.zip us)) (hl : vs.length = ps.length) (r : Vals vs us)
    (h0 : vs[0]? = some (.ref a)) (hN : N[0]? = some ("self" : Str)) (ha : H a = some (exo a C none))
    (hbody : F.body = .Expr (.Call (.Attribute (.Call (.Name "super" p0) [] [] p1) "__init__" p2) [e] [] p3) p4 :: rest)
    (he : PA (ncx CX P w K mg base N F f A outer s H E) [e] te) (hrest : PSs (ncx CX P w K mg base N F f A outer s H E) rest tr)
    (hq : te (startF N vs [none]) H fun xs H1 => xs.length ≤ 1000 ∧ H1 a = some (exo a C none) ∧ tr { nx := fun _ H' => Q .non H', rt := Q } (startF N vs [none]) H1)
    (hce : ∀ L : Addr, eval (.Call (.Attribute (.Call (.Name "super" p0) [] [] p1) "__init__" p2) [e] [] p3) (envF F f L) = (do
      let ov ← attributeBase (.Call (.Name "super" p0) [] [] p1) "__init__" (envF F f L) (eval (.Call (.Name "super" p0) [] [] p1) (envF F f L))
      standAt p2.atName
      let (fx, first) ← holding [ov] (getMethod ov "__init__" pl)
      callWith p3 fx first (backTo p3 (starEach [e] (envF F f L))) []))
    (hst : ∀ L : Addr, starEach [e] (envF F f L) = (false, eval e (envF F f L)) :: starEach [] (envF F f L)) :
    codeAny (model P w) A (.call (.ref f) args) (CR CX outer P w H s Q E) s := by
  obtain ⟨fc, fod, doc, pm, an, ct, osl, hf⟩ := T.fn
  have kin : K.In s.heap := e0.mod.kin.keeps fun b o z => (e0.bs b o z).1
  have lim : s.heap.NoLimit := e0.mod.nolimit.keeps fun b o z => (e0.bs b o z).1
  obtain ⟨cl, cld, csl, hcell⟩ := T.cell
  have hcb : base.get? cc = some ⟨cl, cld, .cell (some (.ref D)), csl⟩ := e0.mod.kin _ _ hcell
  have CA : CellsAt F.cl ["__class__"] [none] s.heap H := by
    rw [T.cls]
    have one : ∀ {y : Str} {c : Addr}, List.lookup y [(("__class__" : Str), cc)] = some c → y = "__class__" ∧ c = cc := fun {y c} z => by
      by_cases hy : y = ("__class__" : Str)
      · subst hy
        rw [List.lookup_cons_self] at z
        exact ⟨rfl, (Option.some.inj z).symm⟩
      · have q : (y == ("__class__" : Str)) = false := by simpa using hy
        rw [List.lookup_cons, q] at z
        cases z
    refine ⟨rfl, fun y c z => ?_, fun x y c z1 z2 => (one z1).1.trans (one z2).1.symm, fun i y z => ?_⟩
    · obtain ⟨_, rfl⟩ := one z
      exact ⟨(e0.bs _ _ hcb).2, _, _, (e0.bs _ _ hcb).1, rfl⟩
    · match i with
      | 0 =>
        simp at z
        subst z
        exact ⟨cc, List.lookup_cons_self, fun v z => by simp at z⟩
      | i + 1 => simp at z
  refine ks_codeAny_call_defAt (fd := PySem.W.ksFn F.name F.qual F.params F.body F.scope .none .none doc pm an (.ref F.c) ct cc) (body := F.body) (binds := ps.zip us) hr.depth (kin _ _ hf) rfl lim (PySem.W.codeRec_of kin T.cd) rfl (hb _ _ _ _)
    S.nocell (fun ⟨n, _⟩ hy => S.par n (List.of_mem_zip hy).1) (fun h₁ hns kp => ?_) S.co S.gen S.kind
  have I : Inv (ncx CX P w K mg base N F f A outer s H E) [] (startF N vs [none]) H { s with heap := h₁, toks := s.toks + (ps.zip us).length } := inv_startN S hr.hd e0 hl r CA hns kp
  have env_eq : callEnv (PySem.W.ksFn F.name F.qual F.params F.body F.scope .none .none doc pm an (.ref F.c) ct cc) s.heap.objs.size f = envF F f s.heap.objs.size := by
    show PySem.W.envX _ _ _ _ _ [(("__class__" : Str), cc)] = PySem.W.envX _ _ _ _ _ F.cl
    rw [T.cls]
  rw [env_eq]
  show PySem.wpAt (model P w) (ncx CX P w K mg base N F f A outer s H E).A (.func F.body (envF F f s.heap.objs.size)) (execs F.body (envF F f s.heap.objs.size)) _ _ _
  rw [hbody]
  refine ks_wpAt_execs_cons ?_
  have hs0 : (startF N vs [none])[0]? = some (some (.ref a)) := by
    unfold startF
    cases vs with
    | nil => simp at h0
    | cons v vs =>
      simp at h0
      subst h0
      rfl
  refine sup_stmt (X := ncx CX P w K mg base N F f A outer s H E) (Ex := (ncx CX P w K mg base N F f A outer s H E).xe) T VC rfl I hN hs0 ha he (fun _ _ z => z) hq (fun H1 s1 I1 q1 => ?_) (hce _) (hst _)
  refine wpAt_of_wpAny (wpAny_mono (hrest.run [] s1 (startF N vs [none]) H1 _ I1 q1) (fun fl s' hs => ?_) fun e s' hs => hs)
  have fin : ∀ {σ' : L2.St} {H' : Hp} {v : V} {u : Value}, Inv (ncx CX P w K mg base N F f A outer s H E) [] σ' H' s' → L2.RelV v u → Q v H' → CE outer P w H s Q u s' :=
    fun {σ' H' v u} J rv q => ⟨v, H', J.os, J.bare, J.base, J.hok, rv, q⟩
  cases fl with
  | ret u =>
    obtain ⟨v, σ', H', J, rv, q⟩ := hs
    exact fin J rv q
  | next =>
    obtain ⟨σ', H', J, q⟩ := hs
    exact fin (v := V.non) (u := Value.none) J rfl q
  | brk =>
    obtain ⟨_, _, _, q⟩ := hs
    exact False.elim q
  | cont =>
    obtain ⟨_, _, _, q⟩ := hs
    exact False.elim q
end
/-- a value that an error's message may tell -/
def Tells (v : V) : Prop := (∃ y : Str, v = .str y ∧ y.length ≤ 100000) ∨ ∃ i : Int, v = .int i ∧ i.natAbs.log2 < 1920
/-- C(f = e) -/
def tMkW (C : Addr) (fld : Str) (te : TA) : L2.St → Hp → XK → Prop := fun σ H Q => te σ H fun xs H1 => ∃ v, xs = [v] ∧ Tells v ∧ ∀ d, H1 d = none → Q (.ref C) (some d) (upd H1 d (.xd [(fld, v)]))
section
variable {X : Cx} {CX : CXT} {C f cc D : Addr} {F : NF} {k : Nat} {fld x : Str} {e msg : Expr} {kws : List Keyword} {te : TA} {p pos p0 p1 p2 p3 p4 r1 r2 r3 r4 : Pos} {pl : Sem Bool}
theorem pmk_kw (T : SupTxt X.prog X.K X.mg F f cc D) (VC : SupCls X.K C D) (XC : XfC X.K C) (hno : PySem.W.findIn X.K (.ref C) fld = some none)
    (iC : PySem.W.findIn X.K (.ref C) "__init__" = some (some (.ref f))) (tI : PySem.W.typeIn X.K (.ref f) = some (.type "function"))
    (S : NScope ["self", fld, "__class__"] ["self", fld] ["__class__"] F.scope) (hr : Room (k + 2) X.A) (hx : Passes CX X (fun _ _ _ => False)) (hg : Gl X x) (hm : X.mg x = some (.ref C))
    (hkw : PK X kws te) (hall : (backToKw pos (keywordEach kws X.env)).all (·.1.isSome) = true) (hks : (backToKw pos (keywordEach kws X.env)).filterMap (·.1) = [fld])
    (hpl : ((backTo pos (starEach [] X.env)).any (·.1) || (backToKw pos (keywordEach kws X.env)).any (·.1.isNone)) = false)
    (hbody : F.body = [.Expr (.Call (.Attribute (.Call (.Name "super" p0) [] [] p1) "__init__" p2) [msg] [] p3) p4, .Assign [.Attribute (.Name "self" r1) fld r2] (.Name fld r3) r4])
    (hb : ∀ (s : Shared) (doc pm : Value) (an : Option Addr) (ct : Value) (xa : Addr) (u : Value), BindsTo s (PySem.W.ksFn F.name F.qual F.params F.body F.scope .none .none doc pm an (.ref F.c) ct cc) ⟨[.ref xa], [(fld, u)]⟩ [(("self" : Str), .ref xa), (fld, u)])
    (hmsg : ∀ (A : Around) (outer : List Env) (s : Shared) (H : Hp) (E : XK) (xa : Addr) (v : V), Tells v → ∃ tm, PA (ncx CX X.prog X.w X.K X.mg X.base ["self", fld, "__class__"] F f A outer s H E) [msg] tm ∧
      ∀ R : List V → Hp → Prop, (∀ y : Str, R [.str y] H) → tm (startF ["self", fld, "__class__"] [.ref xa, v] [none]) H R)
    (hce : ∀ L : Addr, eval (.Call (.Attribute (.Call (.Name "super" p0) [] [] p1) "__init__" p2) [msg] [] p3) (envF F f L) = (do
      let ov ← attributeBase (.Call (.Name "super" p0) [] [] p1) "__init__" (envF F f L) (eval (.Call (.Name "super" p0) [] [] p1) (envF F f L))
      standAt p2.atName
      let (fx, first) ← holding [ov] (getMethod ov "__init__" pl)
      callWith p3 fx first (backTo p3 (starEach [msg] (envF F f L))) []))
    (hst : ∀ L : Addr, starEach [msg] (envF F f L) = (false, eval msg (envF F f L)) :: starEach [] (envF F f L))
    (hsw : ∀ L : Addr, swapsWith (.Name fld r3) (some (.Attribute (.Name "self" r1) fld r2)) r4.line (envF F f L) = pure false)
    (hf1 : (fld == ("__debug__" : Str)) = false := by decide) (hf2 : (fld == ("__classdict__" : Str)) = false := by decide)
    (hdb : (x == ("__debug__" : Str)) = false := by decide) : PMk X (.Call (.Name x p) [] kws pos) (tMkW C fld te) := by
  intro pins s σ H Q I h
  obtain ⟨nm, q, N, bs, bm, sn, sub, ab, col, dd, k0, k1, k2, k3, k5, hC, hbm⟩ := VC.o.cls
  refine wpAny_Call_Name_kw (ld_glob I hg hm ?_ hdb)
  refine PySem.W.callWith_KW0 (h₀ := X.base) I.ok.mod.kin VC.o.kC hall ?_ hpl
  refine thn (hkw.run pos pins s σ H _ I h) fun ws s1 ⟨zs, H1, I1, rz, v, ezs, hv, q1⟩ => ⟨I1.kIn, ?_⟩
  subst ezs
  cases rz with
  | @cons _ u _ _ rv rn =>
  cases rn
  rw [hks]
  obtain ⟨hp, g, dr, tk, os⟩ := s1
  have hsz : hp.objs.size ≤ hp.objs.size + 1 := Nat.le_succ _
  have hn : H1 (hp.objs.size + 1) = none := I1.hok.fresh hsz
  generalize ha : hp.objs.size + 1 = a at hn hsz
  have kk : ∀ b o, hp.get? b = some o → ((hp.push (PySem.W.kdv_tup [])).push (PySem.HandSPX.excO C hp.objs.size)).get? b = some o := fun b o e => Heap.get?_push_of_some _ (Heap.get?_push_of_some _ e)
  have hget : ((hp.push (PySem.W.kdv_tup [])).push (PySem.HandSPX.excO C hp.objs.size)).get? a = some (PySem.HandSPX.excO C hp.objs.size) := by
    rw [← ha]
    heap_get
  generalize hh2 : (hp.push (PySem.W.kdv_tup [])).push (PySem.HandSPX.excO C hp.objs.size) = h2 at kk hget
  have I2 : Inv X pins σ (upd H1 a (exo a C none)) ⟨h2, g, dr, tk, os⟩ := I1.laid (t' := tk) (a := a) (o := exo a C none) (h' := h2) kk hsz (exo_ok hget)
  obtain ⟨tm, hpm, htm⟩ := hmsg (X.A.under (.builtin "type.__call__" ⟨[.ref C], [(fld, u)]⟩)) X.stack ⟨h2, g, dr, tk, os⟩ (upd H1 a (exo a C none)) (fun _ _ _ => False) a v hv
  refine wpAny_call (ShX.call_kw PySem.F.excBase_ValueError (fun Y => PySem.HandSPX.refsVE_contains Y bm hbm) (I1.kIn _ _ hC) (PySem.W.looks_findIn I1.kIn iC) (fun self => PySem.W.bind_fn I1.kIn self tI) ?_)
  rw [ha, hh2]
  have vis0 : Vis F.scope ("self" : Str) := .inl (S.par _ List.mem_cons_self)
  have vis1 : Vis F.scope fld := .inl (S.par _ (List.mem_cons_of_mem _ List.mem_cons_self))
  refine codeAny_mono (run_sup (CX := CX) (k := k) (N := ["self", fld, "__class__"]) (ps := ["self", fld]) (us := [.ref a, u]) (vs := [.ref a, v]) (E := fun _ _ _ => False)
    (Q := fun r H2 => r = .non ∧ ∃ (d : Addr) (fs : List (Str × V)), H2 a = some (exo a C (some d)) ∧ H2 d = some (exd d fs) ∧ H1 d = none ∧ Q (.ref C) (some d) (upd (del H2 a) d (.xd fs)))
    T VC S (hr.make C [] _) (I2.env0.make C [] _) ?_ rfl (.cons rfl (.cons rv .nil)) rfl rfl upd_same hbody hpm
    (pss_one (ps_ost (pe_var (i := 0) rfl vis0) (pe_var (i := 1) rfl vis1 hf1 hf2) (hsw _))) ?_ hce hst) fun r s' hq' => ?_
  · intro doc pm an ct
    exact hb _ doc pm an ct a u
  · refine htm _ fun y => ⟨by simp, upd_same, v, rfl, .ref a, rfl, a, C, rfl, VC.o, hno, .inl ⟨upd_same, fun dx hdx ndx => ?_⟩⟩
    have hdx1 : H1 dx = none := by
      rw [upd_ne ndx] at hdx
      exact hdx
    refine ⟨rfl, dx, [(fld, v)], upd_same, ?_, hdx1, ?_⟩
    · rw [upd_ne ndx, upd_same]
    · have eH : upd (del (upd (upd (upd H1 a (exo a C none)) dx (exd dx [(fld, v)])) a (exo a C (some dx))) a) dx (.xd [(fld, v)]) = upd H1 dx (.xd [(fld, v)]) := by
        funext b
        by_cases h1 : b = dx
        · rw [h1, upd_same, upd_same]
        · rw [upd_ne h1, upd_ne h1]
          by_cases h2 : b = a
          · rw [h2, del_same, hn]
          · rw [del_ne h2, upd_ne h2, upd_ne h1, upd_ne h2]
      rw [eH]
      exact q1 dx hdx1
  · cases r with
    | error er => exact hx pins σ _ _ er s' I2 hq'
    | ok fl =>
      cases fl with
      | ret uu =>
        obtain ⟨vv, H2, os2, bare2, un2, hok2, rv2, ev, d2, fs, ea, ed, hd1, q2⟩ := hq'
        subst ev
        obtain ⟨h3, g2, dr2, t2, os'⟩ := s'
        exact ⟨rv2, mk_end (raises_own VC.o.exC VC.o.tyC) I1 hsz kk un2 hok2 os2 bare2 ea ed hd1 q2⟩
      | next => exact False.elim hq'
      | brk => exact False.elim hq'
      | cont => exact False.elim hq'
end
end Sho
set_option Elab.async false
set_option linter.all false
set_option maxRecDepth 100000
set_option maxHeartbeats 2000000
/-! The head of a law with facts: defs with and without a closure, Bools of the written part, empty tables of code objects left out. -/
namespace Shh
open PySem PySem.Spec PyProof.Rows L2 He Sho
abbrev Fr : Type := PySem.W.Frag
/-! ### a def -/
abbrev FnS : Type := Option (Str × Str × Arguments × FuncBody × Scope)
def fnS (K : Fr) (a : Addr) : FnS := match K.lookup a with
  | some ⟨_, _, .func fd, _⟩ => some (fd.name, fd.qualname, fd.params, fd.body, fd.scope)
  | _ => none
def noneB : Value → Bool
  | .none => true
  | _ => false
theorem noneB_ok {v : Value} (h : noneB v = true) : v = .none := by
  cases v with
  | none => rfl
  | _ => cases h
def fnB (K : Fr) (a : Addr) (q : Str) (cl : List (Str × Addr)) : Bool := match K.lookup a with
  | some ⟨_, _, .func fd, _⟩ => decide (fd.globals = mainGlobals) && (decide (fd.closure = cl) && (decide (fd.builtins = builtinsNs) && (noneB fd.defaults && (noneB fd.kwdefaults && PySem.W.codeIn K fd.code q))))
  | _ => false
def codeA (K : Fr) (a : Addr) : Addr := match K.lookup a with
  | some ⟨_, _, .func fd, _⟩ => (match fd.code with
    | .ref c => c
    | _ => 0)
  | _ => 0
/-- the first cell of a function's closure -/
def cellA (K : Fr) (a : Addr) : Addr := match K.lookup a with
  | some ⟨_, _, .func fd, _⟩ => (match fd.closure with
    | (_, c) :: _ => c
    | _ => 0)
  | _ => 0
structure FunF (K : Fr) (x qual : Str) (st : Stmt) (cl : List (Str × Addr)) (f : Addr) : Prop where
  ex : ∃ (oc : Value) (od : Option Addr) (doc pm : Value) (an : Option Addr) (ct : Value) (osl : Array (Option Value)),
    K.lookup f = some ⟨oc, od, .func (PySem.W.fnX x qual (defArgs st) (defBody st) (defScope st) cl .none .none doc pm an (.ref (codeA K f)) ct), osl⟩ ∧ PySem.W.codeIn K (.ref (codeA K f)) qual = true
/-- one def: where it stands, its name, qualified name, statement, closure -/
structure Dn where
  at_ : Fr → Addr
  name : Str
  qual : Str
  st : Stmt
  cl : Fr → List (Str × Addr) := fun _ => []
def Dn.val (d : Dn) : FnS := some (d.name, d.qual, defArgs d.st, .stmts (defBody d.st), defScope d.st)
def Dn.ok (K : Fr) (d : Dn) : Bool := fnB K (d.at_ K) d.qual (d.cl K)
theorem Dn.funF {K : Fr} {d : Dn} (e : fnS K (d.at_ K) = d.val) (c : d.ok K = true) : FunF K d.name d.qual d.st (d.cl K) (d.at_ K) := by
  unfold Dn.ok fnB at c
  unfold fnS at e
  have ec : ∀ fd oc od osl, K.lookup (d.at_ K) = some ⟨oc, od, .func fd, osl⟩ → ∀ c, fd.code = .ref c → codeA K (d.at_ K) = c := fun fd oc od osl q c h => by
    unfold codeA
    rw [q]
    show (match fd.code with | .ref c => c | _ => 0) = c
    rw [h]
  cases q : K.lookup (d.at_ K) with
  | none =>
    rw [q] at c
    cases c
  | some o =>
    obtain ⟨oc, od, dt, osl⟩ := o
    rw [q] at c e
    cases dt with
    | func fd =>
      have ec' := ec fd oc od osl q
      obtain ⟨n1, n2, n3, n4, n5, n6, n7, n8, n9, n10, n11, n12, n13, n14, n15⟩ := fd
      have e2 : (some (n1, n2, n3, n4, n5) : FnS) = some (d.name, d.qual, defArgs d.st, .stmts (defBody d.st), defScope d.st) := e
      simp only [Option.some.injEq, Prod.mk.injEq] at e2
      obtain ⟨h1, h2, h3, h4, h5⟩ := e2
      obtain ⟨c1, c⟩ := ba c
      obtain ⟨c2, c⟩ := ba c
      obtain ⟨c3, c⟩ := ba c
      obtain ⟨c4, c⟩ := ba c
      obtain ⟨c5, c6⟩ := ba c
      have g1 : n6 = mainGlobals := of_decide_eq_true c1
      have g2 : n7 = d.cl K := of_decide_eq_true c2
      have g3 : n15 = builtinsNs := of_decide_eq_true c3
      have g4 : n8 = .none := noneB_ok c4
      have g5 : n9 = .none := noneB_ok c5
      obtain ⟨cc, hc⟩ := codeIn_ref c6
      have hc' : n13 = .ref cc := hc
      have e3 := ec' cc hc'
      subst h1 h2 h3 h4 h5 g1 g2 g3 g4 g5 hc'
      exact ⟨oc, od, n10, n11, n12, n14, osl, by rw [e3]; exact q, by rw [e3]; exact c6⟩
    | _ => cases c
/-! ### the Hook -/
def okAll (fa : List (Fr → Bool)) (fn : List Dn) (K : Fr) : Bool := (fa.all fun f => f K) && fn.all fun d => d.ok K
def tabsS (g : Addr → Option Obj) (tf : List (Fr → Addr)) (K : Fr) : Bool := tf.all fun p => PySem.W.codeHdIn K (codeA K (p K)) (tabOf K (codeA K (p K))) && (match g (tabOf K (codeA K (p K))) with
  | some o => emptyTab o
  | none => false)
def fragS (n : Nat) (g : Addr → Option Obj) : Fr := frT g (asD g n ++ [cStatics])
abbrev AlS : Type := Bool × List FnS
def obsS (n : Nat) (fa : List (Fr → Bool)) (fn : List Dn) (tf : List (Fr → Addr)) (g : Addr → Option Obj) : AlS := (okAll fa fn (fragS n g) && tabsS g tf (fragS n g), fn.map fun d => fnS (fragS n g) (d.at_ (fragS n g)))
def valS (fn : List Dn) : AlS := (true, fn.map Dn.val)
structure SaysS (fa : List (Fr → Bool)) (fn : List Dn) (tf : List (Fr → Addr)) (h : Heap) (K : Fr) : Prop where
  fa : ∀ f ∈ fa, f K = true
  fn : ∀ d ∈ fn, FunF K d.name d.qual d.st (d.cl K) (d.at_ K)
  hd : ∀ p ∈ tf, PySem.W.codeHdIn K (codeA K (p K)) (tabOf K (codeA K (p K))) = true
  out : ∀ p ∈ tf, K.lookup (tabOf K (codeA K (p K))) = none
  empty : ∀ p ∈ tf, h.get? (tabOf K (codeA K (p K))) = some { cls := .none, data := .fields #[] }
theorem saysS_of {n : Nat} {fa : List (Fr → Bool)} {fn : List Dn} {tf : List (Fr → Addr)} {h : Heap} (e : obsS n fa fn tf h.get? = valS fn) : SaysS fa fn tf h (fragS n h.get?) := by
  have e1 : (okAll fa fn (fragS n h.get?) && tabsS h.get? tf (fragS n h.get?)) = true := congrArg (fun z : AlS => z.1) e
  have e2 : (fn.map fun d => fnS (fragS n h.get?) (d.at_ (fragS n h.get?))) = fn.map Dn.val := congrArg (fun z : AlS => z.2) e
  obtain ⟨h1, h2⟩ := ba e1
  obtain ⟨h3, h4⟩ := ba h1
  have key : ∀ p ∈ tf, PySem.W.codeHdIn (fragS n h.get?) (codeA (fragS n h.get?) (p (fragS n h.get?))) (tabOf (fragS n h.get?) (codeA (fragS n h.get?) (p (fragS n h.get?)))) = true ∧
      ∃ o, h.get? (tabOf (fragS n h.get?) (codeA (fragS n h.get?) (p (fragS n h.get?)))) = some o ∧ emptyTab o = true := fun p hp => by
    obtain ⟨h5, h6⟩ := ba (List.all_eq_true.mp h2 p hp)
    refine ⟨h5, ?_⟩
    cases q : h.get? (tabOf (fragS n h.get?) (codeA (fragS n h.get?) (p (fragS n h.get?)))) with
    | none =>
      rw [q] at h6
      cases h6
    | some o =>
      rw [q] at h6
      exact ⟨o, rfl, h6⟩
  refine ⟨fun f hf => List.all_eq_true.mp h3 f hf, fun d hd => ?_, fun p hp => (key p hp).1, fun p hp => ?_, fun p hp => ?_⟩
  · obtain ⟨i, hi, ei⟩ := List.mem_iff_getElem.mp hd
    have e3 : (fn.map fun d => fnS (fragS n h.get?) (d.at_ (fragS n h.get?)))[i]? = (fn.map Dn.val)[i]? := by rw [e2]
    rw [List.getElem?_map, List.getElem?_map, List.getElem?_eq_getElem hi, ei] at e3
    exact Dn.funF (Option.some.inj e3) (List.all_eq_true.mp h4 d hd)
  · obtain ⟨_, o, q, z⟩ := key p hp
    exact frT_none q z
  · obtain ⟨_, o, q, z⟩ := key p hp
    rw [q, emptyTab_eq z]
def hookS (n : Nat) (fa : List (Fr → Bool)) (fn : List Dn) (tf : List (Fr → Addr)) : PySem.W.Hook where
  α := AlS
  obs := fun s => obsS n fa fn tf s.heap.get?
  val := fun _ => valS fn
  says := fun _ h => ∃ K : PySem.W.Frag, K.In h ∧ SaysS fa fn tf h K
  of := fun _ _ e => ⟨_, frT_in, saysS_of e⟩
  keeps := fun _ _ _ ⟨K, hK, c⟩ k => ⟨K, PySem.W.Frag.In.keeps hK k, ⟨c.fa, c.fn, c.hd, c.out, fun p hp => k _ _ (c.empty p hp)⟩⟩
theorem obsS_eq {n : Nat} {fa : List (Fr → Bool)} {fn : List Dn} {tf : List (Fr → Addr)} {g : Addr → Option Obj} {s : Shared} (h : ∀ a, g a = s.heap.get? a) : obsS n fa fn tf g = (hookS n fa fn tf).obs s := by
  have e : g = s.heap.get? := funext h
  rw [e] <;> rfl
section
variable {fa : List (Fr → Bool)} {fn : List Dn} {tf : List (Fr → Addr)} {h : Heap} {K : Fr}
theorem SaysS.fact (c : SaysS fa fn tf h K) (i : Nat) {f : Fr → Bool} (e : fa[i]? = some f := by rfl) : f K = true := c.fa f (List.mem_of_getElem? e)
theorem SaysS.def_ (c : SaysS fa fn tf h K) (i : Nat) {d : Dn} (e : fn[i]? = some d := by rfl) : FunF K d.name d.qual d.st (d.cl K) (d.at_ K) := c.fn d (List.mem_of_getElem? e)
end
/-! ### names of the module -/
section
variable {K : Fr} {h : Heap} {mg : Str → Option Value}
def gloB (K : Fr) (xs : List Str) : Bool := xs.all fun x => eqO (PySem.W.nsIn K mainGlobals x) (some (some (.ref (ga K x))))
theorem gloB_ok (X : K.In h) (G : h.Ns mainGlobals mg) {xs : List Str} (c : gloB K xs = true) {x : Str} (hx : x ∈ xs) : mg x = some (.ref (ga K x)) := PySem.W.mg_of X G (eqO_ok (List.all_eq_true.mp c x hx))
def freeB (K : Fr) (xs : List Str) : Bool := xs.all fun x => eqO (PySem.W.nsIn K mainGlobals x) (some none)
theorem freeB_ok (X : K.In h) (G : h.Ns mainGlobals mg) {xs : List Str} (c : freeB K xs = true) {x : Str} (hx : x ∈ xs) : mg x = none := PySem.W.mg_none_of X G (eqO_ok (List.all_eq_true.mp c x hx))
def keepB (K : Fr) (xs : List Str) : Bool := xs.all fun x => PySem.W.keepIn K (.ref (ga K x))
theorem keepB_ok {xs : List Str} (c : keepB K xs = true) {x : Str} (hx : x ∈ xs) : PySem.W.keepIn K (.ref (ga K x)) = true := List.all_eq_true.mp c x hx
end
/-! ### an own error whose __init__ says super().__init__(text) and stores a field -/
def oexB (K : Fr) (C : Addr) : Bool := match K.lookup C with
  | some ⟨.type t, _, .cls cd, sl⟩ => decide (t = "type") && (decide (cd.mro.head? = some (.ref C)) && (PySem.HandSPX.refsVE cd.mro.tail && (cd.hasDict && (!cd.hasDel && (match sl.toList with
    | [_, _, _, _, some (.builtin n), _] => decide (n = "ValueError.__new__")
    | _ => false)))))
  | _ => false
theorem oexB_ok {K : Fr} {C : Addr} (h : oexB K C = true) : ∃ nm q N bs bm sn sub ab col dd k0 k1 k2 k3 k5, K.lookup C = some (excClassObj nm q C N bs bm true sn sub ab col dd k0 k1 k2 k3 k5 "ValueError.__new__") ∧ PySem.HandSPX.refsVE bm = true := by
  unfold oexB at h
  split at h
  · rename_i t dd cd sl e
    obtain ⟨h1, h⟩ := ba h
    obtain ⟨h2, h⟩ := ba h
    obtain ⟨h3, h⟩ := ba h
    obtain ⟨h4, h⟩ := ba h
    obtain ⟨h5, h6⟩ := ba h
    split at h6
    · rename_i k0 k1 k2 k3 n k5 hs
      obtain ⟨nm, bs, mro, N, q, hd, sn, sub, ab, col, hdel⟩ := cd
      have a1 : t = "type" := of_decide_eq_true h1
      have a2 : mro.head? = some (.ref C) := of_decide_eq_true h2
      have a4 : hd = true := h4
      have a5 : hdel = false := by
        cases z : hdel with
        | false => rfl
        | true =>
          have h5' : (!hdel) = true := h5
          rw [z] at h5'
          cases h5'
      have a6 : n = "ValueError.__new__" := of_decide_eq_true h6
      have a7 : sl = #[k0, k1, k2, k3, some (.builtin n), k5] := by
        have z : sl.toList.toArray = [k0, k1, k2, k3, some (.builtin n), k5].toArray := by rw [hs]
        simpa using z
      cases mro with
      | nil => cases a2
      | cons m0 bm =>
        have a8 : m0 = .ref C := Option.some.inj a2
        subst a1 a4 a5 a6 a7 a8
        exact ⟨nm, q, N, bs, bm, sn, sub, ab, col, dd, k0, k1, k2, k3, k5, e, h3⟩
    · cases h6
  · cases h
def cellB (K : Fr) (cc C : Addr) : Bool := match K.lookup cc with
  | some ⟨_, _, .cell (some (.ref D)), _⟩ => decide (D = C)
  | _ => false
theorem cellB_ok {K : Fr} {cc C : Addr} (h : cellB K cc C = true) : ∃ (cl : Value) (cld : Option Addr) (csl : Array (Option Value)), K.lookup cc = some ⟨cl, cld, .cell (some (.ref C)), csl⟩ := by
  unfold cellB at h
  split at h
  · rename_i cl cld D csl e
    rw [of_decide_eq_true h] at e
    exact ⟨cl, cld, csl, e⟩
  · cases h
def fileB (K : Fr) (c : Addr) (file : Str) : Bool := match K.lookup c with
  | some ⟨_, _, .fields vs, _⟩ => (match (vs[2]? : Option Value) with
    | some (.str fl _) => file == fl
    | _ => false)
  | _ => false
theorem fileB_ok {K : Fr} {c : Addr} {file : Str} (h : fileB K c file = true) : ∃ (oc : Value) (od : Option Addr) (vs : Array Value) (sl : Array (Option Value)) (fl : Str) (tf : Tok), K.lookup c = some ⟨oc, od, .fields vs, sl⟩ ∧ vs[2]? = some (.str fl tf) ∧ (file == fl) = true := by
  unfold fileB at h
  split at h
  · rename_i oc od vs sl e
    split at h
    · rename_i fl tf e2
      exact ⟨oc, od, vs, sl, fl, tf, e, e2, h⟩
    · cases h
  · cases h
/-- where an error's __init__ stands -/
def eInit (K : Fr) (x : Str) : Addr := ma K (ga K x) "__init__"
def errB (file : Str) (K : Fr) (x fld : Str) : Bool :=
  oexB K (ga K x) && (cellB K (cellA K (eInit K x)) (ga K x) && (fileB K (codeA K (eInit K x)) file && (PySem.W.isClsIn K (ga K x) && (eqO (PySem.W.nsIn K cStatics "thirdparty.any") (some none) &&
  (decide (PySem.W.mroIn K (ga K x) (.ref (ga K x)) = some true) && (eqO (PySem.W.ks_superIn K (ga K x) (ga K x) "__init__") (some (some (.builtin ShX.veI))) && (decide (PySem.W.subIn K (.ref (ga K x)) (.type "ValueError") = some true) &&
  (xfB K (ga K x) && (eqO (PySem.W.findIn K (.ref (ga K x)) fld) (some none) && (decide (PySem.W.exmOne K (.ref (ga K x)) (.ref (ga K x)) = some true) && (eqO (PySem.W.findIn K (.ref (ga K x)) "__init__") (some (some (.ref (eInit K x)))) &&
  (decide (PySem.W.typeIn K (.ref (eInit K x)) = some (.type "function")) && (eqO (PySem.W.findIn K (.ref (ga K x)) "__setattr__") (some (some (.builtin "object.__setattr__"))) && (decide (PySem.W.subIn K (.ref (ga K x)) (.type "BaseException") = some true) &&
  (decide (PySem.W.typeIn K (.ref (ga K x)) = some (.type "type")) && PySem.W.keepIn K (.ref (ga K x)))))))))))))))))
section
variable {K : Fr} {h : Heap} {mg : Str → Option Value} {P : Program}
/-- the pieces of errB -/
structure ErrF (file : Str) (K : Fr) (x fld : Str) : Prop where
  oex : OexC K (ga K x)
  cell : ∃ (cl : Value) (cld : Option Addr) (csl : Array (Option Value)), K.lookup (cellA K (eInit K x)) = some ⟨cl, cld, .cell (some (.ref (ga K x))), csl⟩
  file : ∃ (oc : Value) (od : Option Addr) (vs : Array Value) (sl : Array (Option Value)) (fl : Str) (tf : Tok), K.lookup (codeA K (eInit K x)) = some ⟨oc, od, .fields vs, sl⟩ ∧ vs[2]? = some (.str fl tf) ∧ (file == fl) = true
  isC : PySem.W.isClsIn K (ga K x) = true
  opq : PySem.W.nsIn K cStatics "thirdparty.any" = some none
  sup : SupCls K (ga K x) (ga K x)
  xf : XfC K (ga K x)
  no : PySem.W.findIn K (.ref (ga K x)) fld = some none
  exm : PySem.W.exmOne K (.ref (ga K x)) (.ref (ga K x)) = some true
  ini : PySem.W.findIn K (.ref (ga K x)) "__init__" = some (some (.ref (eInit K x)))
  ity : PySem.W.typeIn K (.ref (eInit K x)) = some (.type "function")
theorem errB_ok {file x fld : Str} (c : errB file K x fld = true) : ErrF file K x fld := by
  obtain ⟨c1, c⟩ := ba c
  obtain ⟨c2, c⟩ := ba c
  obtain ⟨c3, c⟩ := ba c
  obtain ⟨c4, c⟩ := ba c
  obtain ⟨c5, c⟩ := ba c
  obtain ⟨c6, c⟩ := ba c
  obtain ⟨c7, c⟩ := ba c
  obtain ⟨c8, c⟩ := ba c
  obtain ⟨c9, c⟩ := ba c
  obtain ⟨c10, c⟩ := ba c
  obtain ⟨c11, c⟩ := ba c
  obtain ⟨c12, c⟩ := ba c
  obtain ⟨c13, c⟩ := ba c
  obtain ⟨c14, c⟩ := ba c
  obtain ⟨c15, c⟩ := ba c
  obtain ⟨c16, c17⟩ := ba c
  have O : OexC K (ga K x) := ⟨oexB_ok c1, eqO_ok c14, of_decide_eq_true c15, of_decide_eq_true c16, c17⟩
  exact ⟨O, cellB_ok c2, fileB_ok c3, c4, eqO_ok c5, ⟨O, of_decide_eq_true c6, eqO_ok c7, of_decide_eq_true c8⟩, xfB_ok c9, eqO_ok c10, of_decide_eq_true c11, eqO_ok c12, of_decide_eq_true c13⟩
/-- the text of its __init__ -/
theorem err_txt {file x fld qual : Str} {st : Stmt} (E : ErrF file K x fld) (D : FunF K "__init__" qual st [(("__class__" : Str), cellA K (eInit K x))] (eInit K x)) (hf : P.main.file = file) (sup : mg "super" = none)
    (h1 : ∃ ar : Arg, ((defArgs st).posonlyargs ++ (defArgs st).args).head? = some ar ∧ ar.arg = ("self" : Str)) (h2 : (P.main.scope.names.lookup ("super" : Str)).isSome = false)
    (h3 : (defScope st).names.lookup ("super" : Str) = some .globalImplicit) (h4 : (defScope st).names.lookup ("__class__" : Str) = some .free) (h5 : (defScope st).names.lookup ("self" : Str) = some .local) :
    SupTxt P K mg ⟨"__init__", qual, defArgs st, defBody st, defScope st, [(("__class__" : Str), cellA K (eInit K x))], codeA K (eInit K x)⟩ (eInit K x) (cellA K (eInit K x)) (ga K x) := by
  obtain ⟨oc, od, doc, pm, an, ct, osl, lk, hcd⟩ := D.ex
  exact ⟨⟨oc, od, doc, pm, an, ct, osl, lk⟩, hcd, E.cell, rfl, by rw [hf]; exact E.file, h1, sup, h2, h3, h4, h5, E.isC, E.opq⟩
end
/-! ### an own error without a field, a property, an operator -/
def ernB (K : Fr) (x : Str) : Bool := PySem.W.excIn K (ga K x) veBase "ValueError.__new__" && (PySem.W.keepIn K (.ref (ga K x)) && (decide (PySem.W.subIn K (.ref (ga K x)) (.type "BaseException") = some true) && (decide (PySem.W.typeIn K (.ref (ga K x)) = some (.type "type")) &&
  decide (PySem.W.exmOne K (.ref (ga K x)) (.ref (ga K x)) = some true))))
/-- the getter of a property -/
def getA (K : Fr) (C : Addr) (m : Str) : Addr := He5.wf K C "property" m
def propB (K : Fr) (C : Addr) (m : Str) : Bool := eqO (PySem.W.findIn K (.ref C) m) (some (some (.ref (ma K C m)))) && (eqO (PySem.W.specialIn K (.ref (ma K C m)) "__get__") (some (some (.builtin "property.__get__"))) && (decide (PySem.W.takesIn K (.ref (ma K C m)) = some true) &&
  (match PySem.W.recIn K (ma K C m) "property" with
    | some (.ref _ :: _) => true
    | _ => false)))
theorem propB_ok {K : Fr} {C : Addr} {m : Str} (c : propB K C m = true) : PropOf K C m (ma K C m) (getA K C m) := by
  obtain ⟨c1, c⟩ := ba c
  obtain ⟨c2, c⟩ := ba c
  obtain ⟨c3, c4⟩ := ba c
  refine ⟨eqO_ok c1, eqO_ok c2, of_decide_eq_true c3, ?_⟩
  unfold getA He5.wf
  split at c4
  · rename_i f r e
    exact ⟨r, by rw [e]⟩
  · cases c4
/-- a def of the class under a name that Python itself looks up -/
def dunB (K : Fr) (C : Addr) (m : Str) : Bool := eqO (PySem.W.findIn K (.ref C) m) (some (some (.ref (ma K C m)))) && (PySem.W.isFn K (.ref (ma K C m)) && (PySem.W.fnIn K (ma K C m) && PySem.W.keepIn K (.ref (ma K C m))))
structure DunF (K : Fr) (C : Addr) (m : Str) : Prop where
  at_ : PySem.W.findIn K (.ref C) m = some (some (.ref (ma K C m)))
  isF : PySem.W.isFn K (.ref (ma K C m)) = true
  fn : PySem.W.fnIn K (ma K C m) = true
  kp : PySem.W.keepIn K (.ref (ma K C m)) = true
theorem dunB_ok {K : Fr} {C : Addr} {m : Str} (c : dunB K C m = true) : DunF K C m := by
  obtain ⟨c1, c⟩ := ba c
  obtain ⟨c2, c⟩ := ba c
  obtain ⟨c3, c4⟩ := ba c
  exact ⟨eqO_ok c1, c2, c3, c4⟩
theorem DunF.meth {K : Fr} {C : Addr} {m : Str} (d : DunF K C m) : Meth K C m (ma K C m) := ⟨d.at_, d.isF, d.kp⟩
theorem DunF.mkr {K : Fr} {C : Addr} (d : DunF K C "__init__") (m : PySem.W.makesIn K C = true) (k : PySem.W.keepIn K (.ref C) = true) : Mk K C (ma K C "__init__") := ⟨m, d.at_, d.isF, k⟩
theorem DunF.callO {K : Fr} {C : Addr} (d : DunF K C "__call__") : StX.CallO K C (ma K C "__call__") := ⟨d.at_, d.isF, d.fn⟩
/-! ### functions without a closure -/
section
variable {K : Fr} {x qual : Str} {st : Stmt} {f : Addr}
/-- its object -/
theorem FunF.funW (F : FunF K x qual st [] f) (kp : PySem.W.keepIn K (.ref f) = true) : ∃ fd, L2.Fun K x qual st f fd ∧ (∀ ps : List Str, (∀ (kV doc pm : Value) (an : Option Addr) (cdv ct : Value) (us : List Value), us.length = ps.length → bindArgs (PySem.W.fnOf x qual (defArgs st) (defBody st) (defScope st) .none kV doc pm an cdv ct) ⟨us, []⟩ = pure (ps.zip us)) → Binds K fd ps []) ∧
    ∀ ps : List Str, (∀ (kV doc pm : Value) (an : Option Addr) (cdv ct : Value) (us : List Value), us.length = ps.length → bindArgs (PySem.W.fnOf x qual (defArgs st) (defBody st) (defScope st) .none kV doc pm an cdv ct) ⟨us, []⟩ = pure (ps.zip us)) → ∀ (s : Shared) (us : List Value), us.length = ps.length → BindsTo s fd ⟨us, []⟩ (ps.zip us) := by
  obtain ⟨oc, od, doc, pm, an, ct, osl, lk, hcd⟩ := F.ex
  exact ⟨_, ⟨⟨oc, od, .none, doc, pm, an, _, ct, osl, rfl, lk, hcd⟩, kp⟩, fun ps h => .all (h .none doc pm an _ ct), fun ps h s us hl => .of_eq (h .none doc pm an _ ct us hl)⟩
end
end Shh
set_option Elab.async false
set_option linter.all false
set_option maxRecDepth 100000
set_option maxHeartbeats 2000000
/-! A list comprehension whose element may rest on what the block's start knows of the heap itself. -/
namespace Sho
open PySem PySem.Spec PyProof.Rows L2
section
variable {X : Cx} {scope : Scope} {fp : List Addr} {own : List (Str × Nat)}
/-- the block's environment, made at s -/
abbrev blkEnv (X : Cx) (scope : Scope) (s : Shared) : Env := compEnvC scope (cellsFrom (s.heap.objs.size + 1) scope.names (cloFrom X.env.cells scope.names [])) s.heap.objs.size X.env
abbrev blkS (scope : Scope) (s : Shared) : Shared := { s with heap := pushCells (s.heap.push { cls := .type "dict", data := .dict #[] }) scope.names }
/-- out of the block: its state is one of the def's -/
theorem blk_out {pins : List (Addr × Obj)} {σ σ' : L2.St} {H H' : Hp} {s s' : Shared} (I : Inv X pins σ H s) (hfp : ∀ b ∈ fp, FpOk X pins H b)
    (J : Inv (X.blk s H scope (blkEnv X scope s) fp) [] σ' H' s') : Inv X pins σ H' s' ∧ ∃ m, s'.heap.Ns s.heap.objs.size m ∧ FpOk X pins H' s.heap.objs.size := by
  obtain ⟨m, hm, _⟩ := J.loc
  refine ⟨I.call' (ch := fp) J.os J.base J.hok J.bare fun b hb => ?_, m, hm, I.fpOk (Nat.le_refl _) J.free⟩
  obtain ⟨_, z1, z2, z3, z4, z5⟩ := hfp b hb
  exact ⟨z3, z1, z4, z5⟩
/-- a tracked list that grows -/
theorem grow {pins : List (Addr × Obj)} {σ : L2.St} {H : Hp} {s : Shared} (I : Inv X pins σ H s) :
    Inv X pins σ (upd H s.heap.objs.size (.lst [])) { s with heap := s.heap.push { cls := .type "list", data := .seq ([] : List Value).toArray } } :=
  I.laid (t' := s.toks) (fun b o e => Heap.get?_push_of_some _ e) (Nat.le_refl _) ⟨Nat.zero_le _, [], 0, .nil, Heap.get?_push_size _ rfl⟩

/-- the block's loop, by the readings of its target, tests and element -/
theorem lc_loop {B : Cx} {R : Result → Shared → Prop} {elt tg iter : Expr} {ifs : List Expr} {pos : Pos} {g : TG} {tt : TT} {te : TE} {J : It} {it D : Addr} {tn : Nat → Heap → Prop} {W : Nat → Nat → Hp → Prop} {σ : L2.St} {vs : List Nat}
    (hc : B.calm = true) (hxe : B.xe = fun _ _ => False) (T : Turn B.prog B.w B.K tg J fp it tn) (pg : PG B tg g) (pt : PTs B ifs tt) (pe : PE B elt te)
    (fpok : ∀ (pins : List (Addr × Obj)) (τ : L2.St) (H : Hp) (s : Shared), Inv B [] τ H s → (∀ b ∈ fp, H b = none) → ∀ b ∈ fp, FpOk B [] H b)
    (turn : ∀ (i m : Nat) (H : Hp), W i m H → (J.stop i H ∧ ∀ s, Inv B [] σ H s → R (.ok .next) s) ∨
      (J.go i H ∧ ∃ Nx : Hp → Prop, (∀ H', Nx H' → ∃ m', m' < m ∧ W (i + 1) m' H') ∧ ∀ x H', J.yld i H x H' → g x σ H' fun σ2 H2 => wipe σ2 vs = σ ∧ tt σ2 H2 fun b H3 =>
        if b = true then te σ2 H3 fun y H4 => ∃ acc, H4 D = some (.lst acc) ∧ acc.length < sizeLine ∧ Nx (upd H4 D (.lst (acc ++ [y]))) else Nx H3))
    {m : Nat} {H : Hp} {s : Shared} (I : Inv B [] σ H s) (st : tn 0 s.heap) (hn : ∀ b ∈ fp, H b = none) (w : W 0 m H) :
    codeAny (model B.prog B.w) B.A (.compLoop (.ListComp elt [⟨tg, iter, ifs, 0⟩] scope pos) 0 (.ref it) (.ref D) B.env) R s := by
  refine compLoop_any (fun n s' => ∃ i H', Inv B [] σ H' s' ∧ tn i s'.heap ∧ (∀ b ∈ fp, H' b = none) ∧ W i n H') ?_ m ⟨0, H, I, st, hn, w⟩
  rintro n s5 ⟨i, H5, I5, st5, n5, w5⟩
  rcases turn i n H5 w5 with ⟨stop, fin⟩ | ⟨go, Nx, less, step⟩
  · refine thnF (T.done B rfl rfl rfl hc i [] s5 σ H5 (fun _ _ => False) I5 (fpok [] _ _ _ I5 n5) st5 stop) fun r s6 x => ?_
    obtain ⟨rfl, I6⟩ := x
    exact fin _ I6
  · refine thnF (T.item B rfl rfl rfl hc i [] s5 σ H5 (fun _ _ => False) I5 (fpok [] _ _ _ I5 n5) st5 go) fun r s6 x => ?_
    obtain ⟨u, rfl, x⟩ := x
    refine thnF x fun _ s7 y => ?_
    obtain ⟨v, H7, I7, rv, yl, st7, n7⟩ := y
    have P7 := I7.pinned (fpok [] _ _ _ I7 n7) (T.obj _ _ st7)
    have pg1 := pg.run _ s7 σ H7 v u _ P7 rv (step v H7 yl)
    rw [hxe] at pg1
    refine thnF pg1 fun _ s8 x8 => ?_
    obtain ⟨σ8, H8, I8, back, q8⟩ := x8
    have pt1 := pt.run _ s8 σ8 H8 _ I8 q8
    rw [hxe] at pt1
    refine thnF pt1 fun b s9 x9 => ?_
    obtain ⟨H9, I9, q9⟩ := x9
    have next : ∀ (H' : Hp) (s' : Shared), Inv B ([] ++ pinsAt fp s7.heap) σ8 H' s' → Nx H' → ∃ m, m < n ∧ ∃ i H', Inv B [] σ H' s' ∧ tn i s'.heap ∧ (∀ b ∈ fp, H' b = none) ∧ W i m H' := fun H' s' I' nx => by
      obtain ⟨m', lt, w'⟩ := less H' nx
      have stay : ∀ b ∈ fp, ∀ o, s7.heap.get? b = some o → s'.heap.get? b = some o ∧ H' b = none := fun b hb o e => by
        have z := I'.pin (b, o) (List.mem_append_right _ (List.mem_append_right _ (mem_pinsAt hb e)))
        exact ⟨z.1, z.2.1⟩
      have lens : σ.length = σ8.length := by rw [← back, wipe_length]
      refine ⟨m', lt, i + 1, H', (I'.unpinned (pins := [])).weak lens (fun j v e => ?_), T.keep _ _ _ st7 fun b hb o e => (stay b hb o e).1, fun b hb => ?_, w'⟩
      · rw [← back] at e
        exact (wipe_some e).1
      · obtain ⟨o, e, _⟩ := T.obj _ _ st7 b hb
        exact (stay b hb o e).2
    cases b with
    | false =>
      rw [if_neg Bool.false_ne_true] at q9
      rw [if_neg Bool.false_ne_true]
      exact next _ _ I9 q9
    | true =>
      rw [if_pos rfl] at q9
      rw [if_pos rfl]
      have pe1 := pe.run _ s9 σ8 H9 _ I9 q9
      rw [hxe] at pe1
      refine thnF pe1 fun z s10 x10 => ?_
      obtain ⟨yv, H10, I10, r10, acc, hD, hz, nx⟩ := x10
      exact app_ok (X := B) I10 hD hz r10 fun s11 I11 => next _ _ I11 nx
/-- P: what the start of the block knows, of the slots and of the state; te: the element's reading, by the slots -/
theorem pe_lcS {P : L2.St → Shared → Hp → Prop} {elt tg iter : Expr} {ifs : List Expr} {pos : Pos} {wi : TI} {g : TG} {tt : TT} {te : L2.St → TE} (hc : X.calm = true) (hN : X.N.Nodup) (hi : PI X tg iter wi) (ok : BlkOk X.N X.env.scope scope own)
    (hP : ∀ (pins : List (Addr × Obj)) (σ : L2.St) (H : Hp) (s : Shared), Inv X pins σ H s → P σ s H)
    (hg : ∀ (s : Shared) (H : Hp) (C : Addr) (cl : List (Str × Addr)) (fp : List Addr), PG (X.blk s H scope (compEnvC scope cl C X.env) fp) tg g)
    (ht : ∀ (s : Shared) (H : Hp) (C : Addr) (cl : List (Str × Addr)) (fp : List Addr), PTs (X.blk s H scope (compEnvC scope cl C X.env) fp) ifs tt)
    (he : ∀ (σ : L2.St) (s : Shared) (H : Hp) (C : Addr) (cl : List (Str × Addr)) (fp : List Addr), P σ s H → (∀ b ∈ fp, ∃ o, s.heap.get? b = some o ∧ ∀ v, o.data ≠ .cell v) → PE (X.blk s H scope (compEnvC scope cl C X.env) fp) elt (te σ)) (hs : ∀ x, foldedSetIterable iter X.env x = pure x := by intro _; rfl) :
    PE X (.ListComp elt [⟨tg, iter, ifs, 0⟩] scope pos) (fun σ H Q => tLc wi g tt (te σ) (own.map (·.2)) σ H Q) := by
  refine ⟨fun pins s σ H Q I h => ?_⟩
  rw [eval_ListComp]
  have clo : ∀ y ∈ scope.names, y.2 = .free → ∃ c, X.env.cells.lookup y.1 = some c := fun y hy e => (ok.free y hy e).elim (fun k => I.ok.has _ (.inl k)) fun k => I.ok.has _ (.inr k)
  refine wpAny_comprehension_free (use := none) rfl hs (closure_ok clo) ok.kind (fun y hy e => (ok.uniq y hy).trans (congrArg some e))
    (thn (hi.run pins s σ H _ I h) fun xv s1 hx => thn hx fun itv s2 h2 => ?_)
  obtain ⟨it, fp, tn, J, H2, rfl, I2, T, st2, f2, q⟩ := h2
  refine wpAny_newObj_type (newEnv_comp ?_) (show 0 ≤ sizeLine by decide)
  have hDn : H2 s2.heap.objs.size = none := I2.hok.fresh (Nat.le_refl _)
  obtain ⟨W, ⟨m0, w0⟩, turn⟩ := q _ hDn
  have I3 := grow I2
  have old : ∀ b ∈ fp, b < s2.heap.objs.size := fun b hb => (T.obj _ _ st2 b hb).elim fun o e => Heap.lt_size e.1
  generalize hD : s2.heap.objs.size = D at *
  generalize hs3 : ({ s2 with heap := s2.heap.push { cls := .type "list", data := .seq ([] : List Value).toArray } } : Shared) = s3 at *
  have k3 : ∀ b o, s2.heap.get? b = some o → s3.heap.get? b = some o := fun b o e => by
    rw [← hs3]
    exact Heap.get?_push_of_some _ e
  have z3 : s3.heap.objs.size = D + 1 := by
    rw [← hs3, ← hD]
    exact Heap.size_push ..
  have st3 : tn 0 s3.heap := T.keep _ _ _ st2 fun b _ o e => k3 b o e
  have f3 : ∀ b ∈ fp, FpOk X pins (upd H2 D (.lst [])) b ∧ b < s3.heap.objs.size := fun b hb =>
    ⟨⟨(upd_ne (Nat.ne_of_lt (old b hb))).trans (f2 b hb).1, (f2 b hb).2⟩, by rw [z3]; exact Nat.lt_succ_of_lt (old b hb)⟩
  generalize hH3 : upd H2 D (.lst []) = H3 at *
  have know := hP pins σ H3 s3 I3
  have I4 := block_start I3 ok hN f3
  have pe := he σ s3 H3 s3.heap.objs.size (cellsFrom (s3.heap.objs.size + 1) scope.names (cloFrom X.env.cells scope.names [])) fp know (T.obj _ _ st3)
  have pg := hg s3 H3 s3.heap.objs.size (cellsFrom (s3.heap.objs.size + 1) scope.names (cloFrom X.env.cells scope.names [])) fp
  have pt := ht s3 H3 s3.heap.objs.size (cellsFrom (s3.heap.objs.size + 1) scope.names (cloFrom X.env.cells scope.names [])) fp
  show codeAny _ _ (.compStart (.ListComp elt [⟨tg, iter, ifs, 0⟩] scope pos) 0 (.ref it) (.ref D) (blkEnv X scope s3)) (compPost (model X.prog X.w) X.A X.xe none _ (.ref D) s3.heap.objs.size) (blkS scope s3)
  have st4 : tn 0 (blkS scope s3).heap := T.keep _ _ _ st3 fun b _ o e => pushCells_keeps _ _ _ _ (Heap.get?_push_of_some _ e)
  have nfp : ∀ b ∈ fp, H3 b = none := fun b hb => (f3 b hb).1.1
  have loop : codeAny (model X.prog X.w) X.A (.compLoop (.ListComp elt [⟨tg, iter, ifs, 0⟩] scope pos) 0 (.ref it) (.ref D) (blkEnv X scope s3))
      (compPost (model X.prog X.w) X.A X.xe none (EP X pins σ Q) (.ref D) s3.heap.objs.size) (blkS scope s3) := by
    refine lc_loop (B := X.blk s3 H3 scope (blkEnv X scope s3) fp) (σ := wipe σ (own.map (·.2))) (vs := own.map (·.2)) (W := W) hc rfl T pg pt pe (fun _ τ H' s' J' n' b hb => ?_) (fun i m H' w' => ?_) I4 st4 nfp w0
    · refine ⟨n' b hb, (J'.ok.exf b hb).1, J'.ok.exfs b hb, .inl hb, fun x c e => (J'.ok.exf b hb).2 x c e, fun p hp => ?_⟩
      exact absurd (show p ∈ ([] : List (Addr × Obj)) ++ [] from hp) (by simp)
    · rcases turn i m H' w' with ⟨a, b⟩ | ⟨a, Nx, b, c⟩
      · refine .inl ⟨a, fun s' J' => ?_⟩
        obtain ⟨I6, m6, ns6, f6⟩ := blk_out I3 (fun b hb => (f3 b hb).1) J'
        obtain ⟨f0, f1, f2, f3', f4, f5⟩ := f6
        exact ⟨m6, ns6, fun h'' sb => ⟨.ref D, H', I6.turned (t' := s'.toks) (fun b o hb e => (sb.2 b hb).trans e) f0 f1 f3' f4 f5, rfl, b⟩⟩
      · exact .inr ⟨a, Nx, b, c⟩
  exact codeAny_compStart_list loop (T.self X.A 0 _ _ _ st4 loop)
end

/-! ### what a comprehension gathers -/
section
/-- the values of the first n turns -/
def gather (f : Nat → Option V) (n : Nat) : List V := (List.range n).filterMap f
theorem gather_zero (f : Nat → Option V) : gather f 0 = [] := rfl
theorem gather_some {f : Nat → Option V} {n : Nat} {y : V} (h : f n = some y) : gather f (n + 1) = gather f n ++ [y] := by
  unfold gather
  rw [List.range_succ, List.filterMap_append]
  simp [h]
theorem gather_none {f : Nat → Option V} {n : Nat} (h : f n = none) : gather f (n + 1) = gather f n := by
  unfold gather
  rw [List.range_succ, List.filterMap_append]
  simp [h]
theorem gather_len (f : Nat → Option V) (n : Nat) : (gather f n).length ≤ n := by
  unfold gather
  exact Nat.le_trans (List.length_filterMap_le ..) (by simp)
/-- over a list: the items kept, each made anew -/
theorem gather_take {α : Type} (xs : List α) (p : α → Option V) : ∀ n, n ≤ xs.length → gather (fun i => (xs[i]?).bind p) n = (xs.take n).filterMap p
  | 0, _ => rfl
  | n + 1, h => by
    have ih := gather_take xs p n (by omega)
    have hn : xs[n]? = some (xs[n]'(by omega)) := List.getElem?_eq_getElem (by omega)
    rw [List.take_add_one, hn, List.filterMap_append, ← ih]
    cases e : p (xs[n]'(by omega)) with
    | none =>
      rw [gather_none (by rw [hn]; exact e)]
      simp [e]
    | some y =>
      rw [gather_some (y := y) (by rw [hn]; exact e)]
      simp [e]
theorem gather_list {α : Type} (xs : List α) (p : α → Option V) : gather (fun i => (xs[i]?).bind p) xs.length = xs.filterMap p := by
  rw [gather_take xs p _ (Nat.le_refl _), List.take_length]
theorem gather_map {α : Type} (xs : List α) (f : α → V) : gather (fun i => (xs[i]?).map f) xs.length = xs.map f := by
  have e : (fun i : Nat => (xs[i]?).map f) = fun i : Nat => (xs[i]?).bind fun x => some (f x) := by
    funext i
    cases xs[i]? <;> rfl
  rw [e, gather_list]
  simp
theorem gather_fn (f : Nat → V) (n : Nat) : gather (fun i => some (f i)) n = (List.range n).map f := by
  unfold gather
  simp
/-- a comprehension whose turns leave what is known: f i, what the i-th turn gives -/
theorem lc_gather {J : It} {n : Nat} {G : Hp → Prop} {Y : Nat → Hp → V → Hp → Prop} (w : Walk J n G Y) {g : TG} {tt : TT} {te : TE} {vs : List Nat} {σ : L2.St} {H1 : Hp} {D : Addr} {Qd : Hp → Prop} (f : Nat → Option V) (hD : H1 D = none) (hz : n ≤ sizeLine)
    (hG : ∀ H, Same H1 H → G H)
    (hs : ∀ i x H H', i < n → Same H1 H → Y i H x H' → ∀ R : Option V → Hp → Prop, (∀ H4, Same H H4 → R (f i) H4) →
      g x (wipe σ vs) H' fun σ2 H2 => wipe σ2 vs = wipe σ vs ∧ tt σ2 H2 fun b H3 => if b = true then te σ2 H3 fun y H4 => R (some y) H4 else R none H3)
    (hd : ∀ H, Same H1 H → H D = some (.lst (gather f n)) → Qd H) :
    ∃ W : Nat → Nat → Hp → Prop, (∃ m, W 0 m (upd H1 D (.lst []))) ∧ ∀ i m H, W i m H →
      (J.stop i H ∧ Qd H) ∨ (J.go i H ∧ ∃ Nx : Hp → Prop, (∀ H', Nx H' → ∃ m', m' < m ∧ W (i + 1) m' H') ∧ ∀ x H', J.yld i H x H' → g x (wipe σ vs) H' fun σ2 H2 => wipe σ2 vs = wipe σ vs ∧ tt σ2 H2 fun b H3 =>
        if b = true then te σ2 H3 fun y H4 => ∃ acc, H4 D = some (.lst acc) ∧ acc.length < sizeLine ∧ Nx (upd H4 D (.lst (acc ++ [y]))) else Nx H3) := by
  have s0 : ∀ o, Same H1 (upd H1 D o) := fun o b u e => by rw [upd_ne (ne_of_none e hD)]; exact e
  refine lc_it w (fun i H => Same H1 H ∧ H D = some (.lst (gather f i))) ⟨s0 _, upd_same⟩ (fun i H _ p => hG H p.1) (fun i x H H' hi p y => ?_) fun H p => hd H p.1 p.2
  obtain ⟨p1, p2⟩ := p
  refine hs i x H H' hi p1 y (fun oy H4 => match oy with
    | some y => ∃ acc, H4 D = some (.lst acc) ∧ acc.length < sizeLine ∧ Same H1 (upd H4 D (.lst (acc ++ [y]))) ∧ upd H4 D (.lst (acc ++ [y])) D = some (.lst (gather f (i + 1)))
    | none => Same H1 H4 ∧ H4 D = some (.lst (gather f (i + 1)))) fun H4 q => ?_
  have p4 := p1.trans q
  cases e : f i with
  | none => exact ⟨p4, by rw [gather_none e]; exact q _ _ p2⟩
  | some y =>
    refine ⟨gather f i, q _ _ p2, Nat.lt_of_le_of_lt (gather_len f i) (Nat.lt_of_lt_of_le hi hz), fun b u z => ?_, by rw [upd_same, gather_some e]⟩
    rw [upd_ne (ne_of_none z hD)]
    exact p4 b u z
/-- .. without tests -/
theorem lc_map {J : It} {n : Nat} {G : Hp → Prop} {Y : Nat → Hp → V → Hp → Prop} (w : Walk J n G Y) {g : TG} {te : TE} {vs : List Nat} {σ : L2.St} {H1 : Hp} {D : Addr} {Qd : Hp → Prop} (f : Nat → Option V) (hD : H1 D = none) (hz : n ≤ sizeLine)
    (hG : ∀ H, Same H1 H → G H)
    (hs : ∀ i x H H', i < n → Same H1 H → Y i H x H' → ∀ R : V → Hp → Prop, (∀ y H4, Same H H4 → f i = some y → R y H4) →
      g x (wipe σ vs) H' fun σ2 H2 => wipe σ2 vs = wipe σ vs ∧ te σ2 H2 R) (hf : ∀ i, i < n → ∃ y, f i = some y)
    (hd : ∀ H, Same H1 H → H D = some (.lst (gather f n)) → Qd H) :
    ∃ W : Nat → Nat → Hp → Prop, (∃ m, W 0 m (upd H1 D (.lst []))) ∧ ∀ i m H, W i m H →
      (J.stop i H ∧ Qd H) ∨ (J.go i H ∧ ∃ Nx : Hp → Prop, (∀ H', Nx H' → ∃ m', m' < m ∧ W (i + 1) m' H') ∧ ∀ x H', J.yld i H x H' → g x (wipe σ vs) H' fun σ2 H2 => wipe σ2 vs = wipe σ vs ∧ tYes σ2 H2 fun b H3 =>
        if b = true then te σ2 H3 fun y H4 => ∃ acc, H4 D = some (.lst acc) ∧ acc.length < sizeLine ∧ Nx (upd H4 D (.lst (acc ++ [y]))) else Nx H3) := by
  refine lc_gather w f hD hz hG (fun i x H H' hi s y R k => ?_) hd
  have z := hs i x H H' hi s y (fun y H4 => R (some y) H4) fun y H4 q e => by
    have := k H4 q
    rw [e] at this
    exact this
  exact z
/-- .. whose turns make new things: Rl i y H, what holds of the i-th -/
theorem lc_rel {J : It} {n : Nat} {G : Hp → Prop} {Y : Nat → Hp → V → Hp → Prop} (w : Walk J n G Y) {g : TG} {te : TE} {vs : List Nat} {σ : L2.St} {H1 : Hp} {D : Addr} {Qd : Hp → Prop} (Rl : Nat → V → Hp → Prop) (hD : H1 D = none) (hz : n ≤ sizeLine)
    (hG : ∀ H, Same H1 H → G H) (stable : ∀ i y H H', (∀ b xs, H b = some (.tup xs) → H' b = some (.tup xs)) → Rl i y H → Rl i y H')
    (hs : ∀ i x H H', i < n → Same H1 H → Y i H x H' → ∀ R : V → Hp → Prop, (∀ y H4, Same H H4 → Rl i y H4 → R y H4) →
      g x (wipe σ vs) H' fun σ2 H2 => wipe σ2 vs = wipe σ vs ∧ te σ2 H2 R)
    (hd : ∀ H ys, Same H1 H → H D = some (.lst ys) → ys.length = n → (∀ i y, ys[i]? = some y → Rl i y H) → Qd H) :
    ∃ W : Nat → Nat → Hp → Prop, (∃ m, W 0 m (upd H1 D (.lst []))) ∧ ∀ i m H, W i m H →
      (J.stop i H ∧ Qd H) ∨ (J.go i H ∧ ∃ Nx : Hp → Prop, (∀ H', Nx H' → ∃ m', m' < m ∧ W (i + 1) m' H') ∧ ∀ x H', J.yld i H x H' → g x (wipe σ vs) H' fun σ2 H2 => wipe σ2 vs = wipe σ vs ∧ tYes σ2 H2 fun b H3 =>
        if b = true then te σ2 H3 fun y H4 => ∃ acc, H4 D = some (.lst acc) ∧ acc.length < sizeLine ∧ Nx (upd H4 D (.lst (acc ++ [y]))) else Nx H3) := by
  have s0 : ∀ o, Same H1 (upd H1 D o) := fun o b u e => by rw [upd_ne (ne_of_none e hD)]; exact e
  refine lc_it w (fun i H => Same H1 H ∧ ∃ ys, H D = some (.lst ys) ∧ ys.length = i ∧ ∀ j y, ys[j]? = some y → Rl j y H) ⟨s0 _, [], upd_same, rfl, fun j y e => by simp at e⟩ (fun i H _ p => hG H p.1) (fun i x H H' hi p y => ?_) fun H p => ?_
  · obtain ⟨p1, ys, p2, p3, p4⟩ := p
    have z := hs i x H H' hi p1 y (fun y H4 => ∃ acc, H4 D = some (.lst acc) ∧ acc.length < sizeLine ∧ Same H1 (upd H4 D (.lst (acc ++ [y]))) ∧
      ∃ ys, upd H4 D (.lst (acc ++ [y])) D = some (.lst ys) ∧ ys.length = i + 1 ∧ ∀ j y', ys[j]? = some y' → Rl j y' (upd H4 D (.lst (acc ++ [y])))) fun y H4 q r => by
        have e4 := q _ _ p2
        have tups : ∀ o b xs, H4 b = some (.tup xs) → upd H4 D o b = some (.tup xs) := fun o b xs e => by
          by_cases hb : b = D
          · rw [hb, e4] at e
            cases e
          · rw [upd_ne hb]
            exact e
        refine ⟨ys, e4, by rw [p3]; exact Nat.lt_of_lt_of_le hi hz, fun b u e => by rw [upd_ne (ne_of_none e hD)]; exact (p1.trans q) b u e, ys ++ [y], upd_same, by simp [p3], fun j y' e => ?_⟩
        by_cases hj : j < ys.length
        · rw [List.getElem?_append_left hj] at e
          exact stable j y' H4 _ (tups _) (stable j y' H H4 (fun b xs e => q _ _ e) (p4 j y' e))
        · rw [List.getElem?_append_right (by omega)] at e
          have ej : j = ys.length := by
            have := (List.getElem?_eq_some_iff.mp e).1
            simp at this
            omega
          subst ej
          simp at e
          subst e
          rw [p3]
          exact stable _ _ H4 _ (tups _) r
    exact z
  · obtain ⟨p1, ys, p2, p3, p4⟩ := p
    exact hd H ys p1 p2 p3 p4
end
end Sho
set_option Elab.async false
set_option linter.all false
set_option maxRecDepth 100000
set_option maxHeartbeats 2000000
/-! Lambdas as objects that are known: made (with a default or without), called. -/
namespace Sho
open PySem PySem.Spec PyProof.Rows L2 LamX NdefX

/-- a lambda's words: those of a def without a body, its expression, its defaults -/
structure LF where
  F : NF
  e : Expr
  dV : Value
abbrev LF.fd (Z : LF) (pm ctv : Value) : FuncData :=
  { PySem.W.kla_fn Z.F.name Z.F.qual Z.F.params Z.e Z.F.scope Z.F.cl pm (.ref Z.F.c) ctv with defaults := Z.dV }
/-- the object at f is that lambda -/
def LamO (f : Addr) (Z : LF) : HO :=
  .ext fun g => ∃ pm ctv : Value, g.get? f = some (({ cls := .type "function", data := .func (Z.fd pm ctv) }) : Obj)
theorem lamO_ne {f : Addr} {Z : LF} (qs : Array Value) : LamO f Z ≠ .tbl qs := fun h => nomatch h
theorem lamO_at {P : Program} {w : World} {H : Hp} {h : Heap} {f : Addr} {Z : LF} (ok : HOk P w H h) (hf : H f = some (LamO f Z)) :
    ∃ pm ctv : Value, h.get? f = some (({ cls := .type "function", data := .func (Z.fd pm ctv) }) : Obj) := by
  obtain ⟨x, _, _⟩ := ok f _ hf
  exact x
/-- nothing that was known is forgotten, but for the tables -/
structure Grows (T : List (Addr × Str)) (H H1 : Hp) : Prop where
  ext : ExtN H H1
  tab : Tabs T H → Tabs T H1
theorem Grows.rfl' {T : List (Addr × Str)} (H : Hp) : Grows T H H := ⟨ExtN.refl H, id⟩
theorem Grows.trans {T : List (Addr × Str)} {H H1 H2 : Hp} (a : Grows T H H1) (b : Grows T H1 H2) : Grows T H H2 := ⟨a.ext.trans b.ext, fun t => b.tab (a.tab t)⟩
theorem Grows.upd {T : List (Addr × Str)} {H : Hp} {p : Addr} {o : HO} (hp : H p = none) : Grows T H (L2.upd H p o) := by
  have e : ∀ b u, H b = some u → L2.upd H p o b = some u := fun b u q => (upd_ne (ne_of_none q hp)).trans q
  exact ⟨ExtN.of e, fun t => Tabs.ext t e⟩
/-- the words of a lambda that is made in X -/
abbrev mkLF (X : Cx) (params : Arguments) (body : Expr) (scope : Scope) (c' : Addr) (dV : Value) : LF :=
  ⟨⟨"<lambda>", X.env.qual ++ "<lambda>", params, [], scope, cloFrom X.env.cells scope.names [], c'⟩, body, dV⟩
section
variable {M : Model} {A : Around} {E : Value → Shared → Prop} {s : Shared}
/-- the making's end, the code object by a premise -/
theorem tail_d {name qual : Str} {params : Arguments} {body : Expr} {scope : Scope} {env : Env} {dV : Value} {pos : Pos} {fl : Nat} {clos : List (Str × Addr)} {mg : Str → Option Value} {Pl : Addr} {Q : Value → Shared → Prop}
    (hcl : closureFor scope env = pure clos) (hge : env.globals = mainGlobals)
    (h : ∀ h1 ctv, (∀ b o, s.heap.get? b = some o → h1.get? b = some o) → s.heap.objs.size ≤ h1.objs.size →
      wpAny M A (functionCode env pos fl name qual params scope (.expr body)) (fun cv s2 => s2.heap.Ns mainGlobals mg ∧ s2.heap.BuiltinsAt mg Pl ∧
        Q (.ref s2.heap.objs.size) { s2 with heap := s2.heap.push { cls := .type "function", data := .func { PySem.W.kla_fn name qual params body scope clos ((mg "__name__").getD .none) cv ctv with defaults := dV } } }) E { s with heap := h1 }) :
    wpAny M A (makeTail name qual params (.expr body) scope env dV .none none pos fl) Q E s := by
  unfold makeTail
  rw [hcl]
  refine wpAny_bind (wpAny_pure ?_)
  cases clos with
  | nil =>
    simp only [List.isEmpty_nil, if_true]
    refine wpAny_bind (wpAny_pure (wpAny_bind (wpAny_mono (h s.heap .none (fun _ _ e => e) (Nat.le_refl _)) (fun cv s2 x => ?_) fun _ _ x => x)))
    obtain ⟨g2, ⟨bm, ob, b1, b2, _, _, b5, b6, b7, b8⟩, q⟩ := x
    rw [hge]
    exact wpAny_bind (wpAny_builtinsFor g2 b1 b2 b5 b6 b7 b8 (wpAny_bind (wpAny_nsGet g2 (wpAny_bind (wpAny_pure (wpAny_newObj_type q (by size_fits)))))))
  | cons c r =>
    simp only [List.isEmpty_cons, Bool.false_eq_true, if_false]
    refine wpAny_bind (wpAny_newTextTuple (wpAny_bind (wpAny_mono (h _ (.ref s.heap.objs.size) (fun _ _ e => Heap.get?_push_of_some _ e) (by rw [Heap.size_push]; omega)) (fun cv s2 x => ?_) fun _ _ x => x)))
    obtain ⟨g2, ⟨bm, ob, b1, b2, _, _, b5, b6, b7, b8⟩, q⟩ := x
    rw [hge]
    exact wpAny_bind (wpAny_builtinsFor g2 b1 b2 b5 b6 b7 b8 (wpAny_bind (wpAny_nsGet g2 (wpAny_bind (wpAny_pure (wpAny_newObj_type q (by size_fits)))))))
end
section
variable {X : Cx} {pins : List (Addr × Obj)} {σ : L2.St} {H : Hp} {s : Shared}
theorem lamO_new {Z : LF} {tk : Nat} {pm ctv : Value} (I : Inv X pins σ H s) :
    Inv X pins σ (upd H s.heap.objs.size (LamO s.heap.objs.size Z))
      { s with heap := s.heap.push (({ cls := .type "function", data := .func (Z.fd pm ctv) }) : Obj), toks := tk } := by
  refine I.laid (fun b u e => Heap.get?_push_of_some _ e) (Nat.le_refl _) ?_
  have here : (s.heap.push (({ cls := .type "function", data := .func (Z.fd pm ctv) }) : Obj)).get? s.heap.objs.size = some (({ cls := .type "function", data := .func (Z.fd pm ctv) }) : Obj) :=
    Heap.get?_push_size _ rfl
  exact ⟨⟨pm, ctv, here⟩, ⟨_, here⟩, fun g1 g2 ⟨p, t, z⟩ st => ⟨p, t, st _ z⟩⟩

theorem lam_made {T : List (Addr × Str)} {c P : Addr} {params : Arguments} {body : Expr} {scope : Scope} {pos : Pos} {dV : Value} {E : Value → Shared → Prop} {Q : Value → Shared → Prop}
    (I : Inv X pins σ H s) (TB : TabB X.base X.mg c P) (hcode : X.env.code = .ref c)
    (hm : (P, X.env.qual ++ "<lambda>") ∈ T) (hu : ∀ p ∈ T, p.1 = P → p.2 = X.env.qual ++ "<lambda>") (hT : Tabs T H)
    (hcl : ∀ y ∈ scope.names, y.2 = .free → ∃ c, X.env.cells.lookup y.1 = some c)
    (h : ∀ (f c' : Addr) (H1 : Hp) (s' : Shared), Inv X pins σ H1 s' → Grows T H H1 → H f = none →
      H1 f = some (LamO f (mkLF X params body scope c' dV)) → H1 c' = some (CodeO c' (X.env.qual ++ "<lambda>")) → Q (.ref f) s') :
    wpAny (model X.prog X.w) X.A (makeTail "<lambda>" (X.env.qual ++ "<lambda>") params (.expr body) scope X.env dV .none none pos pos.line) Q E s := by
  obtain ⟨qs, hP, tri, among⟩ := (show TabS H P (X.env.qual ++ "<lambda>") from hT _ hm)
  refine tail_d (mg := X.mg) (Pl := P) (closure_ok hcl) I.ok.glob fun h1 ctv k1 z1 => ?_
  have I1 : Inv X pins σ H { s with heap := h1 } := I.kept (t' := s.toks) k1
  have hgP : h1.get? P = some { cls := .none, data := .fields qs } := I1.hok P _ hP
  have hbP := TB.bm.keeps I1.bk
  have CH := TB.code.keeps I1.bk
  cases hit : codeAmong pos qs.toList with
  | some cv =>
    obtain ⟨c', rfl, kc⟩ := among pos cv hit
    refine wpAny_functionCode_hit hcode (CH.code hgP tri) hit ⟨I1.mod.glob.keeps I1.bk, hbP, ?_⟩
    have nF : H h1.objs.size = none := I1.hok.fresh (Nat.le_refl _)
    exact h h1.objs.size c' _ _ (lamO_new (Z := mkLF X params body scope c' dV) (pm := (X.mg "__name__").getD .none) (ctv := ctv) (tk := s.toks) I1) (Grows.upd nF) nF upd_same
      ((upd_ne (ne_of_none kc nF)).trans kc)
  | none =>
    refine wpAny_functionCodeX hcode (CH.code hgP tri) (CH.tab hgP) hit fun c' h' tk hx hge hlt _ hrec htb _ => ?_
    have gl := (I1.mod.glob.keeps I1.bk).extBut hx TB.gP
    have bl : h'.BuiltinsAt X.mg P := by
      obtain ⟨bm, ob, b1, b2, b3, b4, b5, b6⟩ := hbP
      exact ⟨bm, ob, b1, b2, b3, b4, hx _ _ b4 b5, b6⟩
    refine ⟨gl, bl, ?_⟩
    obtain ⟨c2, oc, vs, t, e2, hoc, hd, hv⟩ := hrec
    cases e2
    have nC : H c' = none := I1.hok.fresh hge
    have J := inv_table (q := X.env.qual ++ "<lambda>") (t' := tk) (more := #[rawInt pos.line, rawInt pos.col, .ref c']) (h' := h') I1 hP (fun b o hb e => hx b o hb e) htb.2 hge ⟨oc, vs, t, hoc, hd, hv⟩
    generalize hH2 : L2.upd (L2.upd H P (.tbl (qs ++ #[rawInt pos.line, rawInt pos.col, .ref c']))) c' (CodeO c' (X.env.qual ++ "<lambda>")) = H2 at J
    have kC : H2 c' = some (CodeO c' (X.env.qual ++ "<lambda>")) := by rw [← hH2]; exact upd_same
    have ext : ExtN H H2 := fun b o e n => by
      have nP : b ≠ P := by
        rintro rfl
        exact n qs (Option.some.inj (e.symm.trans hP))
      rw [← hH2, upd_ne (ne_of_none e nC), upd_ne nP]
      exact e
    have eL : (qs ++ #[rawInt pos.line, rawInt pos.col, .ref c']).toList = qs.toList ++ [rawInt pos.line, rawInt pos.col, .ref c'] := by simp
    have tabs2 : Tabs T H2 := by
      intro p hp
      by_cases hb : p.1 = P
      · rw [hu p hp hb, hb]
        refine ⟨qs ++ #[rawInt pos.line, rawInt pos.col, .ref c'], ?_, ?_, ?_⟩
        · rw [← hH2, upd_ne (ne_of_none hP nC), upd_same]
        · rw [eL]
          exact PySem.TriplesOk_snoc _ _ _ _ tri
        · intro p' cv hcv
          rw [eL] at hcv
          rcases among_app _ tri hcv with z | z
          · obtain ⟨c0, f1, f2⟩ := among p' cv z
            exact ⟨c0, f1, ext _ _ f2 codeO_ne⟩
          · exact ⟨c', z, kC⟩
      · obtain ⟨qs', q1, q2, q3⟩ := hT p hp
        refine ⟨qs', ?_, q2, ?_⟩
        · rw [← hH2, upd_ne (ne_of_none q1 nC), upd_ne hb]
          exact q1
        · intro p' cv hcv
          obtain ⟨c0, f1, f2⟩ := q3 p' cv hcv
          exact ⟨c0, f1, ext _ _ f2 codeO_ne⟩
    have nF : H2 h'.objs.size = none := J.hok.fresh (Nat.le_refl _)
    have g2 : Grows T H2 (L2.upd H2 h'.objs.size (LamO h'.objs.size (mkLF X params body scope c' dV))) := Grows.upd nF
    exact h h'.objs.size c' _ _ (lamO_new (Z := mkLF X params body scope c' dV) (pm := (X.mg "__name__").getD .none) (ctv := ctv) (tk := tk) J) (Grows.trans ⟨ext, fun _ => tabs2⟩ g2)
      (I1.hok.fresh (Nat.le_trans hge (Nat.le_of_lt hlt))) upd_same (g2.ext _ _ kC codeO_ne)
end

/-! ### calls -/
section
variable {CX : CXT} {P : Program} {w : World} {K : PySem.W.Frag} {mg : Str → Option Value} {base : Heap} {N ps fr : List Str} {Z : LF} {f : Addr} {k : Nat}
/-- the body's context, at its entry -/
abbrev lcx (CX : CXT) (P : Program) (w : World) (K : PySem.W.Frag) (mg : Str → Option Value) (base : Heap) (N : List Str) (Z : LF) (f : Addr) (A : Around) (outer : List Env) (s : Shared) (H : Hp) (E : XK) : Cx :=
  ncx CX P w K mg base N Z.F f A outer s H E
theorem lam_call {A : Around} {outer : List Env} {s : Shared} {H : Hp} {args : Args} {us : List Value} {vs : List V} {ws : List (Option V)} {Q : VK} {E : XK} {t : TE} {pm ctv : Value}
    (S : NScope N ps fr Z.F.scope) (hr : Room (k + 1) A) (e0 : Env0 P w K mg base A outer s H)
    (ho : s.heap.get? f = some (({ cls := .type "function", data := .func (Z.fd pm ctv) }) : Obj)) (hcr : s.heap.CodeRec (.ref Z.F.c) Z.F.qual)
    (hb : BindsTo s (Z.fd pm ctv) args (ps.zip us)) (hl : vs.length = ps.length) (C : CellsAt Z.F.cl fr ws s.heap H) (r : Vals vs us)
    (hbody : Room k (A.deeper (envF Z.F f s.heap.objs.size)) → PE (lcx CX P w K mg base N Z f A outer s H E) Z.e t) (hq : t (startF N vs ws) H Q) :
    codeAny (model P w) A (.call (.ref f) args) (CR CX outer P w H s Q E) s := by
  have nolim : s.heap.NoLimit := e0.mod.nolimit.keeps fun b o e => (e0.bs b o e).1
  refine PySem.W.kla_callFunE hr.depth ho rfl S.co S.gen rfl hcr ?_
  refine hb _ _ _ _ ?_
  refine wpAny_newFunctionEnv S.nocell (fun ⟨n, _⟩ hy => S.par n (List.of_mem_zip hy).1) (fun h₁ hns hsb => ⟨nolim.fresh _ hsb, ?_⟩) S.kind
  show codeAny _ _ (.expr Z.e (envF Z.F f s.heap.objs.size)) _ _
  have kp : ∀ b o, s.heap.get? b = some o → h₁.get? b = some o :=
    fun b o e => hsb.extBut b o (Nat.ne_of_lt (Heap.lt_size e)) (Heap.get?_push_of_some _ e)
  have J : Inv (lcx CX P w K mg base N Z f A outer s H E) [] (startF N vs ws) H { s with heap := h₁, toks := s.toks + (ps.zip us).length } :=
    inv_startN S hr.hd e0 hl r C hns kp
  refine PySem.W.kla_codeExpr (wpAny_mono ((hbody (hr.deeper _)).run [] _ _ H Q J hq) (fun v s' hh => ?_) fun e s' hh => hh)
  obtain ⟨v', H', J', rv, q⟩ := hh
  exact ⟨v', H', J'.os, J'.bare, J'.base, J'.hok, rv, q⟩
/-- what the heap knows of a lambda at f -/
structure LamAt (H : Hp) (f : Addr) (Z : LF) : Prop where
  o : H f = some (LamO f Z)
  c : H Z.F.c = some (CodeO Z.F.c Z.F.qual)
  d : ∀ T : Addr, Z.dV = .ref T → ∃ xs, H T = some (.tup xs) ∧ xs = [.int 0]
theorem LamAt.ext {H H1 : Hp} (a : LamAt H f Z) (e : ExtN H H1) : LamAt H1 f Z :=
  ⟨e _ _ a.o lamO_ne, e _ _ a.c codeO_ne, fun T h => (a.d T h).elim fun xs q => ⟨xs, e _ _ q.1 (fun ps z => nomatch z), q.2⟩⟩
abbrev SpL := List (Option V) → Hp → VK → XK → Prop
/-- f may be called without arguments; cl, fr: its captured cells; sp: by what they hold -/
def Act (P : Program) (w : World) (K : PySem.W.Frag) (mg : Str → Option Value) (base : Heap) (CX : CXT) (k : Nat) (cl : List (Str × Addr)) (fr : List Str) (sp : SpL) (f : Addr) (H : Hp) : Prop :=
  ∃ Z : LF, Z.F.cl = cl ∧ LamAt H f Z ∧ ∀ (A : Around) (outer : List Env) (s : Shared) (H' : Hp) (ws : List (Option V)) (Q : VK) (E : XK), Room k A → Env0 P w K mg base A outer s H' → LamAt H' f Z →
    CellsAt cl fr ws s.heap H' → sp ws H' Q E → codeAny (model P w) A (.call (.ref f) ⟨[], []⟩) (CR CX outer P w H' s Q E) s
theorem Act.ext {cl : List (Str × Addr)} {sp : SpL} {H H1 : Hp} (a : Act P w K mg base CX k cl fr sp f H) (e : ExtN H H1) : Act P w K mg base CX k cl fr sp f H1 := by
  obtain ⟨Z, h1, h2, h3⟩ := a
  exact ⟨Z, h1, h2.ext e, h3⟩
theorem Act.mono {cl : List (Str × Addr)} {sp sp' : SpL} {H : Hp} {k' : Nat} (a : Act P w K mg base CX k cl fr sp f H) (h : k ≤ k') (i : ∀ ws H Q E, sp' ws H Q E → sp ws H Q E) : Act P w K mg base CX k' cl fr sp' f H := by
  obtain ⟨Z, h1, h2, h3⟩ := a
  exact ⟨Z, h1, h2, fun A outer s H' ws Q E hr e0 l c q => h3 A outer s H' ws Q E (hr.mono h) e0 l c (i _ _ _ _ q)⟩
/-- a lambda without parameters -/
theorem act0 {sp : SpL} {H : Hp} (l : LamAt H f Z) (S : NScope N [] fr Z.F.scope) (hb : ∀ pm ctv : Value, bindArgs (Z.fd pm ctv) ⟨[], []⟩ = pure [])
    (hbody : ∀ (A : Around) (outer : List Env) (s : Shared) (H : Hp) (ws : List (Option V)) (Q : VK) (E : XK), Room k (A.deeper (envF Z.F f s.heap.objs.size)) → ws.length = fr.length → sp ws H Q E →
      ∃ t, PE (lcx CX P w K mg base N Z f A outer s H E) Z.e t ∧ t (startF N [] ws) H Q) : Act P w K mg base CX (k + 1) Z.F.cl fr sp f H := by
  refine ⟨Z, rfl, l, fun A outer s H' ws Q E hr e0 l' C h => ?_⟩
  obtain ⟨pm, ctv, ho⟩ := lamO_at e0.hok l'.o
  obtain ⟨t, ht, hq⟩ := hbody A outer s H' ws Q E (hr.deeper _) C.len h
  exact lam_call (ps := []) (us := []) S hr e0 ho (codeO_at e0.hok l'.c) (.of_eq (hb pm ctv)) rfl C .nil (fun _ => ht) hq
/-- .. of one parameter, whose default is 0 -/
theorem act1 {x : Str} {T : Addr} {sp : SpL} {H : Hp} (l : LamAt H f Z) (hT : Z.dV = .ref T) (S : NScope N [x] fr Z.F.scope)
    (hb : ∀ (pm ctv u : Value), ∃ kk, bindArgs (Z.fd pm ctv) ⟨[], []⟩ = seqItems? Z.dV >>= kk ∧ kk (some #[u]) = pure [(x, u)])
    (hbody : ∀ (A : Around) (outer : List Env) (s : Shared) (H : Hp) (ws : List (Option V)) (Q : VK) (E : XK), Room k (A.deeper (envF Z.F f s.heap.objs.size)) → ws.length = fr.length → sp ws H Q E →
      ∃ t, PE (lcx CX P w K mg base N Z f A outer s H E) Z.e t ∧ t (startF N [.int 0] ws) H Q) : Act P w K mg base CX (k + 1) Z.F.cl fr sp f H := by
  refine ⟨Z, rfl, l, fun A outer s H' ws Q E hr e0 l' C h => ?_⟩
  obtain ⟨pm, ctv, ho⟩ := lamO_at e0.hok l'.o
  obtain ⟨xs, hx, rfl⟩ := l'.d T hT
  obtain ⟨_, its, rv, ht1⟩ := e0.hok T _ hx
  cases rv with
  | @cons _ u _ _ ru rn =>
  cases rn
  obtain ⟨t, ht, hq⟩ := hbody A outer s H' ws Q E (hr.deeper _) C.len h
  obtain ⟨kk, b1, b2⟩ := hb pm ctv u
  obtain ⟨oT, g1, _, n, g3⟩ := ht1
  refine lam_call (ps := [x]) (us := [u]) S hr e0 ho (codeO_at e0.hok l'.c) ?_ rfl C (.cons ru .nil) (fun _ => ht) hq
  exact BindsTo.of_defaults (fd := Z.fd pm ctv) (k := kk) hT g1 g3 b1 b2
end

/-! ### the rules: a lambda as a value -/
section
variable {X : Cx} {T : List (Addr × Str)} {c P : Addr} {params : Arguments} {body : Expr} {scope : Scope} {pos : Pos}
/-- the new lambda stands at f; mk: its words by its code object and its defaults -/
def tLamO (T : List (Addr × Str)) (mk : Addr → Value → LF) : TE := fun σ H Q => Tabs T H ∧ ∀ (f c' : Addr) (H1 : Hp), Grows T H H1 → H f = none → LamAt H1 f (mk c' .none) → Q (.ref f) H1
def tLamD (T : List (Addr × Str)) (mk : Addr → Value → LF) : TE := fun σ H Q => Tabs T H ∧ ∀ (f c' t : Addr) (H1 : Hp), Grows T H H1 → H f = none → LamAt H1 f (mk c' (.ref t)) → Q (.ref f) H1
theorem pe_lam (TB : TabB X.base X.mg c P) (hcode : X.env.code = .ref c)
    (hm : (P, X.env.qual ++ "<lambda>") ∈ T) (hu : ∀ p ∈ T, p.1 = P → p.2 = X.env.qual ++ "<lambda>")
    (hfree : ∀ y ∈ scope.names, y.2 = .free → X.env.scope.names.lookup y.1 = some .cell ∨ X.env.scope.names.lookup y.1 = some .free) (hdef : defaultsOf params X.env = ([], []) := by exact rfl) :
    PE X (.Lambda params body scope pos) (tLamO T (mkLF X params body scope)) := by
  refine ⟨fun pins s σ H Q I ⟨hT, h⟩ => PySem.W.kla_eval hdef ?_⟩
  rw [makeFunction_eq]
  simp only [List.zip_nil_right, List.filterMap_nil, List.isEmpty_nil, if_true, pure_bind]
  refine lam_made I TB hcode hm hu hT (fun y hy e => I.ok.has _ (hfree y hy e)) fun f c' H1 s' I1 g n1 e1 e2 => ?_
  exact ⟨.ref f, H1, I1, rfl, h f c' H1 g n1 ⟨e1, e2, fun t z => nomatch z⟩⟩
/-- a default that is an int: 0 -/
theorem pe_lamD {d : Expr} (TB : TabB X.base X.mg c P) (hcode : X.env.code = .ref c)
    (hm : (P, X.env.qual ++ "<lambda>") ∈ T) (hu : ∀ p ∈ T, p.1 = P → p.2 = X.env.qual ++ "<lambda>")
    (hfree : ∀ y ∈ scope.names, y.2 = .free → X.env.scope.names.lookup y.1 = some .cell ∨ X.env.scope.names.lookup y.1 = some .free)
    (hd : PE X d (tC (.int 0))) (hdef : defaultsOf params X.env = ([eval d X.env], []) := by exact rfl) :
    PE X (.Lambda params body scope pos) (tLamD T (mkLF X params body scope)) := by
  refine ⟨fun pins s σ H Q I ⟨hT, h⟩ => ?_⟩
  rw [arm_eval_Lambda, hdef]
  show wpAny _ X.A (do
    let dv ← evalAll [eval d X.env]
    let kdv ← holding dv (evalAllOpt [])
    makeFunction "<lambda>" (X.env.qual ++ "<lambda>") params (.expr body) scope X.env dv kdv [] pos pos.line) _ _ s
  refine wpAny_bind ?_
  show wpAny _ X.A (eval d X.env >>= fun v => _) _ _ s
  refine wpAny_bind (thn (hd.run pins s σ H (fun v H1 => v = .int 0 ∧ H1 = H) I ⟨rfl, rfl⟩) fun v s1 x => ?_)
  obtain ⟨v0, H1, I1, rv, rfl, rfl⟩ := x
  refine wpAny_bind (wpAny_holding (wpAny_pure (wpAny_pure ?_)))
  refine wpAny_bind (wpAny_holding (wpAny_pure ?_))
  rw [makeFunction_eq]
  simp only [List.zip_nil_right, List.filterMap_nil, List.isEmpty_nil, List.isEmpty_cons, Bool.false_eq_true, if_true, if_false, pure_bind]
  refine wpAny_bind (wpAny_newTextTuple ?_)
  have nT : H1 s1.heap.objs.size = none := I1.hok.fresh (Nat.le_refl _)
  have I2 : Inv X pins σ (upd H1 s1.heap.objs.size (.tup [.int 0])) { s1 with heap := s1.heap.push { cls := .type "tuple", data := .seq [v].toArray } } :=
    I1.laid (t' := s1.toks) (fun b o e => Heap.get?_push_of_some _ e) (Nat.le_refl _) ⟨by decide, [v], .cons rv .nil, _, Heap.get?_push_size _ rfl, rfl, 0, rfl⟩
  have G2 : Grows T H1 (upd H1 s1.heap.objs.size (.tup [.int 0])) := Grows.upd nT
  refine lam_made I2 TB hcode hm hu (G2.tab hT) (fun y hy e => I2.ok.has _ (hfree y hy e)) fun f c' H3 s' I3 g n1 e1 e2 => ?_
  have tT : H3 s1.heap.objs.size = some (.tup [.int 0]) := g.ext _ _ upd_same fun ps z => nomatch z
  have nf : H1 f = none := by
    by_cases z : f = s1.heap.objs.size
    · rw [z]
      exact nT
    · rw [upd_ne z] at n1
      exact n1
  exact ⟨.ref f, H3, I3, rfl, h f c' s1.heap.objs.size H3 (G2.trans g) nf ⟨e1, e2, fun t z => by cases z; exact ⟨_, tT, rfl⟩⟩⟩
end
end Sho
set_option Elab.async false
set_option linter.all false
set_option maxRecDepth 100000
set_option maxHeartbeats 2000000
/-! A try whose clauses may each bind the exception or not. -/
namespace Sho
open PySem PySem.Spec PyProof.Rows L2
/-- a clause: the class, the slot of its name (if it has one), its suite's reading -/
structure Clause where
  c : Value
  i : Option Nat
  ts : Addr → Value → Option Addr → TS
def setO (σ : L2.St) : Option Nat → Option V → L2.St
  | none, _ => σ
  | some i, v => σ.set i v
/-- a suite's ends: the clause's name is gone -/
def endsO (D : Ends) (i : Option Nat) : Ends :=
  { nx := fun σ H => D.nx (setO σ i none) H, rt := D.rt, bk := fun σ H => D.bk (setO σ i none) H, ct := fun σ H => D.ct (setO σ i none) H }
def wClauses (K : PySem.W.Frag) (Wout : WX) (D : Ends) : List Clause → WX
  | [] => Wout
  | C :: r => fun cls d σ H => ∃ b, PySem.W.exmOne K cls C.c = some b ∧
    (b = true → ∀ a, H a = none → C.ts a cls d (endsO D C.i) (setO σ C.i (some (.ref a))) H) ∧ (b = false → wClauses K Wout D r cls d σ H)
def Bound (X : Cx) : Option Str → Option Nat → Prop
  | none, none => True
  | some n, some i => X.N[i]? = some n ∧ X.env.kindOf n = some .local
  | _, _ => False
inductive ClausesOk (X : Cx) : List ExceptHandler → List Clause → Prop
  | nil : ClausesOk X [] []
  | cons {x : Str} {n : Option Str} {C : Clause} {b₀ : Stmt} {suite : List Stmt} {np hp : Pos} {hds : List ExceptHandler} {l : List Clause} (hc : Names X x C.c) (hn : Bound X n C.i)
      (body : ∀ (a : Addr) (oe : Obj) (cls : Value) (d : Option Addr) (pn : List (Addr × Obj)), Zc cls d oe → (∃ vs, oe.data = .fields vs) → PSs (X.suite a ((a, oe) :: pn)) (b₀ :: suite) (C.ts a cls d))
      (rest : ClausesOk X hds l) : ClausesOk X (.ExceptHandler (some (.Name x np)) n (b₀ :: suite) hp :: hds) (C :: l)
/-- an exception that X's frame has caught, in the state s -/
structure Caught (X : Cx) (pins : List (Addr × Obj)) (σ : L2.St) (H : Hp) (B : Heap) (a : Addr) (cls : Value) (d : Option Addr) (s : Shared) : Prop where
  fly : HandSPX.FlyingZ B (X.env :: X.outer) a (Zc cls d) s.heap
  back : ∀ h, HandSPX.FlyingZ B (X.env :: X.outer) a (Zc cls d) h → s.heap.UpToSlots h → Inv X pins σ H { s with heap := h }
  on : ∀ h (W : WX), HandSPX.HeldZ B (X.env :: X.outer) a (Zc cls d) X.env.locals h → s.heap.UpToSlots h → W cls d σ H → XE X W (.ref a) { s with heap := h }
  free : H a = none
section
variable {X : Cx} {pins : List (Addr × Obj)} {σ : L2.St} {H : Hp} {B : Heap} {a : Addr} {cls : Value} {d : Option Addr} {s : Shared}
theorem Caught.inv (c : Caught X pins σ H B a cls d s) : Inv X pins σ H s := c.back s.heap c.fly (.refl _)
theorem Caught.apart (c : Caught X pins σ H B a cls d s) (hf : X.env.frame = some X.env.locals) : a ≠ X.env.locals ∧ a ∉ X.fs := by
  obtain ⟨oe, vs, he, _, hd⟩ := c.fly.there
  have out : a ∉ frs (X.env :: X.outer) := fun hm => by
    obtain ⟨_, o, e, nf⟩ := c.fly.2.2.1.mem hm
    rw [he] at e
    cases e
    exact nf _ hd
  refine ⟨fun z => out (List.mem_filterMap.mpr ⟨X.env, .head _, hf.trans (congrArg some z.symm)⟩), fun hm => ?_⟩
  obtain ⟨e, he2, q⟩ := List.mem_filterMap.mp hm
  exact out (List.mem_filterMap.mpr ⟨e, .tail _ he2, q⟩)
theorem caught_of {xe : Value → Shared → Prop} {W : WX} {u : Value} {Q : Shared → Prop} {E : Value → Shared → Prop} (hs : X.stack = X.env :: X.outer) (hf : X.env.frame = some X.env.locals) (ok : X.Ok)
    (x : XE (X.tr (X.pn ++ pins) xe) W u s)
    (h : ∀ a B σ H cls d h3, u = .ref a → Caught X pins σ H B a cls d { s with heap := h3 } → W cls d σ H → Q { s with heap := h3 }) :
    wpAny (model X.prog X.w) X.A (noteFrame u X.env) (fun _ s2 => wpAny (model X.prog X.w) X.A (setFlight u none) (fun _ s3 => Q s3) E s2) E s := by
  obtain ⟨a, B, s0, pins', σ1, H1, cls, d, rfl, J1, ground, up, sky, na, os, ag, w⟩ := x
  have J : Inv X pins σ1 H1 s0 := J1.ofTry ok
  have sky2 : Sky B (X.env :: X.outer) a (Zc cls d) X.env.locals s.heap := hs ▸ sky
  refine Sky.land Zc.steady (ok.frames.trans (congrArg some hs)) hf sky2 fun h3 fly up3 => ?_
  refine h a B σ1 H1 cls d h3 rfl ⟨fly, fun g fg ug => J.landed ground fg.1 (up.trans (up3.trans ug)) os ag, fun g W2 hg ug w2 => ?_, na⟩ w
  exact ⟨a, B, s0, pins, σ1, H1, cls, d, rfl, J, ground, up.trans (up3.trans ug), .inr (.inr (by rw [hs]; exact hg)), na, os, ag, w2⟩

theorem clauses_run {Wout : WX} {D : Ends} (hs : X.stack = X.env :: X.outer) (hf : X.env.frame = some X.env.locals) (hN : X.N.Nodup) (tk : Takes X Wout) (c : Caught X pins σ H B a cls d s)
    {hds : List ExceptHandler} {l : List Clause} (hk : ClausesOk X hds l) : wClauses X.K Wout D l cls d σ H →
    wpAny (model X.prog X.w) X.A (handleBy (.ref a) X.env hds) (SP X pins D) X.xe s := by
  have ok := c.inv.ok
  induction hk with
  | nil =>
    intro w
    refine wpAny_handleBy_nil ?_
    obtain ⟨_, _, _, oe, vs, T, oT, ts', he, hz, hd, h1, _⟩ := id c.fly
    unfold PySem.passOn
    refine wpAny_bind (wpAny_field he hd h1 ?_)
    rw [if_neg (show ¬ ((Value.ref T == Value.none) = true) by simp)]
    have up : wpAny (model X.prog X.w) X.A (setFlight (.ref a) X.env.frame) (fun _ s4 => wpAny (model X.prog X.w) X.A (throw (.ref a) : Sem PySem.Flow) (SP X pins D) X.xe s4) X.xe s := by
      rw [hf]
      exact HandSPX.setFlight_upZ c.fly fun g hg ug => wpAny_throw (tk _ _ (c.on g Wout hg ug w))
    first
      | exact wpAny_bind (wpAny_pure (wpAny_bind up))
      | exact wpAny_bind up
  | @cons x n C b₀ suite np hp hds2 l2 hc hn body rest ih =>
    intro w
    obtain ⟨b, hb, yes, no⟩ := w
    obtain ⟨oe, vs, he, hz, hd⟩ := c.fly.there
    obtain ⟨nL, nF⟩ := c.apart hf
    have I := c.inv
    have IS := I.suite he hd c.free nL nF
    refine wpAny_handleBy_cons (codeAny_handlers_test ?_) (by intro q; cases q)
    have lt : PySem.W.Looks (model X.prog X.w) s.heap (typeOf (.ref a)) cls := fun A Q E s k q => wpAny_typeOf_ref (k _ _ he) (by rw [hz.1]; exact q)
    have lm := PySem.W.exm_one (M := model X.prog X.w) I.kIn lt hb
    have named : ∀ {Q : Value → Shared → Prop} {E : Value → Shared → Prop}, Q C.c s → wpAny (model X.prog X.w) (X.A.mark (some (.ref a))) (eval (.Name x np) X.env) Q E s := fun {Q E} q => by
      obtain ⟨g1, g2, g3⟩ := hc
      rcases g3 with g3 | ⟨g3, g4, g5⟩
      · exact ld_glob (X := X.suite a ((a, oe) :: (X.pn ++ pins))) IS g1 g3 q g2
      · exact ld_blt (X := X.suite a ((a, oe) :: (X.pn ++ pins))) IS g1 g3 g4 q g5 g2
    refine named (lm.here ?_)
    cases b with
    | false => exact ih (no rfl)
    | true =>
      have go : ∀ g, HandSPX.FlyingZ B (X.env :: X.outer) a (Zc cls d) g → s.heap.UpToSlots g → ∃ oe4 vs4, Zc cls d oe4 ∧ oe4.data = .fields vs4 ∧ Inv (X.suite a ((a, oe4) :: (X.pn ++ pins))) [] σ H { s with heap := g } := fun g fg ug => by
        obtain ⟨oe4, vs4, he4, hz4, hd4⟩ := fg.there
        exact ⟨oe4, vs4, hz4, hd4, (c.back g fg ug).suite he4 hd4 c.free nL nF⟩
      cases n with
      | none =>
        match hi : C.i with
        | some i =>
          rw [hi] at hn
          exact hn.elim
        | none =>
          rw [hi] at yes
          refine codeAny_handlers_suite ?_
          refine HandSPX.lands_againZ c.fly fun g fg ug => ?_
          obtain ⟨oe4, vs4, hz4, hd4, I4⟩ := go g fg ug
          refine wpAny_mono ((body a oe4 cls d (X.pn ++ pins) hz4 ⟨_, hd4⟩).run [] _ _ H _ I4 (yes rfl a c.free)) (fun f s6 r => ?_) fun _ _ z => False.elim z
          cases f with
          | ret u =>
            obtain ⟨v6, σ6, H6, I6, r6, q6⟩ := r
            exact ⟨v6, σ6, H6, I6.unsuite ok, r6, q6⟩
          | next => obtain ⟨σ6, H6, I6, q6⟩ := r; exact ⟨σ6, H6, I6.unsuite ok, q6⟩
          | brk => obtain ⟨σ6, H6, I6, q6⟩ := r; exact ⟨σ6, H6, I6.unsuite ok, q6⟩
          | cont => obtain ⟨σ6, H6, I6, q6⟩ := r; exact ⟨σ6, H6, I6.unsuite ok, q6⟩
      | some n =>
        match hi : C.i with
        | none =>
          rw [hi] at hn
          exact hn.elim
        | some i =>
          rw [hi] at hn yes
          obtain ⟨hni, hln⟩ := hn
          refine codeAny_handlers_suite_as ?_
          refine HandSPX.lands_againZ c.fly fun g fg ug => ?_
          obtain ⟨oe4, vs4, hz4, hd4, I4⟩ := go g fg ug
          refine store_ok (X := X.suite a ((a, oe4) :: (X.pn ++ pins))) (v := .ref a) I4 hN hni (.inl hln) rfl (fun s5 I5 => ?_) (.inr hln)
          refine wpAny_mono ((body a oe4 cls d (X.pn ++ pins) hz4 ⟨_, hd4⟩).run [] s5 _ H _ I5 (yes rfl a c.free)) (fun f s6 r => ?_) fun _ _ z => False.elim z
          have gone : ∀ {σ6 : L2.St} {H6 : Hp} {Q : Shared → Prop}, Inv (X.suite a ((a, oe4) :: (X.pn ++ pins))) [] σ6 H6 s6 → (∀ s7, Inv X pins (σ6.set i none) H6 s7 → Q s7) →
              wpAny (model X.prog X.w) X.A (do bindName X.env n .none; unbindBehindTheSuite X.env n hp) (fun _ s7 => Q s7) X.xe s6 := fun {σ6 H6 Q} I6 k => gone_ok (I6.unsuite ok) hN hni hln k
          cases f with
          | ret u =>
            obtain ⟨v6, σ6, H6, I6, r6, q6⟩ := r
            exact gone I6 fun s7 I7 => ⟨v6, _, H6, I7, r6, q6⟩
          | next => obtain ⟨σ6, H6, I6, q6⟩ := r; exact gone I6 fun s7 I7 => ⟨_, H6, I7, q6⟩
          | brk => obtain ⟨σ6, H6, I6, q6⟩ := r; exact gone I6 fun s7 I7 => ⟨_, H6, I7, q6⟩
          | cont => obtain ⟨σ6, H6, I6, q6⟩ := r; exact gone I6 fun s7 I7 => ⟨_, H6, I7, q6⟩
end
section
variable {X : Cx} {body : List Stmt} {h₀ : ExceptHandler} {hds : List ExceptHandler} {l : List Clause} {pos : Pos} {tb : WX → TS} {Wout : WX}
/-- try: body / except A as e: .. / except B: .. -/
theorem ps_try (hs : X.stack = X.env :: X.outer) (hf : X.env.frame = some X.env.locals) (hN : X.N.Nodup) (tk : Takes X Wout)
    (hb : ∀ (W : WX) (pn : List (Addr × Obj)) (xe : Value → Shared → Prop), Takes (X.tr pn xe) W → PassesOwn (model X.prog X.w) X.A X.env xe → PSs (X.tr pn xe) body (tb W))
    (hk : ClausesOk X (h₀ :: hds) l) : PS X (.Try body (h₀ :: hds) [] [] pos) (fun D σ H => tb (wClauses X.K Wout D l) D σ H) := by
  refine ⟨fun pins s σ H D I h => wpAny_Try_except ?_⟩
  have ok := I.ok
  refine wpAny_mono ((hb (wClauses X.K Wout D l) (X.pn ++ pins) (fun e s₁ => wpAny (model X.prog X.w) X.A (noteFrame e X.env)
    (fun _ s₂ => wpAny (model X.prog X.w) X.A (setFlight e none) (fun _ s₃ => wpAny (model X.prog X.w) X.A (handleBy e X.env (h₀ :: hds)) (SP X pins D) X.xe s₃) X.xe s₂) X.xe s₁)
    (fun u s' x => ?_) PassesOwn.looking).run [] s σ H D (I.toTry _) h) (fun f s1 r => ?_) fun _ _ z => z
  · refine caught_of hs hf ok x fun a B σ1 H1 cls d h3 e c w => ?_
    subst e
    exact clauses_run hs hf hN tk c hk w
  · cases f with
    | ret u =>
      obtain ⟨v6, σ6, H6, I6, r6, q6⟩ := r
      exact ⟨v6, σ6, H6, I6.ofTry ok, r6, q6⟩
    | next => obtain ⟨σ6, H6, I6, q6⟩ := r; exact wpAny_execs_nil ⟨σ6, H6, I6.ofTry ok, q6⟩
    | brk => obtain ⟨σ6, H6, I6, q6⟩ := r; exact ⟨σ6, H6, I6.ofTry ok, q6⟩
    | cont => obtain ⟨σ6, H6, I6, q6⟩ := r; exact ⟨σ6, H6, I6.ofTry ok, q6⟩
end
end Sho
set_option Elab.async false
set_option linter.all false
set_option maxRecDepth 100000
set_option maxHeartbeats 2000000
/-! A callable that is handed on, called without arguments. -/
namespace Sho
open PySem PySem.Spec PyProof.Rows L2 LamX NdefX
section
variable {X : Cx} {pins : List (Addr × Obj)} {σ : L2.St} {H : Hp} {s : Shared} {cl : List (Str × Addr)} {fr : List Str} {ws : List (Option V)}
theorem cells_un {fs ex : List Addr} {H0 : Hp} {h0 h : Heap} (C : CellsAt cl fr ws h0 H0) (U : Un fs ex H0 H h0 h) (hex : ∀ y c, cl.lookup y = some c → c ∉ ex) : CellsAt cl fr ws h H := by
  have one : ∀ {y : Str} {c : Addr} {v : Option Value}, cl.lookup y = some c → h0.IsCell c v → h.IsCell c v := fun {y c v} e ⟨o, ho, hd⟩ => by
    by_cases hm : c ∈ fs
    · obtain ⟨sl, q⟩ := U.slot c o ho (C.all y c e).1 hm (hex y c e)
      exact ⟨_, q, hd⟩
    · exact ⟨o, U.keep c o ho (C.all y c e).1 hm (hex y c e), hd⟩
  refine ⟨C.len, fun y c e => ?_, C.inj, fun i y hi => ?_⟩
  · obtain ⟨n, v, o, ho, hd⟩ := C.all y c e
    exact ⟨U.free c o ho n (hex y c e), v, one e ⟨o, ho, hd⟩⟩
  · obtain ⟨c, e, k⟩ := C.has i y hi
    refine ⟨c, e, fun v hv => ?_⟩
    obtain ⟨u, r, z⟩ := k v hv
    exact ⟨u, r, one e z⟩
/-- cells of the entry's time stand as they stood -/
theorem cells_kept (I : Inv X pins σ H s) (C : CellsAt cl fr ws X.s_0.heap X.H_0) (hex : ∀ y c, cl.lookup y = some c → c ∉ X.ex) : CellsAt cl fr ws s.heap H := cells_un C I.base hex

/-- x(): x's slot holds a callable -/
def tAct (P : Program) (w : World) (K : PySem.W.Frag) (mg : Str → Option Value) (base : Heap) (CX : CXT) (k : Nat) (i : Nat) (cl : List (Str × Addr)) (fr : List Str) (ws : List (Option V)) (E : L2.St → XK) : TE := fun σ H Q =>
  ∃ f sp, σ[i]? = some (some (.ref f)) ∧ Act P w K mg base CX k cl fr sp f H ∧ sp ws H Q (E σ)
theorem pe_act {CX : CXT} {k i : Nat} {E : L2.St → XK} {x : Str} {p pos : Pos} (hr : Room k X.A) (C : CellsAt cl fr ws X.s_0.heap X.H_0) (hex : ∀ y c, cl.lookup y = some c → c ∉ X.ex) (hx : ∀ σ, PassesAt CX X σ (E σ))
    (hN : X.N[i]? = some x) (hv : Vis X.env.scope x) (hd : (x == ("__debug__" : Str)) = false := by decide) (hcd : (x == ("__classdict__" : Str)) = false := by decide) :
    PE X (.Call (.Name x p) [] [] pos) (tAct X.prog X.w X.K X.mg X.base CX k i cl fr ws E) := by
  refine ⟨fun pins s σ H Q I ⟨f, sp, hs, ⟨Z, ecl, hl, run⟩, h⟩ => ?_⟩
  refine wpAny_Call_Name_kw (thn ((pe_var (pos := p) (i := i) hN hv hd hcd).run pins s σ H (fun v H1 => v = .ref f ∧ H1 = H) I ⟨.ref f, hs, rfl, rfl⟩) fun u s1 y => ?_)
  obtain ⟨v, H1, I1, rv, rfl, rfl⟩ := y
  obtain rfl : u = Value.ref f := rv
  obtain ⟨pm, ctv, ho⟩ := lamO_at I1.hok hl.o
  refine PySem.W.callWith_F0 ⟨_, _, _, _, ho⟩ ?_
  refine wpAny_call (codeAny_mono (run X.A X.stack s1 H1 ws Q (E σ) hr I1.env0 hl (cells_kept I1 C hex) h) fun r s' hq => ?_)
  cases r with
  | error e => exact hx σ pins H1 s1 e s' I1 hq
  | ok fl =>
    cases fl with
    | ret u => exact I1.after hq
    | next => exact hq.elim
    | brk => exact hq.elim
    | cont => exact hq.elim

/-- g(e): a def of the module, its promise told of the very state; know: what the state at the call shows -/
theorem pe_callAt {CX : CXT} {E : XK} {know : L2.St → Shared → Hp → Prop} {sp : L2.St → V → Hp → VK → Prop} {g : Addr} {x : Str} {e : Expr} {ta : TA} {p pos : Pos} (hg : Gl X x) (hm : X.mg x = some (.ref g)) (hk : PySem.W.keepIn X.K (.ref g) = true)
    (hx : Passes CX X E) (hP : ∀ (pins : List (Addr × Obj)) (σ : L2.St) (H : Hp) (s : Shared), Inv X pins σ H s → know σ s H) (ha : PA X [e] ta)
    (run : ∀ (σ : L2.St) (s : Shared) (H : Hp) (u : Value) (v : V) (Q : VK), Env0 X.prog X.w X.K X.mg X.base X.A X.stack s H → know σ s H → RelV v u → sp σ v H Q →
      codeAny (model X.prog X.w) X.A (.call (.ref g) ⟨[u], []⟩) (CR CX X.stack X.prog X.w H s Q E) s)
    (hdb : (x == ("__debug__" : Str)) = false := by decide) (hst : starEach [e] X.env = (false, eval e X.env) :: starEach [] X.env := by rfl) :
    PE X (.Call (.Name x p) [e] [] pos) (fun σ H Q => ta σ H fun vs H1 => ∃ v, vs = [v] ∧ sp σ v H1 Q) := by
  refine ⟨fun pins s σ H Q I h => ?_⟩
  refine wpAny_Call_Name_kw (ld_glob I hg hm ?_ hdb)
  refine PySem.W.callWith_K (h₀ := X.base) I.ok.mod.kin hk (thn (ha.run pos pins s σ H _ I h) fun us s1 y => ?_) hst rfl
  · obtain ⟨vs, H1, I1, rv, v, rfl, q⟩ := y
    cases rv with
    | @cons _ u _ _ ru rn =>
    cases rn
    refine ⟨I1.kIn, wpAny_call (codeAny_mono (run σ s1 H1 u v Q I1.env0 (hP pins σ H1 s1 I1) ru q) fun r s' hq => ?_)⟩
    cases r with
    | error er => exact hx pins σ H1 s1 er s' I1 hq
    | ok fl =>
      cases fl with
      | ret w2 => exact I1.after hq
      | next => exact hq.elim
      | brk => exact hq.elim
      | cont => exact hq.elim
end
end Sho
set_option Elab.async false
set_option linter.all false
set_option maxRecDepth 100000
set_option maxHeartbeats 2000000
/-! Small words that every law's text uses. -/
namespace Shg
open PySem L2 Sho
theorem pair_len {α β : Type} {R : α → β → Prop} : ∀ {as : List α} {bs : List β}, PySem.Paired R as bs → as.length = bs.length
  | _, _, .nil => rfl
  | _, _, .cons _ r => congrArg Nat.succ (pair_len r)
theorem pair_get {α β : Type} {R : α → β → Prop} : ∀ {as : List α} {bs : List β} {i : Nat} {a : α}, PySem.Paired R as bs → as[i]? = some a → ∃ b, bs[i]? = some b ∧ R a b
  | _, _, i, a, .nil, h => by simp at h
  | _, _, 0, a, .cons h r, e => by
    simp at e
    subst e
    exact ⟨_, rfl, h⟩
  | _, _, i + 1, a, .cons h r, e => by
    simp at e
    obtain ⟨b, e2, r2⟩ := pair_get r e
    exact ⟨b, by simpa using e2, r2⟩
theorem pair_mono {α β : Type} {R S : α → β → Prop} (k : ∀ a b, R a b → S a b) : ∀ {as : List α} {bs : List β}, PySem.Paired R as bs → PySem.Paired S as bs
  | _, _, .nil => .nil
  | _, _, .cons h r => .cons (k _ _ h) (pair_mono k r)
theorem pair_app {α β : Type} {R : α → β → Prop} : ∀ {as : List α} {bs : List β} {cs : List α} {ds : List β}, PySem.Paired R as bs → PySem.Paired R cs ds → PySem.Paired R (as ++ cs) (bs ++ ds)
  | _, _, _, _, .nil, k => k
  | _, _, _, _, .cons h r, k => .cons h (pair_app r k)
theorem same_upd {p : Addr} {H : Hp} {o : HO} (hp : H p = none) : Same H (upd H p o) := fun b u e => by rw [upd_ne (ne_of_none e hp)]; exact e
theorem asg_seq {te : TE} {g : TG} {u : TS} {D : Ends} {σ : L2.St} {H : Hp} (h : te σ H fun x H1 => g x σ H1 (u D)) : tSeq (tAsg te g) u D σ H := h
theorem asg_one {te : TE} {g : TG} {D : Ends} {σ : L2.St} {H : Hp} (h : te σ H fun x H1 => g x σ H1 D.nx) : tAsg te g D σ H := h
theorem cons_of {te : TE} {ta : L2.TA} {σ : L2.St} {H : Hp} {Q : List V → Hp → Prop} (h : te σ H fun v H1 => ta σ H1 fun vs H2 => Q (v :: vs) H2) : tCons te ta σ H Q := h
theorem name_of {i : Nat} {v : V} {σ : L2.St} {H : Hp} {N : L2.St → Hp → Prop} {r : VK} {b c : L2.St → Hp → Prop} (h : N (σ.set i (some v)) H) : gName i v σ H (L2.Ends.nx { nx := N, rt := r, bk := b, ct := c }) := h
theorem name_at {i : Nat} {v : V} {σ : L2.St} {H : Hp} {N : L2.St → Hp → Prop} (h : N (σ.set i (some v)) H) : gName i v σ H N := h
theorem lst_of {t : L2.TA} {σ : L2.St} {H : Hp} {Q : VK} (h : t σ H fun xs H1 => xs.length ≤ sizeLine ∧ ∀ p, H1 p = none → Q (.ref p) (upd H1 p (.lst xs))) : tLst t σ H Q := h
theorem nx_of {N : L2.St → Hp → Prop} {r : VK} {b c : L2.St → Hp → Prop} {σ : L2.St} {H : Hp} (h : N σ H) : L2.Ends.nx { nx := N, rt := r, bk := b, ct := c } σ H := h
theorem asg_val {te : TE} {g : TG} {u : TS} {D : Ends} {σ : L2.St} {H : Hp} (v : V) (h1 : ∀ R : VK, (∀ H', Same H H' → R v H') → te σ H R) (h2 : ∀ H', Same H H' → g v σ H' (u D)) : tSeq (tAsg te g) u D σ H := h1 _ h2
theorem asg_rel {te : TE} {g : TG} {u : TS} {D : Ends} {σ : L2.St} {H : Hp} (P : V → Hp → Prop) (h1 : ∀ R : VK, (∀ v H', P v H' → R v H') → te σ H R) (h2 : ∀ v H', P v H' → g v σ H' (u D)) : tSeq (tAsg te g) u D σ H := h1 _ h2
theorem if_rel {c : TT} {A u : TS} {D : Ends} {σ : L2.St} {H : Hp} (P : Hp → Prop) (h1 : ∀ R : Bool → Hp → Prop, (∀ H', P H' → R false H') → c σ H R) (h2 : ∀ H', P H' → u D σ H') : tSeq (tIfS c A tNext) u D σ H :=
  h1 _ fun H' p => iteF (h2 H' p)
theorem if_rel1 {c : TT} {A : TS} {D : Ends} {σ : L2.St} {H : Hp} (P : Hp → Prop) (h1 : ∀ R : Bool → Hp → Prop, (∀ H', P H' → R false H') → c σ H R) (h2 : ∀ H', P H' → D.nx σ H') : tIfS c A tNext D σ H :=
  h1 _ fun H' p => iteF (h2 H' p)
theorem ok_no {P : Program} {w : World} {K : PySem.W.Frag} {mg : Str → Option Value} {base : Heap} {CX : CXT} {k : Nat} {f : Addr} {fd : FuncData} {ps : List Str} : FnOk P w K mg base CX k f fd ps (fun _ _ _ _ => False) :=
  ⟨fun _ _ _ _ h => h.elim, fun _ _ _ _ _ _ _ _ _ _ _ _ _ h => h.elim⟩
theorem free_by {sn os : List (Str × NameKind)} (h : (sn.all fun y => !decide (y.2 = .free) || (decide (os.lookup y.1 = some .cell) || decide (os.lookup y.1 = some .free))) = true) :
    ∀ y ∈ sn, y.2 = .free → os.lookup y.1 = some .cell ∨ os.lookup y.1 = some .free := fun y hy e => by
  have q := List.all_eq_true.mp h y hy
  rw [decide_eq_true e] at q
  simpa using q
abbrev scL (l : List (Str × NameKind)) : Scope := { kind := .function, names := l, isGenerator := false, isCoroutine := false }
theorem ne_lst {L b : Addr} {H : Hp} {xs : List V} {o : HO} (hL : H L = some (.lst xs)) (e : H b = some o) (n : ∀ ys, o ≠ .lst ys) : b ≠ L := fun z => by
  rw [z, hL] at e
  exact n xs (Option.some.inj e).symm
theorem seq_nat {j n : Nat} (h : j < n) : seqIndex? (j : Int) n = some j := by
  have e0 : (if (j : Int) < 0 then (j : Int) + n else (j : Int)) = (j : Int) := if_neg (by omega)
  show (if (decide (0 ≤ (if (j : Int) < 0 then (j : Int) + n else (j : Int))) && decide ((if (j : Int) < 0 then (j : Int) + n else (j : Int)) < (n : Int))) = true then some (if (j : Int) < 0 then (j : Int) + n else (j : Int)).toNat else none) = some j
  rw [e0]
  have e : (decide (0 ≤ (j : Int)) && decide ((j : Int) < (n : Int))) = true := by simp; omega
  rw [if_pos e]
  simp
theorem ixN_nat {n j : Nat} (hj : j < n) : ixN n (j : Int) = some j := by
  unfold ixN
  rw [if_pos (by omega), if_pos (by omega)]
  simp
theorem gather_filter {α : Type} (xs : List α) (p : α → Bool) (f : α → V) : gather (fun i => (xs[i]?).bind fun x => if p x = true then some (f x) else none) xs.length = (xs.filter p).map f := by
  rw [gather_list]
  induction xs with
  | nil => rfl
  | cons x xs ih =>
    rw [List.filterMap_cons, List.filter_cons]
    cases h : p x with
    | true =>
      simp only [if_true, List.map_cons, ih]
    | false =>
      simp only [Bool.false_eq_true, if_false, ih]
/-- an expression read in one of two ways -/
theorem pe_either {X : Cx} {e : Expr} {t1 t2 : TE} (h1 : PE X e t1) (h2 : PE X e t2) : PE X e (fun σ H Q => t1 σ H Q ∨ t2 σ H Q) :=
  ⟨fun pins s σ H Q I h => h.elim (h1.run pins s σ H Q I) (h2.run pins s σ H Q I)⟩
/-- the builtins that the text calls -/
structure Blt (mg : Str → Option Value) : Prop where
  len : mg "len" = none
  all : mg "all" = none
  isi : mg "isinstance" = none
  bool : mg "bool" = none
  tuple : mg "tuple" = none
  list : mg "list" = none
  range : mg "range" = none
  enum : mg "enumerate" = none
  int : mg "int" = none
  sup : mg "super" = none
  sorted : mg "sorted" = none
  dict : mg "dict" = none
  str : mg "str" = none
  min : mg "min" = none
  max : mg "max" = none
  ve : mg "ValueError" = none
  set : mg "set" = none
  sum : mg "sum" = none
  any : mg "any" = none
/-- all but two objects stay -/
def But2 (l S : Addr) (H H' : Hp) : Prop := ∀ b o, H b = some o → b ≠ l → b ≠ S → H' b = some o
theorem But2.refl {l S : Addr} (H : Hp) : But2 l S H H := fun _ _ e _ _ => e
theorem But2.trans {l S : Addr} {H H1 H2 : Hp} (a : But2 l S H H1) (b : But2 l S H1 H2) : But2 l S H H2 := fun c o e n m => b c o (a c o e n m) n m
theorem But2.of {l S : Addr} {H H' : Hp} (s : Same H H') : But2 l S H H' := fun b o e _ _ => s b o e
theorem But2.upd1 {l S : Addr} {H : Hp} {o : HO} : But2 l S H (upd H l o) := fun b u e nb _ => by rw [upd_ne nb]; exact e
theorem But2.upd2 {l S : Addr} {H : Hp} {o : HO} : But2 l S H (upd H S o) := fun b u e _ nb => by rw [upd_ne nb]; exact e
/-- all but two objects and the tables stay -/
def Keep2 (l S : Addr) (H H' : Hp) : Prop := ∀ b o, H b = some o → b ≠ l → b ≠ S → (∀ ps, o ≠ .tbl ps) → H' b = some o
theorem Keep2.trans {l S : Addr} {H H1 H2 : Hp} (a : Keep2 l S H H1) (b : Keep2 l S H1 H2) : Keep2 l S H H2 := fun c o e n m t => b c o (a c o e n m t) n m t
theorem Keep2.of {l S : Addr} {H H' : Hp} (s : Same H H') : Keep2 l S H H' := fun b o e _ _ _ => s b o e
theorem Keep2.but {l S : Addr} {H H' : Hp} (s : But2 l S H H') : Keep2 l S H H' := fun b o e n m _ => s b o e n m
theorem Keep2.ext {l S : Addr} {H H' : Hp} (s : LamX.ExtN H H') : Keep2 l S H H' := fun b o e _ _ t => s b o e t
/-- a def whose code object is known -/
structure FunL (K : PySem.W.Frag) (x qual : Str) (st : Stmt) (f c : Addr) (fd : FuncData) : Prop where
  ex : ∃ (oc : Value) (od : Option Addr) (kV doc pm : Value) (an : Option Addr) (ct : Value) (osl : Array (Option Value)),
    fd = PySem.W.fnOf x qual (defArgs st) (defBody st) (defScope st) .none kV doc pm an (.ref c) ct ∧ K.lookup f = some ⟨oc, od, .func (PySem.W.fnOf x qual (defArgs st) (defBody st) (defScope st) .none kV doc pm an (.ref c) ct), osl⟩ ∧ PySem.W.codeIn K (.ref c) qual = true
theorem FunL.okX {P : Program} {w : World} {K : PySem.W.Frag} {mg : Str → Option Value} {base : Heap} {x qual : Str} {st : Stmt} {f c : Addr} {fd : FuncData} {N ps : List Str} {k : Nat} {sp : Sp} (F : FunL K x qual st f c fd) (S : FnScope N ps (defScope st)) (len : ∀ vs H Q E, sp vs H Q E → vs.length = ps.length)
    (hbody : ∀ (A : Around) (outer : List Env) (s : Shared) (H : Hp) (vs : List V) (Q : VK) (E : XK), Room k (A.deeper (PyProof.Rows.envOfC qual (defScope st) s.heap.objs.size f (.ref c))) → sp vs H Q E →
      ∃ t, PSs (cxOf (L2.CX P w) P w K mg base N qual (defScope st) f (.ref c) A outer s H E) (defBody st) t ∧ t { nx := fun _ H' => Q .non H', rt := Q } (L2.start N vs) H) : FnOk P w K mg base (L2.CX P w) (k + 1) f fd ps sp := by
  obtain ⟨oc, od, kV, doc, pm, an, ct, osl, rfl, lk, hcd⟩ := F.ex
  exact fn_of lk hcd S len fun A outer s H vs Q E hr hsp => hbody A outer s H vs Q E hr hsp
theorem FunL.ok0 {P : Program} {w : World} {K : PySem.W.Frag} {mg : Str → Option Value} {base : Heap} {x qual : Str} {st : Stmt} {f c : Addr} {fd : FuncData} {N ps : List Str} {k : Nat} {sp : Sp} (F : FunL K x qual st f c fd) (S : FnScope N ps (defScope st)) (len : ∀ vs H Q E, sp vs H Q E → vs.length = ps.length)
    (hbody : ∀ (A : Around) (outer : List Env) (s : Shared) (H : Hp) (vs : List V) (Q : VK) (E : XK), Room k (A.deeper (PyProof.Rows.envOfC qual (defScope st) s.heap.objs.size f (.ref c))) → sp vs H Q E →
      ∃ t, PSs (cxOf CX0 P w K mg base N qual (defScope st) f (.ref c) A outer s H E).nox (defBody st) t ∧ t { nx := fun _ H' => Q .non H', rt := Q } (L2.start N vs) H) : FnOk P w K mg base CX0 (k + 1) f fd ps sp := by
  obtain ⟨oc, od, kV, doc, pm, an, ct, osl, rfl, lk, hcd⟩ := F.ex
  refine fn_of lk hcd S len fun A outer s H vs Q E hr hsp => ?_
  obtain ⟨t, h, q⟩ := hbody A outer s H vs Q E hr hsp
  exact ⟨t, h.nox, q⟩
end Shg
set_option Elab.async false
set_option linter.all false
set_option maxRecDepth 100000
set_option maxHeartbeats 2000000
/-! Operators of own classes by a promise; instances made with a star. -/
namespace Sho
open PySem PySem.Spec PyProof.Rows L2 StX

section
variable {P : Program} {w : World} {K : PySem.W.Frag} {mg : Str → Option Value} {base : Heap} {CX : CXT} {k : Nat} {f : Addr} {fd : FuncData} {ps : List Str} {sp : Sp}
/-- a def's promise by its values alone -/
theorem fnr_of (F : FnOk P w K mg base CX k f fd ps sp) (hb : Binds K fd ps []) : FnR P w K mg base CX k f sp := by
  intro A outer s H us vs Q E hr e0 r h
  have hl := F.len _ _ _ _ h
  have hk : K.In s.heap := e0.mod.kin.keeps fun b o e => (e0.bs b o e).1
  have b := hb s us hk (by rw [List.append_nil, ← r.length]; exact hl)
  rw [List.append_nil] at b
  exact F.run A outer s H ⟨us, []⟩ us vs Q E hr e0 b r h
end

section
variable {X : Cx} {CX : CXT} {k : Nat} {f C : Addr} {sp : Sp} {E : XK}
theorem run_r {pins : List (Addr × Obj)} {σ : L2.St} {H : Hp} {s : Shared} {Q : VK} {us : List Value} {vs : List V} (F : FnR X.prog X.w X.K X.mg X.base CX k f sp) (hr : Room k X.A) (hx : Passes CX X E)
    (I : Inv X pins σ H s) (r : Vals vs us) (h : sp vs H Q E) : wpAny (model X.prog X.w) X.A (call (.ref f) us) (EP X pins σ Q) X.xe s := by
  refine wpAny_call (codeAny_mono (F X.A X.stack s H us vs Q E hr I.env0 r h) fun r s' hq => ?_)
  cases r with
  | error e => exact hx pins σ H s e s' I hq
  | ok fl =>
    cases fl with
    | ret u => exact I.after hq
    | next => exact False.elim hq
    | brk => exact False.elim hq
    | cont => exact False.elim hq

theorem back_of {pins : List (Addr × Obj)} {σ : L2.St} {Q : VK} {u : Value} {s' : Shared} (h : EP X pins σ Q u s') : PySem.W.CmpBack (EP X pins σ Q) u s' := by
  obtain ⟨v, H', I, r, q⟩ := h
  cases u with
  | notImplemented => exact nomatch (show absV Value.notImplemented = some v from RelV.abs r)
  | _ => exact ⟨v, H', I, r, q⟩

/-- an own instance, the instance's own place in the heap -/
def InsAt (H : Hp) (a C : Addr) : Prop := ∃ dx fs, H a = some (.ins C dx fs)

/-- a op b, both of the class at C, C's own method -/
def rOwn2 (C : Addr) (sp : Sp) (E : XK) : R2 := fun x y H Q => ∃ a b, x = .ref a ∧ y = .ref b ∧ InsAt H a C ∧ InsAt H b C ∧ sp [.ref a, .ref b] H Q E
theorem op_own2 {op : Operator} (F : FnR X.prog X.w X.K X.mg X.base CX k f sp) (hr : Room k X.A) (hx : Passes CX X E) (hc : PySem.W.selfFirst X.K C = true)
    (hs : PySem.W.findIn X.K (.ref C) (PySem.dunder op.info.2) = some (some (.ref f))) (hf : PySem.W.isFn X.K (.ref f) = true) : OpR X (binaryOp op) (rOwn2 C sp E) := by
  rintro pins s σ H x y u v Q I rx ry ⟨a, b, rfl, rfl, ⟨dx, fs, ha⟩, ⟨dy, gs, hb⟩, h⟩
  cases rx
  cases ry
  obtain ⟨mA, J, _⟩ := ins_get I.hok ha
  obtain ⟨mB, J', _⟩ := ins_get I.hok hb
  obtain ⟨od, J, _⟩ := J.look
  obtain ⟨od', J', _⟩ := J'.look
  obtain ⟨m, hF⟩ := I.fr
  exact PySem.W.binop_K hF I.ok.mod.kin J J'.type hc hs hf (thn (run_r (vs := [.ref a, .ref b]) F hr hx I (.cons rfl (.cons rfl .nil)) h) fun u s' q => back_of q)

/-- a op b, a of the class at C, b of the built-in type T -/
def rOwnT (C : Addr) (sp : Sp) (E : XK) (isT : V → Prop) : R2 := fun x y H Q => ∃ a, x = .ref a ∧ isT y ∧ InsAt H a C ∧ sp [.ref a, y] H Q E
theorem op_ownT {op : Operator} {T : String} {isT : V → Prop} {fo ro rc : Option Value} (F : FnR X.prog X.w X.K X.mg X.base CX k f sp) (hr : Room k X.A) (hx : Passes CX X E) (hc : PySem.W.selfFirst X.K C = true)
    (hT : ∀ y v, isT y → RelV y v → typeOf v = pure (.type T))
    (hs : PySem.W.findIn X.K (.ref C) (PySem.dunder op.info.2) = some (some (.ref f))) (hf : PySem.W.isFn X.K (.ref f) = true)
    (hr2 : PySem.W.findIn X.K (.ref C) (dunderR op.info.2) = some rc) (hp : rc = none ∨ ∃ g : Addr, rc = some (.ref g))
    (h1 : PySem.W.findIn X.K (.type T) (PySem.dunder op.info.2) = some fo) (h2 : PySem.W.findIn X.K (.type T) (dunderR op.info.2) = some ro) (hsub : PySem.W.subIn X.K (.type T) (.ref C) = some false) :
    OpR X (binaryOp op) (rOwnT C sp E isT) := by
  rintro pins s σ H x y u v Q I rx ry ⟨a, rfl, ht, ⟨dx, fs, ha⟩, h⟩
  cases rx
  obtain ⟨mA, J, _⟩ := ins_get I.hok ha
  obtain ⟨od, J, _⟩ := J.look
  obtain ⟨m, hF⟩ := I.fr
  exact PySem.W.ksp_binT hF I.ok.mod.kin J (hT _ _ ht ry) hc hs hf hr2 hp h1 h2 hsub (thn (run_r (vs := [.ref a, y]) F hr hx I (.cons rfl (.cons ry .nil)) h) fun u s' q => back_of q)
def isInt : V → Prop := fun y => ∃ i, y = .int i
def isStr : V → Prop := fun y => ∃ i, y = .str i
theorem ty_int : ∀ y v, isInt y → RelV y v → typeOf v = pure (.type "int") := by
  rintro y v ⟨i, rfl⟩ ⟨t, rfl⟩
  rfl
theorem ty_str : ∀ y v, isStr y → RelV y v → typeOf v = pure (.type "str") := by
  rintro y v ⟨i, rfl⟩ ⟨t, rfl⟩
  rfl

/-- x in a, not in: a's own __contains__, which hands back a bool -/
def rOwnIn (C : Addr) (neg : Bool) (sp : Sp) (E : XK) : R2 := fun x y H Q => ∃ a, y = .ref a ∧ InsAt H a C ∧ sp [.ref a, x] H (fun r H' => ∃ c, r = .bl c ∧ Q (.bl (if neg then !c else c)) H') E
theorem op_ownIn (F : FnR X.prog X.w X.K X.mg X.base CX k f sp) (hr : Room k X.A) (hx : Passes CX X E)
    (hs : PySem.W.findIn X.K (.ref C) "__contains__" = some (some (.ref f))) (hf : PySem.W.isFn X.K (.ref f) = true) : OpR X (compareOp .In) (rOwnIn C false sp E) := by
  rintro pins s σ H x y u v Q I rx ry ⟨a, rfl, ⟨dx, fs, ha⟩, h⟩
  cases ry
  obtain ⟨mA, J, _⟩ := ins_get I.hok ha
  obtain ⟨od, J, _⟩ := J.look
  obtain ⟨m, hF⟩ := I.fr
  refine PySem.W.in_K hF I.ok.mod.kin J hs hf (thn (run_r (vs := [.ref a, x]) F hr hx I (.cons rfl (.cons rx .nil)) h) fun r s' q => ?_)
  obtain ⟨v2, H2, I2, r2, c, rfl, q2⟩ := q
  cases r2
  exact wpAny_truthy_bool ⟨.bl _, H2, I2, rfl, q2⟩
theorem op_ownNotIn (F : FnR X.prog X.w X.K X.mg X.base CX k f sp) (hr : Room k X.A) (hx : Passes CX X E)
    (hs : PySem.W.findIn X.K (.ref C) "__contains__" = some (some (.ref f))) (hf : PySem.W.isFn X.K (.ref f) = true) : OpR X (compareOp .NotIn) (rOwnIn C true sp E) := by
  rintro pins s σ H x y u v Q I rx ry ⟨a, rfl, ⟨dx, fs, ha⟩, h⟩
  cases ry
  obtain ⟨mA, J, _⟩ := ins_get I.hok ha
  obtain ⟨od, J, _⟩ := J.look
  obtain ⟨m, hF⟩ := I.fr
  refine PySem.W.notIn_K hF I.ok.mod.kin J hs hf (thn (run_r (vs := [.ref a, x]) F hr hx I (.cons rfl (.cons rx .nil)) h) fun r s' q => ?_)
  obtain ⟨v2, H2, I2, r2, c, rfl, q2⟩ := q
  cases r2
  exact wpAny_truthy_bool ⟨.bl _, H2, I2, rfl, q2⟩

/-- a[i]: a's own __getitem__ -/
def rOwnIx (C : Addr) (sp : Sp) (E : XK) : R2 := fun x y H Q => ∃ a, x = .ref a ∧ InsAt H a C ∧ sp [.ref a, y] H Q E
/-- C(*y), y a list or a tuple -/
def tMakeS (K : PySem.W.Frag) (C : Addr) (sp : Sp) (E : XK) (te : TE) : TE := fun σ H Q => te σ H fun y H1 => ∃ a xs, y = V.ref a ∧ (SqT K H1 a xs ∨ SqL K H1 a xs) ∧ ∀ x dx, H1 x = Option.none → H1 dx = Option.none → dx ≠ x →
  sp (V.ref x :: xs) (upd (upd H1 dx (.own x)) x (.ins C dx [])) (fun v H2 => v = .non ∧ Q (.ref x) H2) E
theorem pe_makeS {x : Str} {e : Expr} {te : TE} {p sp_ pos : Pos} (M : Mk X.K C f) (F : FnR X.prog X.w X.K X.mg X.base CX k f sp) (hr : Room (k + 1) X.A) (hg : Gl X x) (hm : X.mg x = some (.ref C)) (hx : Passes CX X E) (he : PE X e te) (hd : (x == ("__debug__" : Str)) = false := by decide)
    (hst : starEach [.Starred e sp_] X.env = [(true, eval e X.env)] := by rfl) : PE X (.Call (.Name x p) [.Starred e sp_] [] pos) (tMakeS X.K C sp E te) := by
  refine ⟨fun pins s σ H Q I h => ?_⟩
  refine wpAny_Call_Name_kw (ld_glob I hg hm ?_ hd)
  refine PySem.W.callWith_S (h₀ := X.base) I.ok.mod.kin M.kp (thn (he.run pins s σ H _ I h) fun v s1 ⟨y, H1, I1, ry, a, xs, ey, hxs, q⟩ => ?_) hst
  subst ey
  obtain rfl : v = Value.ref a := ry
  exact star_any I1 hxs fun us s2 I2 rv => ⟨I2.kIn, run_makeR M F hr hx I2 rv q⟩
/-- C() -/
theorem pe_makeR0 {x : Str} {p pos : Pos} (M : Mk X.K C f) (F : FnR X.prog X.w X.K X.mg X.base CX k f sp) (hr : Room (k + 1) X.A) (hg : Gl X x) (hm : X.mg x = some (.ref C)) (hx : Passes CX X E) (hdb : (x == ("__debug__" : Str)) = false := by decide) :
    PE X (.Call (.Name x p) [] [] pos) (tMakeR C sp E tNil) := by
  refine ⟨fun pins s σ H Q I h => ?_⟩
  refine wpAny_Call_Name_kw (ld_glob I hg hm ?_ hdb)
  exact PySem.W.callWith_K0 I.kIn M.kp (run_makeR (us := []) M F hr hx I .nil h)
end
end Sho
set_option Elab.async false
set_option linter.all false
namespace Sh1
open PySem L2
abbrev pw : Program := PySem.Challenge.pw_shoepile_k44_whole_operations_reverted
def top (i : Nat) : Stmt := PySem.Challenge.pw_shoepile_k44_whole_operations_reverted.main.body.getD i (.Pass ⟨0, 0, 0, 0⟩)
abbrev cPartyError : Stmt := top 1
abbrev cInvalidStay : Stmt := top 2
abbrev sInvInit : Stmt := inClass (top 2) 0
abbrev cUnknownGuest : Stmt := top 3
abbrev sUnkInit : Stmt := inClass (top 3) 0
abbrev cInvalidNumber : Stmt := top 4
abbrev cInvalidName : Stmt := top 5
abbrev cTooEarly : Stmt := top 6
abbrev cInvalidOperation : Stmt := top 7
abbrev sInvalidOperation_Init : Stmt := inClass (top 7) 0
abbrev cInvalidText : Stmt := top 8
abbrev sInvalidText_Init : Stmt := inClass (top 8) 0
abbrev cTooWide : Stmt := top 9
abbrev cDaybookError : Stmt := top 10
abbrev sDaybookError_Init : Stmt := inClass (top 10) 0
abbrev cDecodeError : Stmt := top 11
abbrev sDecodeError_Init : Stmt := inClass (top 11) 0
abbrev sIsName : Stmt := top 15
abbrev sIsWithin : Stmt := top 16
abbrev sCheckPileCount : Stmt := top 19
abbrev cMoment : Stmt := top 21
abbrev sMoment_Init : Stmt := inClass (top 21) 0
abbrev sIsThere : Stmt := top 22
abbrev sWithPile : Stmt := top 23
abbrev sAfterCome : Stmt := top 24
abbrev sPlaceOf : Stmt := top 25
abbrev sAfterGo : Stmt := top 26
abbrev sAfterWait : Stmt := top 27
abbrev sCheckOperations : Stmt := top 30
abbrev sAfter : Stmt := top 31
abbrev cLivePile : Stmt := top 32
abbrev sLivePile_Init : Stmt := inClass (top 32) 0
abbrev sLivePile_Replay : Stmt := inClass (top 32) 1
abbrev sLivePile_Moment : Stmt := inClass (top 32) 2
abbrev sLivePile_MomentsInEffect : Stmt := inClass (top 32) 3
abbrev sLivePile_Now : Stmt := inClass (top 32) 4
abbrev sLivePile_LiftedPairs : Stmt := inClass (top 32) 5
abbrev sLivePile_Standing : Stmt := inClass (top 32) 6
abbrev sLivePile_Departed : Stmt := inClass (top 32) 7
abbrev sLivePile_History : Stmt := inClass (top 32) 8
abbrev sLivePile_Come : Stmt := inClass (top 32) 9
abbrev sLivePile_Go : Stmt := inClass (top 32) 10
abbrev sLivePile_Wait : Stmt := inClass (top 32) 11
abbrev sLivePile_Undo : Stmt := inClass (top 32) 12
abbrev sLivePile_Redo : Stmt := inClass (top 32) 13
abbrev sLivePile_Apply : Stmt := inClass (top 32) 14
abbrev sLawMix : Stmt := top 34
abbrev sLawNext : Stmt := top 35
abbrev sLawAlike : Stmt := top 36
abbrev sOut : Stmt := top 37
abbrev sLawTold : Stmt := top 38
abbrev sLawDeed : Stmt := top 39
abbrev sLaw : Stmt := top 40
abbrev nDue : PySem.Str := "_law_due"
end Sh1
set_option Elab.async false
set_option linter.all false
set_option maxRecDepth 100000
set_option maxHeartbeats 2000000
/-! _law_mix, _law_next: draws; the state is the list at l, its cells stand in the list at S. -/
namespace Sh4
open PySem L2 Sho NdefX Shg Sh1
structure NextSt (H : Hp) (l S : Addr) : Prop where
  ex : ∃ (m p : Int) (cells : List Int), H l = some (.lst [.int m, .ref S, .int p]) ∧ H S = some (.lst (cells.map V.int)) ∧ cells.length ≤ 63
  ne : S ≠ l
theorem NextSt.same {H H' : Hp} {l S : Addr} (d : NextSt H l S) (s : Same H H') : NextSt H' l S := by
  obtain ⟨⟨m, p, cells, h1, h2, h3⟩, n⟩ := d
  exact ⟨⟨m, p, cells, s _ _ h1, s _ _ h2, h3⟩, n⟩
section
variable {P : Program} {w : World} {K : PySem.W.Frag} {mg : Str → Option Value} {base : Heap}
def spMix (K : PySem.W.Frag) : Sp := fun vs H Q _ => ∃ (a : Addr) (ns : List Int) (z : Int), vs = [.ref a, .int z] ∧ SqL K H a (ns.map V.int) ∧ ns.length ≤ 63 ∧ ∀ H' l S, Same H H' → H l = none → H S = none → NextSt H' l S → Q (.ref l) H'
theorem scMix : FnScope ["_law_script", "_law_seed", "_law_mixed", "_law_cell"] ["_law_script", "_law_seed"] (defScope sLawMix) := ⟨rfl, rfl, rfl, by decide +kernel, rfl, by decide +kernel, by decide +kernel⟩
theorem ok_mix {f : Addr} {fd : FuncData} (F : Fun K "_law_mix" "_law_mix" sLawMix f fd) (B : Blt mg) : FnOk P w K mg base CX0 1 f fd ["_law_script", "_law_seed"] (spMix K) := by
  refine F.ok scMix (fun vs H Q E h => ?_) (fun cdv A outer s H vs Q E hr h => ?_)
  · obtain ⟨a, ns, z, rfl, _⟩ := h
    rfl
  · obtain ⟨a, ns, z, rfl, ha, hlen, k⟩ := h
    have nd := scMix.nd
    refine ⟨_, pss_cons (ps_set (i := 2) nd rfl (Or.inl rfl) (pv 1)) (pss_cons (ps_for PassesOwn.never rfl (pi_list (pv 0)) (pg_name (i := 3) nd rfl (Or.inl rfl))
        (pss_one (ps_set (i := 2) nd rfl (Or.inl rfl) (pe_op op_mod (pe_op op_add (pe_op op_add (pe_op op_mul (pv 2) pe_int) (pe_op op_mod (pv 3) pe_int)) pe_int) pe_int))))
      (pss_one (ps_ret (pe_lst (pa_cons (pv 2) (pa_cons (pe_callTy call_list_of (by rfl) B.list (by decide +kernel) (pa_cons (pv 0) pa_nil)) (pa_cons pe_int pa_nil))))))), ?_⟩
    refine ⟨_, rfl, _, rfl, a, rfl, ⟨_, ha⟩, for_it walk_list (fun i σ H2 => ∃ (m : Int) (o : Option V), σ = [some (.ref a), some (.int z), some (.int m), o] ∧ H2 = H) ⟨z, none, rfl, rfl⟩
      (fun i σ H2 _ ⟨_, _, _, e⟩ => by rw [e]; exact ha) ?_ ?_⟩
    · rintro i y σ H2 H3 hi ⟨m, o, rfl, rfl⟩ ⟨rfl, e2⟩
      obtain ⟨c, rfl⟩ : ∃ c, y = V.int c := by
        rw [List.getElem?_map] at e2
        cases e : ns[i]? with
        | none =>
          rw [e] at e2
          cases e2
        | some c =>
          rw [e] at e2
          exact ⟨c, (Option.some.inj e2).symm⟩
      refine ⟨_, rfl, _, _, rfl, rfl, .inr ⟨by decide, by decide⟩, _, rfl, _, _, rfl, rfl, (by show (0 : Int) < 2147483629; decide), _, _, rfl, rfl, _, _, rfl, rfl, _, _, rfl, rfl, (by show (0 : Int) < 2147483647; decide), ?_⟩
      exact ⟨_, _, rfl, rfl⟩
    · rintro σ H2 ⟨m, o, rfl, rfl⟩
      refine ⟨_, rfl, _, rfl, a, _, rfl, .inl ha, fun S hS => ⟨by show 3 ≤ sizeLine; decide, fun l hl => ?_⟩⟩
      have s1 : Same H2 (upd H2 S (.lst (ns.map V.int))) := same_upd hS
      have s2 := s1.trans (same_upd (o := .lst [.int m, .ref S, .int 0]) hl)
      have nl : S ≠ l := fun e => by
        rw [← e, upd_same] at hl
        cases hl
      have hl0 : H2 l = none := by
        rw [upd_ne (Ne.symm nl)] at hl
        exact hl
      exact k _ l S s2 hl0 hS ⟨⟨m, 0, ns, upd_same, by rw [upd_ne nl]; exact upd_same, hlen⟩, nl⟩
def spNext : Sp := fun vs H Q _ => ∃ (l S : Addr) (n : Int), vs = [.ref l, .int n] ∧ NextSt H l S ∧ 0 < n ∧ n < 1073741824 ∧ ∀ (r : Int) H', 0 ≤ r → r < n → But2 l S H H' → NextSt H' l S → Q (.int r) H'
theorem scNext : FnScope ["_law_h", "_law_limit", "_law_cell"] ["_law_h", "_law_limit"] (defScope sLawNext) := ⟨rfl, rfl, rfl, by decide +kernel, rfl, by decide +kernel, by decide +kernel⟩
theorem set_cells {ns : List Int} {j : Nat} {c : Int} : (ns.map V.int).set j (.int c) = (ns.set j c).map V.int := by
  rw [List.map_set]
theorem ok_next {f : Addr} {fd : FuncData} (F : Fun K "_law_next" "_law_next" sLawNext f fd) (B : Blt mg) : FnOk P w K mg base CX0 1 f fd ["_law_h", "_law_limit"] spNext := by
  refine F.ok scNext (fun vs H Q E h => ?_) (fun cdv A outer s H vs Q E hr h => ?_)
  · obtain ⟨l, S, n, rfl, _⟩ := h
    rfl
  · obtain ⟨l, S, n, rfl, ⟨⟨m, p, cells, hl, hS, hlen⟩, ne⟩, n0, n1, k⟩ := h
    have nd := scNext.nd
    refine ⟨_, pss_cons (ps_set (i := 2) nd rfl (Or.inl rfl) (pe_ix ix_list (pe_op op_cat (pe_ix ix_list (pv 0) pe_int (fun _ _ => rfl)) (pe_lst (pa_cons pe_int pa_nil)))
          (pe_op op_mod (pe_ix ix_list (pv 0) pe_int (fun _ _ => rfl)) (pe_callB (call_max2 rfl) (by rfl) B.max (by decide +kernel) (pa_cons pe_int (pa_cons (pe_callB call_len_seq (by rfl) B.len PySem.boot_len (pa_cons (pe_ix ix_list (pv 0) pe_int (fun _ _ => rfl)) pa_nil)) pa_nil)))) (fun _ _ => rfl)))
      (pss_cons (ps_if (pt_cmpR op_ge (pv 2) (pe_op op_pow pe_int pe_int) (nomark _))
        (pss_cons (ps_asg (pe_op op_fdiv (pv 2) (pv 1)) (pg_sub (pe_ix ix_list (pv 0) pe_int (fun _ _ => rfl)) (pe_op op_mod (pe_ix ix_list (pv 0) pe_int (fun _ _ => rfl)) (pe_callB call_len_seq (by rfl) B.len PySem.boot_len (pa_cons (pe_ix ix_list (pv 0) pe_int (fun _ _ => rfl)) pa_nil))) set_list))
          (pss_one (ps_ret (pe_op op_mod (pv 2) (pv 1))))) pss_nil)
      (pss_cons (ps_asg (pe_op op_mod (pe_op op_add (pe_op op_add (pe_op op_mul (pe_ix ix_list (pv 0) pe_int (fun _ _ => rfl)) pe_int) (pe_op op_mul (pv 2) pe_int)) pe_int) pe_int) (pg_sub (pv 0) pe_int set_list))
      (pss_cons (ps_asg (pe_op op_add (pe_ix ix_list (pv 0) pe_int (fun _ _ => rfl)) pe_int) (pg_sub (pv 0) pe_int set_list))
      (pss_one (ps_ret (pe_op op_mod (pe_op op_fdiv (pe_ix ix_list (pv 0) pe_int (fun _ _ => rfl)) pe_int) (pv 1))))))), ?_⟩
    have fin : ∀ (r m' p' : Int) (cs : List Int) (H1 : Hp), 0 ≤ r → r < n → But2 l S H H1 → H1 l = some (.lst [.int m', .ref S, .int p']) → H1 S = some (.lst (cs.map V.int)) → cs.length ≤ 63 → Q (.int r) H1 := fun r m' p' cs H1 a1 a2 bu e1 e2 e3 =>
      k r H1 a1 a2 bu ⟨⟨m', p', cs, e1, e2, e3⟩, ne⟩
    have lm : (cells.map V.int).length = cells.length := List.length_map ..
    refine ⟨_, rfl, l, _, 1, .ref S, rfl, rfl, SqL.of hl, atI_nat (j := 1) rfl, by show 1 ≤ sizeLine; decide, fun L1 hL1 => ?_⟩
    have s1 : Same H (upd H L1 (.lst [.int 0])) := same_upd hL1
    refine ⟨S, L1, _, _, rfl, rfl, s1 _ _ hS, upd_same, by rw [lm]; show cells.length + 1 ≤ sizeLine; exact Nat.le_trans (Nat.succ_le_succ hlen) (by decide), fun C hC => ?_⟩
    have s2 := s1.trans (same_upd (o := .lst (cells.map V.int ++ [.int 0])) hC)
    generalize hH2 : upd (upd H L1 (.lst [.int 0])) C (.lst (cells.map V.int ++ [.int 0])) = H2 at s2
    have eC : H2 C = some (.lst (cells.map V.int ++ [.int 0])) := by rw [← hH2]; exact upd_same
    have hl2 := s2 _ _ hl
    have hS2 := s2 _ _ hS
    -- the number of cells, at least one
    have mx : ∀ {M : Int}, M = (if (cells.length : Int) > 1 then (cells.length : Int) else 1) → 0 < M ∧ M ≤ 63 ∧ (0 < cells.length → M = cells.length) := fun {M} e => by
      rw [e]
      split <;> omega
    generalize hM : (if (cells.length : Int) > 1 then (cells.length : Int) else 1) = M at *
    obtain ⟨M0, M1, M2⟩ := mx (M := M) rfl
    have q0 := Int.emod_nonneg p (b := M) (by omega)
    have q1 := Int.emod_lt_of_pos p M0
    obtain ⟨j, hj⟩ : ∃ j : Nat, p % M = (j : Int) := ⟨(p % M).toNat, by omega⟩
    -- the cell
    obtain ⟨c, hc, hcc⟩ : ∃ c : Int, (cells.map V.int ++ [V.int 0])[j]? = some (V.int c) ∧ (cells[j]? = some c ∨ c = 0) := by
      by_cases hjl : j < cells.length
      · refine ⟨cells[j], ?_, .inl (List.getElem?_eq_getElem hjl)⟩
        rw [List.getElem?_append_left (by rw [lm]; exact hjl), List.getElem?_map, List.getElem?_eq_getElem hjl]
        rfl
      · have : j = cells.length := by omega
        refine ⟨0, ?_, .inr rfl⟩
        rw [List.getElem?_append_right (by rw [lm]; omega), lm, this, Nat.sub_self]
        rfl
    refine ⟨_, rfl, l, _, 2, .int p, rfl, rfl, SqL.of hl2, atI_nat (j := 2) rfl, _, rfl, l, _, 1, .ref S, rfl, rfl, SqL.of hl2, atI_nat (j := 1) rfl, S, _, rfl, .inl (SqL.of hS2), 1, (cells.length : Int), by rw [lm], ?_⟩
    rw [hM]
    refine ⟨p, M, rfl, rfl, M0, C, _, p % M, .int c, rfl, rfl, SqL.of eC, by rw [hj]; exact atI_nat hc, ?_⟩
    refine ⟨_, rfl, _, _, rfl, rfl, ⟨by decide, by decide, by decide⟩, _, _, rfl, rfl, _, rfl, ?_⟩
    refine ite2 (fun h1 => ?_) (fun h1 => ?_)
    · have c0 : (10 : Int) ^ (18 : Int).toNat ≤ c := of_decide_eq_true h1
      have c1 : (0 : Int) < 10 ^ (18 : Int).toNat := by decide
      have hcl : cells[j]? = some c := hcc.resolve_right (by omega)
      have jl : j < cells.length := (List.getElem?_eq_some_iff.mp hcl).1
      have eM : M = cells.length := M2 (by omega)
      refine ⟨_, rfl, _, rfl, _, _, rfl, rfl, ⟨n0, n1⟩, _, rfl, l, _, 1, .ref S, rfl, rfl, SqL.of hl2, atI_nat (j := 1) rfl, _, rfl, l, _, 2, .int p, rfl, rfl, SqL.of hl2, atI_nat (j := 2) rfl,
        _, rfl, l, _, 1, .ref S, rfl, rfl, SqL.of hl2, atI_nat (j := 1) rfl, S, _, rfl, .inl (SqL.of hS2), p, (cells.length : Int), rfl, by rw [lm], by omega, S, _, p % (cells.length : Int), j, rfl, rfl, hS2, ?_, ?_⟩
      · rw [← eM, hj, lm]
        exact ixN_nat jl
      · refine ⟨_, rfl, _, rfl, _, _, rfl, rfl, n0, ?_⟩
        rw [set_cells]
        exact fin _ m p (cells.set j (c / n)) _ (Int.emod_nonneg _ (by omega)) (Int.emod_lt_of_pos _ n0) ((But2.of s2).trans .upd2) (by rw [upd_ne (Ne.symm ne)]; exact hl2) upd_same (by rw [List.length_set]; exact hlen)
    · refine ⟨_, rfl, l, _, 0, .int m, rfl, rfl, SqL.of hl2, atI_nat (j := 0) rfl, _, _, rfl, rfl, .inr ⟨by decide, by decide⟩, _, rfl, _, _, rfl, rfl, .inr ⟨by decide, by decide⟩, _, _, rfl, rfl, _, _, rfl, rfl, _, _, rfl, rfl, (by show (0 : Int) < 2147483647; decide), _, rfl, l, _, 0, 0, rfl, rfl, hl2, rfl, ?_⟩
      refine ⟨_, rfl, l, _, 2, .int p, rfl, rfl, SqL.of upd_same, atI_nat (j := 2) rfl, _, _, rfl, rfl, _, rfl, l, _, 2, 2, rfl, rfl, upd_same, rfl, ?_⟩
      refine ⟨_, rfl, l, _, 0, .int ((m * 48271 + c * 69621 + 11) % 2147483647), rfl, rfl, SqL.of upd_same, atI_nat (j := 0) rfl, _, _, rfl, rfl, ⟨by decide, by decide⟩, _, rfl, _, _, rfl, rfl, n0, ?_⟩
      exact fin _ ((m * 48271 + c * 69621 + 11) % 2147483647) (p + 1) cells _ (Int.emod_nonneg _ (by omega)) (Int.emod_lt_of_pos _ n0) (((But2.of s2).trans .upd1).trans .upd1) upd_same (by rw [upd_ne ne, upd_ne ne]; exact hS2) hlen
end
end Sh4
set_option Elab.async false
set_option linter.all false
set_option maxRecDepth 100000
set_option maxHeartbeats 2000000
/-! _law_alike on ints, texts, bools, None, lists and tuples of them. -/
namespace Sh4
open PySem L2 Sho NdefX Shg Sh1
def LeafV : V → Prop
  | .int _ => True
  | .str _ => True
  | .bl _ => True
  | .non => True
  | _ => False
def Alike (H : Hp) : Nat → V → V → Prop
  | 0, x, y => LeafV x ∧ x = y
  | n + 1, x, y => (LeafV x ∧ x = y) ∨ ∃ (a b : Addr) (xs ys : List V), x = .ref a ∧ y = .ref b ∧ ((H a = some (.lst xs) ∧ H b = some (.lst ys)) ∨ (H a = some (.tup xs) ∧ H b = some (.tup ys))) ∧ xs.length ≤ 1000 ∧ PySem.Paired (fun u v => Alike H n u v) xs ys
theorem Alike.same {H H' : Hp} (s : Same H H') : ∀ {n : Nat} {x y : V}, Alike H n x y → Alike H' n x y
  | 0, _, _, h => h
  | n + 1, x, y, h => by
    rcases h with h | ⟨a, b, xs, ys, e1, e2, e3, e4, e5⟩
    · exact .inl h
    · exact .inr ⟨a, b, xs, ys, e1, e2, e3.imp (fun z => ⟨s _ _ z.1, s _ _ z.2⟩) (fun z => ⟨s _ _ z.1, s _ _ z.2⟩), e4, pair_mono (fun u v q => Alike.same s q) e5⟩
section
variable {P : Program} {w : World} {K : PySem.W.Frag} {mg : Str → Option Value} {base : Heap}
def spAlike (n : Nat) : Sp := fun vs H Q _ => ∃ (x y : V), vs = [x, y] ∧ Alike H n x y ∧ ∀ H', Same H H' → Q (.bl true) H'
theorem scAlike : FnScope ["_law_found", nDue, "_law_k"] ["_law_found", nDue] (defScope sLawAlike) := ⟨rfl, rfl, rfl, by decide +kernel, rfl, by decide +kernel, by decide +kernel⟩
theorem kA {K : PySem.W.Frag} {t : String} (h1 : kitB t "tuple" = some false) (h2 : kitB t "list" = some false) : PySem.W.kitAny K (.type t) [.type "tuple", .type "list"] = some false :=
  kitAny_cons (b := false) h1 (fun _ => kitAny_cons (b := false) h2 (fun _ => rfl) fun z => nomatch z) fun z => nomatch z
theorem kT {K : PySem.W.Frag} : PySem.W.kitAny K (.type "tuple") [.type "tuple", .type "list"] = some true :=
  kitAny_cons (b := true) (show kitB "tuple" "tuple" = some true by decide +kernel) (fun z => nomatch z) fun _ => rfl
theorem kL {K : PySem.W.Frag} : PySem.W.kitAny K (.type "list") [.type "tuple", .type "list"] = some true :=
  kitAny_cons (b := false) (show kitB "list" "tuple" = some false by decide +kernel) (fun _ => kitAny_cons (b := true) (show kitB "list" "list" = some true by decide +kernel) (fun z => nomatch z) fun _ => rfl) fun z => nomatch z
/-- what the tests ask of a leaf's class -/
structure LeafTy (K : PySem.W.Frag) (x : V) (t : String) (isNon isStr isInt isBool : Bool) : Prop where
  ty : ∀ H, TyX K H x (.type t)
  kd : kitB t "dict" = some false
  ka : PySem.W.kitAny K (.type t) [.type "tuple", .type "list"] = some false
  non : decide (x = .non) = isNon
  str : kitB t "str" = some isStr
  int : kitB t "int" = some isInt
  bool : kitB t "bool" = some isBool
  sc : scal x x = true
theorem leaf_ty {x : V} (h : LeafV x) : ∃ t isNon isStr isInt isBool, LeafTy K x t isNon isStr isInt isBool ∧ ((isNon || isStr) = false → isInt = true) := by
  cases x with
  | int i => exact ⟨"int", false, false, true, false, ⟨fun _ => .base (.int i), by decide +kernel, kA (by decide +kernel) (by decide +kernel), rfl, by decide +kernel, by decide +kernel, by decide +kernel, rfl⟩, fun _ => rfl⟩
  | str z => exact ⟨"str", false, true, false, false, ⟨fun _ => .base (.str z), by decide +kernel, kA (by decide +kernel) (by decide +kernel), rfl, by decide +kernel, by decide +kernel, by decide +kernel, rfl⟩, fun z => nomatch z⟩
  | bl b => exact ⟨"bool", false, false, true, true, ⟨fun _ => .base (.bl b), by decide +kernel, kA (by decide +kernel) (by decide +kernel), rfl, by decide +kernel, by decide +kernel, by decide +kernel, rfl⟩, fun _ => rfl⟩
  | non => exact ⟨"NoneType", true, false, false, false, ⟨fun _ => .base .non, by decide +kernel, kA (by decide +kernel) (by decide +kernel), rfl, by decide +kernel, by decide +kernel, by decide +kernel, rfl⟩, fun z => nomatch z⟩
  | _ => exact h.elim
theorem alike_split {H : Hp} {n : Nat} {sp' : Sp} {x y : V} (hn : n = 0 ∨ ∃ m, n = m + 1 ∧ sp' = spAlike m) (h : Alike H n x y) :
    (LeafV x ∧ x = y) ∨ ∃ (m : Nat) (a b : Addr) (xs ys : List V), sp' = spAlike m ∧ x = .ref a ∧ y = .ref b ∧ ((H a = some (.lst xs) ∧ H b = some (.lst ys)) ∨ (H a = some (.tup xs) ∧ H b = some (.tup ys))) ∧ xs.length ≤ 1000 ∧ PySem.Paired (fun u v => Alike H m u v) xs ys := by
  rcases hn with rfl | ⟨m, rfl, e⟩
  · exact .inl h
  · rcases h with h | ⟨a, b, xs, ys, e1, e2, e3, e4, e5⟩
    · exact .inl h
    · exact .inr ⟨m, a, b, xs, ys, e, e1, e2, e3, e4, e5⟩
/-- both readings of a subscript -/
theorem ix_seq {X : Cx} {o i : Expr} {to ti : TE} {pos : Pos} (h1 : PE X (.Subscript o i pos) (tOp (rIxL X.K) to ti)) (h2 : PE X (.Subscript o i pos) (tOp (rIxT X.K) to ti)) : PE X (.Subscript o i pos) (fun σ H Q => tOp (rIxL X.K) to ti σ H Q ∨ tOp (rIxT X.K) to ti σ H Q) := pe_either h1 h2
theorem alike_step {k n : Nat} {sp' : Sp} {f : Addr} {fd : FuncData} (F : Fun K "_law_alike" "_law_alike" sLawAlike f fd) (B : Blt mg) (mF : mg "_law_alike" = some (.ref f)) (bF : Binds K fd ["_law_found", nDue] [])
    (ih : FnOk P w K mg base CX0 k f fd ["_law_found", nDue] sp') (hn : n = 0 ∨ ∃ m, n = m + 1 ∧ sp' = spAlike m) : FnOk P w K mg base CX0 (k + 1) f fd ["_law_found", nDue] (spAlike n) := by
  refine F.ok scAlike (fun vs H Q E h => ?_) (fun cdv A outer s H vs Q E hr h => ?_)
  · obtain ⟨x, y, rfl, _⟩ := h
    rfl
  · obtain ⟨x, y, rfl, hx, kk⟩ := h
    have nd := scAlike.nd
    refine ⟨_, pss_cons (ps_if (pt_val (pe_callB call_isi (by rfl) B.isi (by decide +kernel) (pa_cons (pv 1) (pa_cons (pe_bltn (v := .ty "dict") (by rfl) B.dict (by decide +kernel) rfl) pa_nil)))) (pss_one ps_never) pss_nil)
      (pss_cons (ps_if (pt_val (pe_callB call_isiT (by rfl) B.isi (by decide +kernel) (pa_cons (pv 1) (pa_cons (pe_tup (pa_cons (pe_bltn (v := .ty "tuple") (by rfl) B.tuple (by decide +kernel) rfl) (pa_cons (pe_bltn (v := .ty "list") (by rfl) B.list (by decide +kernel) rfl) pa_nil))) pa_nil))))
        (pss_cons (ps_if (PW.pt (pw_or (pt_not (pt_val (pe_callB call_isiT (by rfl) B.isi (by decide +kernel) (pa_cons (pv 0) (pa_cons (pe_tup (pa_cons (pe_bltn (v := .ty "tuple") (by rfl) B.tuple (by decide +kernel) rfl) (pa_cons (pe_bltn (v := .ty "list") (by rfl) B.list (by decide +kernel) rfl) pa_nil))) pa_nil)))))
            (pw_or1 (pt_cmpR op_ne (pe_callB call_isi (by rfl) B.isi (by decide +kernel) (pa_cons (pv 0) (pa_cons (pe_bltn (v := .ty "list") (by rfl) B.list (by decide +kernel) rfl) pa_nil))) (pe_callB call_isi (by rfl) B.isi (by decide +kernel) (pa_cons (pv 1) (pa_cons (pe_bltn (v := .ty "list") (by rfl) B.list (by decide +kernel) rfl) pa_nil))) (nomark _)))))
            (pss_one (ps_ret pe_bl)) pss_nil)
        (pss_cons (ps_if (pt_cmpR op_ne (pe_callB call_len_seq (by rfl) B.len PySem.boot_len (pa_cons (pv 0) pa_nil)) (pe_callB call_len_seq (by rfl) B.len PySem.boot_len (pa_cons (pv 1) pa_nil)) (nomark _)) (pss_one (ps_ret pe_bl)) pss_nil)
        (pss_one (ps_ret (pe_cmpR (op_eqD (hr.mono (Nat.zero_le _)).units) (pe_lc (own := [("_law_k", 2)]) (g := gName 2) (tt := tNot (tB (tCall sp' [] E0 (tCons (fun σ H Q => tOp (rIxL K) (tVar 0) (tVar 2) σ H Q ∨ tOp (rIxT K) (tVar 0) (tVar 2) σ H Q) (tCons (fun σ H Q => tOp (rIxL K) (tVar 1) (tVar 2) σ H Q ∨ tOp (rIxT K) (tVar 1) (tVar 2) σ H Q) tNil))))) rfl nd
            (pi_range1 (by rfl) B.range (pa_cons (pe_callB call_len_seq (by rfl) B.len PySem.boot_len (pa_cons (pv 1) pa_nil)) pa_nil)) (blkOk_by (own := [("_law_k", 2)]) (N := ["_law_found", nDue, "_law_k"]) (sc := defScope sLawAlike) (by decide +kernel))
            (fun _ _ _ _ _ => pg_name (i := 2) nd rfl (Or.inl rfl))
            (fun _ _ _ _ _ => pts_one (pt_not (pt_val (pe_call ih hr rfl mF F.kp bF .nil pass0 (pa_cons (pe_either (pe_ix ix_list (pv 0) (pv 2) (fun _ _ => rfl)) (pe_ix ix_tup (pv 0) (pv 2) (fun _ _ => rfl))) (pa_cons (pe_either (pe_ix ix_list (pv 1) (pv 2) (fun _ _ => rfl)) (pe_ix ix_tup (pv 1) (pv 2) (fun _ _ => rfl))) pa_nil))))))
            (fun _ _ _ _ _ => pv 2)) (pe_lst pa_nil) (nomark _)))))) pss_nil)
      (pss_cons (ps_if (PW.pt (pw_or (pt_cmpR op_isN (pv 1) pe_non (nomark _)) (pw_or1 (pt_val (pe_callB call_isi (by rfl) B.isi (by decide +kernel) (pa_cons (pv 1) (pa_cons (pe_bltn (v := .ty "str") (by rfl) B.str (by decide +kernel) rfl) pa_nil)))))))
        (pss_one (ps_ret (pe_and (pe_cmpR op_eq (pv 0) (pv 1) (nomark _)) (pe_one (pe_cmpR op_eq (pe_callB call_isi (by rfl) B.isi (by decide +kernel) (pa_cons (pv 0) (pa_cons (pe_bltn (v := .ty "str") (by rfl) B.str (by decide +kernel) rfl) pa_nil))) (pe_callB call_isi (by rfl) B.isi (by decide +kernel) (pa_cons (pv 1) (pa_cons (pe_bltn (v := .ty "str") (by rfl) B.str (by decide +kernel) rfl) pa_nil))) (nomark _)))))) pss_nil)
      (pss_one (ps_ret (pe_and (pe_callB call_isi (by rfl) B.isi (by decide +kernel) (pa_cons (pv 0) (pa_cons (pe_bltn (v := .ty "int") (by rfl) B.int (by decide +kernel) rfl) pa_nil)))
        (pe_and (pe_cmpR op_eq (pe_callB call_isi (by rfl) B.isi (by decide +kernel) (pa_cons (pv 0) (pa_cons (pe_bltn (v := .ty "bool") (by rfl) B.bool (by decide +kernel) rfl) pa_nil))) (pe_callB call_isi (by rfl) B.isi (by decide +kernel) (pa_cons (pv 1) (pa_cons (pe_bltn (v := .ty "bool") (by rfl) B.bool (by decide +kernel) rfl) pa_nil))) (nomark _))
        (pe_one (pe_cmpR op_eq (pv 0) (pv 1) (nomark _))))))))), ?_⟩
    rcases alike_split hn hx with ⟨hl, e⟩ | ⟨m, a, b, xs, ys, e, rfl, rfl, h1, h2, h3⟩
    · subst e
      obtain ⟨t, bn, bs, bi, bb, T, imp⟩ := leaf_ty (K := K) hl
      refine ⟨_, rfl, x, _, .type t, .type "dict", false, rfl, .ty _, T.ty _, T.kd, _, rfl, iteF ?_⟩
      refine ⟨_, rfl, by decide, fun tp htp => ?_⟩
      have s1 : Same H (upd H tp (.tup [.ty "tuple", .ty "list"])) := same_upd htp
      refine ⟨x, tp, _, .type t, [.type "tuple", .type "list"], false, rfl, upd_same, .cons (.ty _) (.cons (.ty _) .nil), T.ty _, T.ka, _, rfl, iteF ?_⟩
      have str_end : ∀ H1, Same H H1 → Q (.bl (decide (V.bl bs = V.bl bs))) H1 := fun H1 s1 => by
        rw [decide_eq_true rfl]
        exact kk _ s1
      refine ⟨_, rfl, rfl, _, rfl, ?_⟩
      rw [T.non]
      cases hbn : bn with
      | true =>
        refine iteT (iteT ?_)
        exact ⟨_, rfl, _, rfl, T.sc, true, by rw [decide_eq_true rfl], iteT ⟨_, rfl, x, _, .type t, .type "str", bs, rfl, .ty _, T.ty _, T.str, _, rfl, x, _, .type t, .type "str", bs, rfl, .ty _, T.ty _, T.str, rfl, str_end _ s1⟩⟩
      | false =>
        refine iteF ⟨_, rfl, x, _, .type t, .type "str", bs, rfl, .ty _, T.ty _, T.str, _, rfl, ?_⟩
        cases hbs : bs with
        | true =>
          rw [hbs] at str_end
          have Ts := T.str
          rw [hbs] at Ts
          refine iteT ?_
          exact ⟨_, rfl, _, rfl, T.sc, true, by rw [decide_eq_true rfl], iteT ⟨_, rfl, x, _, .type t, .type "str", true, rfl, .ty _, T.ty _, Ts, _, rfl, x, _, .type t, .type "str", true, rfl, .ty _, T.ty _, Ts, rfl, str_end _ s1⟩⟩
        | false =>
          have ebi := imp (by rw [hbn, hbs]; rfl)
          have Ti := T.int
          rw [ebi] at Ti
          refine iteF ⟨_, rfl, x, _, .type t, .type "int", true, rfl, .ty _, T.ty _, Ti, true, rfl, iteT ⟨_, rfl, x, _, .type t, .type "bool", bb, rfl, .ty _, T.ty _, T.bool, _, rfl, x, _, .type t, .type "bool", bb, rfl, .ty _, T.ty _, T.bool, rfl,
            true, by rw [decide_eq_true rfl], iteT ⟨_, rfl, _, rfl, T.sc, ?_⟩⟩⟩
          rw [decide_eq_true rfl]
          exact kk _ s1
    · subst e
      have ll := pair_len h3
      obtain ⟨tn, tyA, tyB, kd, ka, bl, kl⟩ : ∃ tn : String, (∀ H', Same H H' → TyX K H' (.ref a) (.type tn)) ∧ (∀ H', Same H H' → TyX K H' (.ref b) (.type tn)) ∧ kitB tn "dict" = some false ∧ PySem.W.kitAny K (.type tn) [.type "tuple", .type "list"] = some true ∧ ∃ bl, kitB tn "list" = some bl := by
        rcases h1 with ⟨e1, e2⟩ | ⟨e1, e2⟩
        · exact ⟨"list", fun H' s' => .base (.lst (s' _ _ e1)), fun H' s' => .base (.lst (s' _ _ e2)), by decide +kernel, kL, true, by decide +kernel⟩
        · exact ⟨"tuple", fun H' s' => .base (.tup (s' _ _ e1)), fun H' s' => .base (.tup (s' _ _ e2)), by decide +kernel, kT, false, by decide +kernel⟩
      have seqs : ∀ H', Same H H' → (SqL K H' a xs ∨ SqT K H' a xs) ∧ (SqL K H' b ys ∨ SqT K H' b ys) := fun H' s' => by
        rcases h1 with ⟨e1, e2⟩ | ⟨e1, e2⟩
        · exact ⟨.inl (SqL.of (s' _ _ e1)), .inl (SqL.of (s' _ _ e2))⟩
        · exact ⟨.inr (SqT.of (s' _ _ e1)), .inr (SqT.of (s' _ _ e2))⟩
      refine ⟨_, rfl, .ref b, _, .type tn, .type "dict", false, rfl, .ty _, tyB _ (Same.refl _), kd, _, rfl, iteF ?_⟩
      refine ⟨_, rfl, by decide, fun tp htp => ?_⟩
      have s1 : Same H (upd H tp (.tup [.ty "tuple", .ty "list"])) := same_upd htp
      refine ⟨.ref b, tp, _, .type tn, [.type "tuple", .type "list"], true, rfl, upd_same, .cons (.ty _) (.cons (.ty _) .nil), tyB _ s1, ka, _, rfl, iteT ?_⟩
      refine ⟨_, rfl, by decide, fun tq htq => ?_⟩
      have s2 := s1.trans (same_upd (o := .tup [.ty "tuple", .ty "list"]) htq)
      refine ⟨.ref a, tq, _, .type tn, [.type "tuple", .type "list"], true, rfl, upd_same, .cons (.ty _) (.cons (.ty _) .nil), tyA _ s2, ka, _, rfl, iteF ?_⟩
      refine ⟨_, rfl, .ref a, _, .type tn, .type "list", bl, rfl, .ty _, tyA _ s2, kl, _, rfl, .ref b, _, .type tn, .type "list", bl, rfl, .ty _, tyB _ s2, kl, rfl, false, by rw [decide_eq_true rfl]; rfl, iteF ?_⟩
      generalize upd (upd H tp (.tup [.ty "tuple", .ty "list"])) tq (.tup [.ty "tuple", .ty "list"]) = H2 at s2
      refine ⟨_, rfl, a, xs, rfl, (seqs _ s2).1, _, rfl, b, ys, rfl, (seqs _ s2).2, rfl, false, ?_, iteF ?_⟩
      · have e : (xs.length : Int) = (ys.length : Int) := by rw [ll]
        rw [e, decide_eq_true rfl]
        rfl
      · have hlen : (ys.length : Int).toNat = ys.length := by simp
        have l1000 : ys.length ≤ 1000 := by omega
        refine ⟨_, rfl, b, ys, rfl, (seqs _ s2).2, (ys.length : Nat), rfl, by omega, by omega, fun D hD => ?_⟩
        refine lc_gather walk_range (fun _ => none) hD (by rw [hlen]; exact Nat.le_trans l1000 (by decide)) (fun _ _ => trivial) (fun i v H3 H4 hi s3 yv R k1 => ?_) fun H3 s3 e3 => ?_
        · obtain ⟨rfl, rfl⟩ := yv
          rw [hlen] at hi
          obtain ⟨x', hx'⟩ : ∃ x', xs[i]? = some x' := ⟨_, List.getElem?_eq_getElem (by omega)⟩
          obtain ⟨y', hy', st⟩ := pair_get h3 hx'
          have s23 := s2.trans s3
          have zi : (0 : Int) + (i : Nat) = (i : Nat) := by omega
          have at_ : ∀ {p : Addr} {zs : List V} {z : V} {sl : Nat} {σ : L2.St} {H5 : Hp} {Q' : VK}, σ[sl]? = some (some (.ref p)) → σ[2]? = some (some (.int ((0 : Int) + (i : Nat)))) → (SqL K H5 p zs ∨ SqT K H5 p zs) → zs[i]? = some z → Q' z H5 →
              tOp (rIxL K) (tVar sl) (tVar 2) σ H5 Q' ∨ tOp (rIxT K) (tVar sl) (tVar 2) σ H5 Q' := fun e1 e2 hs hz q => by
            rcases hs with hs | hs
            · exact .inl ⟨_, e1, _, e2, _, _, _, _, rfl, rfl, hs, by rw [zi]; exact atI_nat hz, q⟩
            · exact .inr ⟨_, e1, _, e2, _, _, _, _, rfl, rfl, hs, by rw [zi]; exact atI_nat hz, q⟩
          refine ⟨rfl, at_ rfl rfl (seqs _ s23).1 hx' (at_ rfl rfl (seqs _ s23).2 hy' ?_)⟩
          exact ⟨x', y', rfl, st.same s23, fun H5 s5 => ⟨_, rfl, iteF (k1 _ s5)⟩⟩
        · have g0 : gather (fun _ => none) ((ys.length : Int).toNat) = [] := by
            unfold gather
            simp
          rw [g0] at e3
          refine ⟨by decide, fun L hL => ?_⟩
          have s4 : Same H3 (upd H3 L (.lst [])) := same_upd hL
          exact ⟨.list [], .list [], .lst (SqL.of (s4 _ _ e3)) .nil, .lst (SqL.of upd_same) .nil, rfl, rfl, kk _ ((s2.trans s3).trans s4)⟩
theorem ok_alike {f : Addr} {fd : FuncData} (F : Fun K "_law_alike" "_law_alike" sLawAlike f fd) (B : Blt mg) (mF : mg "_law_alike" = some (.ref f)) (bF : Binds K fd ["_law_found", nDue] []) : ∀ n, FnOk P w K mg base CX0 (n + 1) f fd ["_law_found", nDue] (spAlike n)
  | 0 => alike_step F B mF bF ok_no (.inl rfl)
  | n + 1 => alike_step F B mF bF (ok_alike F B mF bF n) (.inr ⟨n, rfl, rfl⟩)
end
end Sh4
set_option Elab.async false
set_option linter.all false
set_option maxRecDepth 100000
set_option maxHeartbeats 4000000
/-! list.count of flat values; isinstance of a caught error of an own class, with or without fields. -/
namespace Sho
open PySem PySem.Spec PyProof.Rows L2
section
variable {X : Cx}
theorem count_flat {y : V} : ∀ {us : List Value} {ys : List V}, Vals ys us → ys.all flatV = true → us.countP (eqU y) = ys.countP fun z => eqV z y
  | _, _, .nil, _ => rfl
  | u :: us, z :: ys, .cons r t, f => by
    rw [List.all_cons, Bool.and_eq_true] at f
    rw [List.countP_cons, List.countP_cons, count_flat t f.2, eqU_of r f.1]
def rCntF (K : PySem.W.Frag) : V → List V → Hp → VK → Prop := fun x xs H Q => ∃ (p : Addr) (ys : List V) (y : V), x = .ref p ∧ xs = [y] ∧ SqL K H p ys ∧ flatV y = true ∧ ys.all flatV = true ∧ Q (.int (ys.countP (fun z => eqV z y) : Nat)) H
theorem mt_countF : MtR X "list.count" (rCntF X.K) := by
  intro pins s σ H x xs v us Q I rx rxs h
  obtain ⟨p, ys, y, rfl, rfl, hs, fy, fys, q⟩ := h
  cases rx
  obtain ⟨u, rfl, ru⟩ := rxs.one
  obtain ⟨its, rv, ⟨⟨cls, dd, data, sl⟩, n, ho, hc, hdn, hd⟩, hlen⟩ := I.list hs
  simp only at hc hd
  subst hc hd
  refine call_meets PySem.F.slot_list_count ⟨_, ho, rfl⟩ PySem.F.entry_list_count (PySem.F.args_list_count_2 _ _)
    (SeqAt.list_countAt p its.toArray n dd sl u (eqU y)) ⟨ho, fun z hz => mem_eqAt ru fy rv fys z (by simpa using hz), ?_⟩
  have ec : its.toArray.toList.countP (eqU y) = ys.countP fun z => eqV z y := count_flat rv fys
  refine ⟨.int (ys.countP (fun z => eqV z y) : Nat), H, I.tok _, ⟨s.toks, ?_⟩, q⟩
  show Value.int ((its.toArray.toList.countP (eqU y) : Nat) : Int) s.toks = Value.int ((ys.countP (fun z => eqV z y) : Nat) : Int) s.toks
  rw [ec]
/-- isinstance(e, c), e the exception that the suite holds: its class and its dict are told when it is read -/
def rIsX (K : PySem.W.Frag) (cls : Value) (d : Option Addr) (a : Addr) : List V → Hp → VK → Prop := fun xs H Q => ∃ (D : Addr) (c : V) (cv : Value) (b : Bool), cls = .ref D ∧ ExcC K D ∧ (∀ dd, d = some dd → ∃ fs, H dd = some (.xd fs)) ∧
  xs = [.ref a, c] ∧ (∀ u, RelV c u → u = cv) ∧ PySem.W.kitOne K (.ref D) cv = some b ∧ Q (.bl b) H
theorem call_isX {a : Addr} {oe : Obj} {cls : Value} {d : Option Addr} {pn : List (Addr × Obj)} (hz : Zc cls d oe) (hf : ∃ vs, oe.data = .fields vs) : CallR (X.suite a ((a, oe) :: pn)) (.builtin "isinstance") (rIsX X.K cls d a) := by
  intro pins s σ H xs us Q I r h
  obtain ⟨D, c, cv, b, hc, C, hd, rfl, hcv, e, q⟩ := h
  subst hc
  cases r with
  | cons rx rr =>
    cases rr with
    | cons rt rr =>
      cases rr
      cases rx
      have ec := hcv _ rt
      subst ec
      obtain ⟨hget, _⟩ := I.pin (a, oe) (List.mem_append.mpr (.inl List.mem_cons_self))
      obtain ⟨vs, hv⟩ := hf
      obtain ⟨od, J⟩ : ∃ od, PySem.W.InstAt s.heap a oe D od := by
        obtain ⟨oc, od, oda, osl⟩ := oe
        obtain ⟨h1, h2⟩ := hz
        dsimp only at h1 h2 hv
        subst h1 h2 hv
        cases od with
        | none => exact ⟨none, hget, rfl, rfl, trivial⟩
        | some dd =>
          obtain ⟨fs, hfs⟩ := hd dd rfl
          obtain ⟨mA, n, _⟩ : ObjOk (X.suite a _).prog (X.suite a _).w H s.heap dd (.xd fs) := I.hok dd _ hfs
          obtain ⟨o, es, ep, ho, _⟩ := n
          exact ⟨some o, hget, rfl, rfl, ho⟩
      have cl : (PySem.W.clsIn X.K D).isSome = true := by
        obtain ⟨cd, hc, _⟩ := PySem.W.any_some C.hd
        rw [hc]
        rfl
      exact PySem.W.kia_one (PySem.W.kitx_exc cl C.hg C.hk C.hs C.ha C.hn C.ht C.hm) I.kIn J e (fun z => nomatch z) fun tk => ⟨.bl b, H, I.kept (t' := tk) fun _ _ z => z, rfl, q⟩
/-! ### the same rules within an except suite: their readings speak of the outer context -/
variable {a : Addr} {l : List (Addr × Obj)}
theorem ixs_list : IxR (X.suite a l) (rIxL X.K) := ix_list
theorem mts_index : MtR (X.suite a l) "list.index" (rIndex X.K) := mt_index
theorem mts_countF : MtR (X.suite a l) "list.count" (rCntF X.K) := mt_countF
theorem ops_in_seq : OpR (X.suite a l) (compareOp .In) (rIn X.K false) := op_in_seq
theorem pes_bm {o e : Expr} {es : List Expr} {to : TE} {t : TA} {name : Str} {apos cpos : Pos} {T id : String} {r : V → List V → Hp → VK → Prop} (pa : PlainAttrs T) (slot : Slot T name id) (hty : typeOf (.builtin id) = pure (.type "method_descriptor")) (hm : MtR (X.suite a l) id r) (ho : PE (X.suite a l) o to) (ha : PA (X.suite a l) (e :: es) t)
    (hbase : attributeBase o name X.env (eval o X.env) = eval o X.env := by rfl)
    (hfew : ((backTo cpos (starEach (e :: es) X.env)).all (fun x => !x.1) && (backToKw cpos (keywordEach [] X.env)).all (fun x => x.1.isSome)
      && decide ((e :: es).length + ([] : List Keyword).length + (if ([] : List Keyword).isEmpty then 0 else 1) < 30)) = true := by rfl)
    (hline : (apos.endLine == cpos.line) = true := by rfl) (hs : starEach (e :: es) X.env = (false, eval e X.env) :: starEach es X.env := by rfl) (hplain : (backTo cpos (starEach es X.env)).any (·.1) = false := by rfl) :
    PE (X.suite a l) (.Call (.Attribute o name apos) (e :: es) [] cpos) (tBM X.K T r to t) := pe_bm pa slot hty hm ho ha hbase hfew hline hs hplain
end
end Sho
set_option Elab.async false
set_option linter.all false
set_option maxRecDepth 100000
set_option maxHeartbeats 4000000
/-! _law_outcome: what a call gives, or the word of its error. -/
namespace Sh4
open PySem L2 Sho NdefX Shg Sh1
/-- the errors' names, words and fields, in the order of the tests -/
def eNm : Fin 10 → Str := fun j => (["DaybookError", "DecodeError", "InvalidName", "InvalidNumber", "InvalidOperation", "InvalidStay", "InvalidText", "TooEarly", "TooWide", "UnknownGuest"] : List Str).getD j.1 "UnknownGuest"
def eWd : Fin 10 → Str := fun j => (["daybook", "code", "name", "number", "operation", "stay", "text", "early", "wide", "guest"] : List Str).getD j.1 "guest"
def eFl : Fin 10 → Option Str := fun j => ([some "row", some "offset", none, none, some "index", some "index", some "row", none, none, some "name"] : List (Option Str)).getD j.1 none
/-- what the written part says of the errors: C j the class -/
structure Ten (K : PySem.W.Frag) (mg : Str → Option Value) (P0 : Addr) (C : Fin 10 → Addr) : Prop where
  base : mg "PartyError" = some (.ref P0)
  g : ∀ j, mg (eNm j) = some (.ref (C j))
  up : ∀ j, PySem.W.exmOne K (.ref (C j)) (.ref P0) = some true
  is : ∀ i j, PySem.W.kitOne K (.ref (C i)) (.ref (C j)) = some (decide (i = j))
  ve : ∀ j, PySem.W.kitOne K (.ref (C j)) (.type "ValueError") = some true
  ex : ∀ j, ExcC K (C j)
  xf : ∀ j, XfC K (C j)
  no : ∀ j f, eFl j = some f → PySem.W.findIn K (.ref (C j)) f = some none
def hdBody : Stmt → List Stmt
  | .FunctionDef (body := [.Try _ [.ExceptHandler _ _ b _] _ _ _]) .. => b
  | _ => []
/-- what is wanted of the error j -/
def Out10 (C : Fin 10 → Addr) (Q : VK) : XK := fun cls d H1 => ∃ j : Fin 10, cls = .ref (C j) ∧
  ((eFl j = none ∧ d = none ∧ ∀ p H2, Same H1 H2 → H2 p = some (.tup [.str (eWd j)]) → Q (.ref p) H2) ∨
   ∃ (f : Str) (dd : Addr) (v : V), eFl j = some f ∧ d = some dd ∧ H1 dd = some (.xd [(f, v)]) ∧ ∀ p H2, Same H1 H2 → H2 p = some (.tup [.str (eWd j), v]) → Q (.ref p) H2)
/-- the value behind its word -/
def OutV (Q : VK) : VK := fun v H1 => ∀ p H2, Same H1 H2 → H2 p = some (.tup [.str "value", v]) → Q (.ref p) H2
abbrev kinds10 (j : Fin 10) : List V := [.bl (decide (j = 0)), .bl (decide (j = 1)), .bl (decide (j = 2)), .bl (decide (j = 3)), .bl (decide (j = 4)), .bl (decide (j = 5)), .bl (decide (j = 6)), .bl (decide (j = 7)), .bl (decide (j = 8)), .bl (decide (j = 9))]
abbrev words10 : List V := [.str "daybook", .str "code", .str "name", .str "number", .str "operation", .str "stay", .str "text", .str "early", .str "wide", .str "guest"]
theorem kinds_one : ∀ j : Fin 10, (kinds10 j).countP (fun z => eqV z (.bl true)) = 1 := by decide
theorem kinds_at : ∀ j : Fin 10, (kinds10 j)[j.1]? = some (V.bl true) := fun j => match j with
  | 0 => rfl | 1 => rfl | 2 => rfl | 3 => rfl | 4 => rfl | 5 => rfl | 6 => rfl | 7 => rfl | 8 => rfl | 9 => rfl
theorem kinds_no : ∀ j : Fin 10, ∀ m, m < j.1 → ((kinds10 j)[m]?).all (fun z => !eqV z (.bl true)) = true := by decide
theorem words_at : ∀ j : Fin 10, words10[j.1]? = some (V.str (eWd j)) := fun j => match j with
  | 0 => rfl | 1 => rfl | 2 => rfl | 3 => rfl | 4 => rfl | 5 => rfl | 6 => rfl | 7 => rfl | 8 => rfl | 9 => rfl
theorem ten_cases : ∀ j : Fin 10, j = 0 ∨ j = 1 ∨ j = 2 ∨ j = 3 ∨ j = 4 ∨ j = 5 ∨ j = 6 ∨ j = 7 ∨ j = 8 ∨ j = 9 := by decide
theorem word_row : ∀ j : Fin 10, inV (.str (eWd j)) [.str "daybook", .str "text"] = (decide (j = 0) || decide (j = 6)) := by decide +kernel
theorem word_index : ∀ j : Fin 10, inV (.str (eWd j)) [.str "operation", .str "stay"] = (decide (j = 4) || decide (j = 5)) := by decide +kernel
theorem word_name : ∀ j : Fin 10, decide (V.str (eWd j) = V.str "guest") = decide (j = 9) := by decide +kernel
theorem word_code : ∀ j : Fin 10, decide (V.str (eWd j) = V.str "code") = decide (j = 1) := by decide +kernel
section
variable {P : Program} {w : World} {K : PySem.W.Frag} {mg : Str → Option Value} {base : Heap}
theorem scOut : FnScope ["_law_call", "e", "_law_kinds", "_law_words", "_law_word"] ["_law_call"] (defScope sOut) := ⟨rfl, rfl, rfl, by decide +kernel, rfl, by decide +kernel, by decide +kernel⟩
theorem outcome_run {g P0 : Addr} {C : Fin 10 → Addr} {fd : FuncData} (F : Fun K "_law_outcome" "_law_outcome" sOut g fd) (bF : Binds K fd ["_law_call"] []) (B : Blt mg) (EE : Ten K mg P0 C)
    {cl : List (Str × Addr)} {fr : List Str} {ws : List (Option V)} {sp : SpL} {k : Nat} {A : Around} {outer : List Env} {s : Shared} {H : Hp} {f : Addr} {Q : VK} {E : XK} (hr : Room (k + 1) A) (e0 : Env0 P w K mg base A outer s H)
    (Cs : CellsAt cl fr ws s.heap H) (hact : Act P w K mg base (L2.CX P w) k cl fr sp f H) (q : ∀ (R : VK) (E' : XK), (∀ v H1, OutV Q v H1 → R v H1) → (∀ cls d H1, Out10 C Q cls d H1 → E' cls d H1) → sp ws H R E') :
    codeAny (model P w) A (.call (.ref g) ⟨[.ref f], []⟩) (CR (L2.CX P w) outer P w H s Q E) s := by
  obtain ⟨oc, od, kV, doc, pm, an, cdv, ct, osl, rfl, lk, hcd⟩ := F.ex
  have KX : K.In s.heap := e0.mod.kin.keeps fun b o e => (e0.bs b o e).1
  refine LamX.run_ofS (N := ["_law_call", "e", "_law_kinds", "_law_words", "_law_word"]) (ps := ["_law_call"]) (us := [.ref f]) (vs := [.ref f]) lk hcd scOut hr e0 (bF s [.ref f] KX rfl) (.cons rfl .nil) rfl fun hr' => ?_
  have nd := scOut.nd
  refine' ⟨_, pss_one (ps_try (Wout := fun cls d _ H' => E cls d H') (tb := fun W => tRet (tTup (tCons (tC (.str "value")) (tCons (tAct P w K mg base (L2.CX P w) k 0 cl fr ws fun σ => WE W σ) tNil)))) rfl rfl nd (takes_of rfl rfl rfl rfl)
      (fun W pn xe tk po => pss_one (ps_ret (pe_tup (pa_cons pe_str (pa_cons (pe_act (i := 0) (CX := L2.CX P w) (k := k) (E := fun σ => WE W σ) hr' Cs (fun _ _ _ => List.not_mem_nil) (fun σ => passAt tk σ) rfl (.inl rfl)) pa_nil))))) (l := [⟨.ref P0, some 1, _⟩])
    (.cons ⟨rfl, by decide, .inl EE.base⟩ ⟨rfl, rfl⟩ (fun a oe cls d pn hz hf => ?su) .nil)), ?rd⟩
  case su =>
    have key : PSs ((cxOf (L2.CX P w) P w K mg base ["_law_call", "e", "_law_kinds", "_law_words", "_law_word"] "_law_outcome" (defScope sOut) g cdv A outer s H E).suite a ((a, oe) :: pn)) (hdBody sOut) _ := pss_cons (ps_set (i := 2) nd rfl (Or.inl rfl) (pe_lst (pa_cons (pe_callB (call_isX hz hf) (by rfl) B.isi (by decide +kernel) (pa_cons (pv 1) (pa_cons (pe_glob (v := .ref (C 0)) (by rfl) (by exact EE.g 0) (by rfl)) pa_nil)))
        (pa_cons (pe_callB (call_isX hz hf) (by rfl) B.isi (by decide +kernel) (pa_cons (pv 1) (pa_cons (pe_glob (v := .ref (C 1)) (by rfl) (by exact EE.g 1) (by rfl)) pa_nil)))
        (pa_cons (pe_callB (call_isX hz hf) (by rfl) B.isi (by decide +kernel) (pa_cons (pv 1) (pa_cons (pe_glob (v := .ref (C 2)) (by rfl) (by exact EE.g 2) (by rfl)) pa_nil))) pa_nil)))))
      (pss_cons (ps_expr (pes_bm PySem.F.plainAttrs_list PySem.F.slot_list_extend PySem.F.type_list_extend mt_extend (pv 2) (pa_cons (pe_lst (pa_cons (pe_callB (call_isX hz hf) (by rfl) B.isi (by decide +kernel) (pa_cons (pv 1) (pa_cons (pe_glob (v := .ref (C 3)) (by rfl) (by exact EE.g 3) (by rfl)) pa_nil)))
        (pa_cons (pe_callB (call_isX hz hf) (by rfl) B.isi (by decide +kernel) (pa_cons (pv 1) (pa_cons (pe_glob (v := .ref (C 4)) (by rfl) (by exact EE.g 4) (by rfl)) pa_nil)))
        (pa_cons (pe_callB (call_isX hz hf) (by rfl) B.isi (by decide +kernel) (pa_cons (pv 1) (pa_cons (pe_glob (v := .ref (C 5)) (by rfl) (by exact EE.g 5) (by rfl)) pa_nil))) pa_nil)))) pa_nil)))
      (pss_cons (ps_expr (pes_bm PySem.F.plainAttrs_list PySem.F.slot_list_extend PySem.F.type_list_extend mt_extend (pv 2) (pa_cons (pe_lst (pa_cons (pe_callB (call_isX hz hf) (by rfl) B.isi (by decide +kernel) (pa_cons (pv 1) (pa_cons (pe_glob (v := .ref (C 6)) (by rfl) (by exact EE.g 6) (by rfl)) pa_nil)))
        (pa_cons (pe_callB (call_isX hz hf) (by rfl) B.isi (by decide +kernel) (pa_cons (pv 1) (pa_cons (pe_glob (v := .ref (C 7)) (by rfl) (by exact EE.g 7) (by rfl)) pa_nil)))
        (pa_cons (pe_callB (call_isX hz hf) (by rfl) B.isi (by decide +kernel) (pa_cons (pv 1) (pa_cons (pe_glob (v := .ref (C 8)) (by rfl) (by exact EE.g 8) (by rfl)) pa_nil))) pa_nil)))) pa_nil)))
      (pss_cons (ps_expr (pes_bm PySem.F.plainAttrs_list PySem.F.slot_list_append PySem.F.type_list_append mt_append (pv 2) (pa_cons (pe_callB (call_isX hz hf) (by rfl) B.isi (by decide +kernel) (pa_cons (pv 1) (pa_cons (pe_glob (v := .ref (C 9)) (by rfl) (by exact EE.g 9) (by rfl)) pa_nil))) pa_nil)))
      (pss_cons (ps_if (PW.pt (pw_or (pt_cmpR op_ne (pes_bm PySem.F.plainAttrs_list PySem.F.slot_list_count PySem.F.type_list_count mts_countF (pv 2) (pa_cons pe_bl pa_nil)) pe_int (nomark _))
          (pw_or1 (pt_not (pt_val (pe_callB (call_isX hz hf) (by rfl) B.isi (by decide +kernel) (pa_cons (pv 1) (pa_cons (pe_bltn (v := .ty "ValueError") (by rfl) B.ve (by decide +kernel) rfl) pa_nil)))))))) (pss_one ps_never) pss_nil)
      (pss_cons (ps_set (i := 3) nd rfl (Or.inl rfl) (pe_lst (pa_cons pe_str (pa_cons pe_str (pa_cons pe_str (pa_cons pe_str (pa_cons pe_str (pa_cons pe_str (pa_cons pe_str (pa_cons pe_str (pa_cons pe_str (pa_cons pe_str pa_nil))))))))))))
      (pss_cons (ps_set (i := 4) nd rfl (Or.inl rfl) (pe_ix ixs_list (pv 3) (pes_bm PySem.F.plainAttrs_list PySem.F.slot_list_index PySem.F.type_list_index mts_index (pv 2) (pa_cons pe_bl pa_nil)) (fun _ _ => rfl)))
      (pss_cons (ps_if (pt_cmpR ops_in_seq (pv 4) (pe_tup (pa_cons pe_str (pa_cons pe_str pa_nil))) rfl) (pss_one (ps_ret (pe_tup (pa_cons (pv 4) (pa_cons (pe_either (pe_xf (EE.xf 0) (EE.no 0 "row" rfl) hz hf (pv 1)) (pe_xf (EE.xf 6) (EE.no 6 "row" rfl) hz hf (pv 1))) pa_nil))))) pss_nil)
      (pss_cons (ps_if (pt_cmpR ops_in_seq (pv 4) (pe_tup (pa_cons pe_str (pa_cons pe_str pa_nil))) rfl) (pss_one (ps_ret (pe_tup (pa_cons (pv 4) (pa_cons (pe_either (pe_xf (EE.xf 4) (EE.no 4 "index" rfl) hz hf (pv 1)) (pe_xf (EE.xf 5) (EE.no 5 "index" rfl) hz hf (pv 1))) pa_nil))))) pss_nil)
      (pss_cons (ps_if (pt_cmpR op_eq (pv 4) pe_str (nomark _)) (pss_one (ps_ret (pe_tup (pa_cons (pv 4) (pa_cons (pe_xf (EE.xf 9) (EE.no 9 "name" rfl) hz hf (pv 1)) pa_nil))))) pss_nil)
      (pss_one (ps_ret (pe_ifExp (pt_cmpR op_eq (pv 4) pe_str (nomark _)) (pe_tup (pa_cons (pv 4) (pa_cons (pe_xf (EE.xf 1) (EE.no 1 "offset" rfl) hz hf (pv 1)) pa_nil))) (pe_tup (pa_cons (pv 4) pa_nil))))))))))))))
    exact key
  case rd =>
  refine ⟨f, sp, rfl, hact, q _ _ (fun v H1 o => ?_) fun cls d H1 o => ?_⟩
  · exact ⟨by show 2 ≤ sizeLine; decide, fun p hp => o p _ (same_upd hp) upd_same⟩
  · obtain ⟨j, rfl, o⟩ := o
    refine ⟨true, EE.up j, fun _ a ha => ?_, fun z => nomatch z⟩
    have hd1 : ∀ H', Same H1 H' → ∀ dd, d = some dd → ∃ fs, H' dd = some (.xd fs) := fun H' s' dd e => by
      rcases o with ⟨_, e2, _⟩ | ⟨f, dd', v, _, e2, e3, _⟩
      · rw [e2] at e
        cases e
      · rw [e2] at e
        cases e
        exact ⟨_, s' _ _ e3⟩
    have r0 := Same.refl H1
    refine ⟨_, rfl, C j, .ref (C 0), _, _, rfl, EE.ex j, hd1 _ r0, rfl, fun u r => r, EE.is j 0, _, rfl, C j, .ref (C 1), _, _, rfl, EE.ex j, hd1 _ r0, rfl, fun u r => r, EE.is j 1, _, rfl, C j, .ref (C 2), _, _, rfl, EE.ex j, hd1 _ r0, rfl, fun u r => r, EE.is j 2, by show 3 ≤ sizeLine; decide, fun L hL => ?_⟩
    have sL : ∀ {H' : Hp} {u : HO}, Same H1 H' → Same H1 (upd H' L u) := fun s' b u e => by
      rw [upd_ne (ne_of_none e hL)]
      exact s' b u e
    have s1 : Same H1 (upd H1 L (.lst [.bl (decide (j = 0)), .bl (decide (j = 1)), .bl (decide (j = 2))])) := sL r0
    have l1 : (upd H1 L (.lst [.bl (decide (j = 0)), .bl (decide (j = 1)), .bl (decide (j = 2))])) L = some (.lst [.bl (decide (j = 0)), .bl (decide (j = 1)), .bl (decide (j = 2))]) := upd_same
    generalize upd H1 L (.lst [.bl (decide (j = 0)), .bl (decide (j = 1)), .bl (decide (j = 2))]) = H2 at s1 l1
    show _
    refine ⟨_, rfl, .inl ⟨rfl, _, SqL.of l1⟩, _, rfl, C j, .ref (C 3), _, _, rfl, EE.ex j, hd1 _ s1, rfl, fun u r => r, EE.is j 3, _, rfl, C j, .ref (C 4), _, _, rfl, EE.ex j, hd1 _ s1, rfl, fun u r => r, EE.is j 4, _, rfl, C j, .ref (C 5), _, _, rfl, EE.ex j, hd1 _ s1, rfl, fun u r => r, EE.is j 5, by show 3 ≤ sizeLine; decide, fun M hM => ?_⟩
    have s2 : Same H1 (upd H2 M (.lst [.bl (decide (j = 3)), .bl (decide (j = 4)), .bl (decide (j = 5))])) := s1.trans (same_upd hM)
    have l2 : (upd H2 M (.lst [.bl (decide (j = 3)), .bl (decide (j = 4)), .bl (decide (j = 5))])) L = some (.lst [.bl (decide (j = 0)), .bl (decide (j = 1)), .bl (decide (j = 2))]) := same_upd hM _ _ l1
    have m2 : (upd H2 M (.lst [.bl (decide (j = 3)), .bl (decide (j = 4)), .bl (decide (j = 5))])) M = some (.lst [.bl (decide (j = 3)), .bl (decide (j = 4)), .bl (decide (j = 5))]) := upd_same
    generalize upd H2 M (.lst [.bl (decide (j = 3)), .bl (decide (j = 4)), .bl (decide (j = 5))]) = H3 at s2 l2 m2
    refine ⟨L, M, _, _, rfl, rfl, l2, m2, by show 6 ≤ sizeLine; decide, ?_⟩
    have s3 : Same H1 (upd H3 L (.lst ([.bl (decide (j = 0)), .bl (decide (j = 1)), .bl (decide (j = 2))] ++ [.bl (decide (j = 3)), .bl (decide (j = 4)), .bl (decide (j = 5))]))) := sL s2
    have l3 : (upd H3 L (.lst ([.bl (decide (j = 0)), .bl (decide (j = 1)), .bl (decide (j = 2))] ++ [.bl (decide (j = 3)), .bl (decide (j = 4)), .bl (decide (j = 5))]))) L = some (.lst [.bl (decide (j = 0)), .bl (decide (j = 1)), .bl (decide (j = 2)), .bl (decide (j = 3)), .bl (decide (j = 4)), .bl (decide (j = 5))]) := upd_same
    generalize upd H3 L (.lst ([.bl (decide (j = 0)), .bl (decide (j = 1)), .bl (decide (j = 2))] ++ [.bl (decide (j = 3)), .bl (decide (j = 4)), .bl (decide (j = 5))])) = H4 at s3 l3
    refine ⟨_, rfl, .inl ⟨rfl, _, SqL.of l3⟩, _, rfl, C j, .ref (C 6), _, _, rfl, EE.ex j, hd1 _ s3, rfl, fun u r => r, EE.is j 6, _, rfl, C j, .ref (C 7), _, _, rfl, EE.ex j, hd1 _ s3, rfl, fun u r => r, EE.is j 7, _, rfl, C j, .ref (C 8), _, _, rfl, EE.ex j, hd1 _ s3, rfl, fun u r => r, EE.is j 8, by show 3 ≤ sizeLine; decide, fun N hN => ?_⟩
    have s4 : Same H1 (upd H4 N (.lst [.bl (decide (j = 6)), .bl (decide (j = 7)), .bl (decide (j = 8))])) := s3.trans (same_upd hN)
    have l4 : (upd H4 N (.lst [.bl (decide (j = 6)), .bl (decide (j = 7)), .bl (decide (j = 8))])) L = some (.lst [.bl (decide (j = 0)), .bl (decide (j = 1)), .bl (decide (j = 2)), .bl (decide (j = 3)), .bl (decide (j = 4)), .bl (decide (j = 5))]) := same_upd hN _ _ l3
    have m4 : (upd H4 N (.lst [.bl (decide (j = 6)), .bl (decide (j = 7)), .bl (decide (j = 8))])) N = some (.lst [.bl (decide (j = 6)), .bl (decide (j = 7)), .bl (decide (j = 8))]) := upd_same
    generalize upd H4 N (.lst [.bl (decide (j = 6)), .bl (decide (j = 7)), .bl (decide (j = 8))]) = H5 at s4 l4 m4
    refine ⟨L, N, _, _, rfl, rfl, l4, m4, by show 9 ≤ sizeLine; decide, ?_⟩
    have s5 : Same H1 (upd H5 L (.lst ([.bl (decide (j = 0)), .bl (decide (j = 1)), .bl (decide (j = 2)), .bl (decide (j = 3)), .bl (decide (j = 4)), .bl (decide (j = 5))] ++ [.bl (decide (j = 6)), .bl (decide (j = 7)), .bl (decide (j = 8))]))) := sL s4
    have l5 : (upd H5 L (.lst ([.bl (decide (j = 0)), .bl (decide (j = 1)), .bl (decide (j = 2)), .bl (decide (j = 3)), .bl (decide (j = 4)), .bl (decide (j = 5))] ++ [.bl (decide (j = 6)), .bl (decide (j = 7)), .bl (decide (j = 8))]))) L = some (.lst [.bl (decide (j = 0)), .bl (decide (j = 1)), .bl (decide (j = 2)), .bl (decide (j = 3)), .bl (decide (j = 4)), .bl (decide (j = 5)), .bl (decide (j = 6)), .bl (decide (j = 7)), .bl (decide (j = 8))]) := upd_same
    generalize upd H5 L (.lst ([.bl (decide (j = 0)), .bl (decide (j = 1)), .bl (decide (j = 2)), .bl (decide (j = 3)), .bl (decide (j = 4)), .bl (decide (j = 5))] ++ [.bl (decide (j = 6)), .bl (decide (j = 7)), .bl (decide (j = 8))])) = H6 at s5 l5
    refine ⟨_, rfl, .inl ⟨rfl, _, SqL.of l5⟩, _, rfl, C j, .ref (C 9), _, _, rfl, EE.ex j, hd1 _ s5, rfl, fun u r => r, EE.is j 9, L, _, _, rfl, rfl, l5, by show 9 < sizeLine; decide, ?_⟩
    have s6 : Same H1 (upd H6 L (.lst ([.bl (decide (j = 0)), .bl (decide (j = 1)), .bl (decide (j = 2)), .bl (decide (j = 3)), .bl (decide (j = 4)), .bl (decide (j = 5)), .bl (decide (j = 6)), .bl (decide (j = 7)), .bl (decide (j = 8))] ++ [.bl (decide (j = 9))]))) := sL s5
    have l6 : (upd H6 L (.lst ([.bl (decide (j = 0)), .bl (decide (j = 1)), .bl (decide (j = 2)), .bl (decide (j = 3)), .bl (decide (j = 4)), .bl (decide (j = 5)), .bl (decide (j = 6)), .bl (decide (j = 7)), .bl (decide (j = 8))] ++ [.bl (decide (j = 9))]))) L = some (.lst (kinds10 j)) := upd_same
    generalize upd H6 L (.lst ([.bl (decide (j = 0)), .bl (decide (j = 1)), .bl (decide (j = 2)), .bl (decide (j = 3)), .bl (decide (j = 4)), .bl (decide (j = 5)), .bl (decide (j = 6)), .bl (decide (j = 7)), .bl (decide (j = 8))] ++ [.bl (decide (j = 9))])) = H7 at s6 l6
    have fl : (kinds10 j).all flatV = true := rfl
    refine ⟨_, rfl, .inl ⟨rfl, _, SqL.of l6⟩, L, _, .bl true, rfl, rfl, SqL.of l6, rfl, fl, rfl, false, ?_, iteF ?_⟩
    · rw [kinds_one j]
      rfl
    refine ⟨_, rfl, C j, .ty "ValueError", .type "ValueError", true, rfl, EE.ex j, hd1 _ s6, rfl, fun u r => r, EE.ve j, _, rfl, iteF ?_⟩
    refine ⟨by show 10 ≤ sizeLine; decide, fun W hW => ?_⟩
    have s7 : Same H1 (upd H7 W (.lst words10)) := s6.trans (same_upd hW)
    have l7 : (upd H7 W (.lst words10)) L = some (.lst (kinds10 j)) := same_upd hW _ _ l6
    have w7 : (upd H7 W (.lst words10)) W = some (.lst words10) := upd_same
    generalize upd H7 W (.lst words10) = H8 at s7 l7 w7
    refine ⟨_, rfl, _, rfl, .inl ⟨rfl, _, SqL.of l7⟩, L, _, .bl true, j.1, .bl true, rfl, rfl, SqL.of l7, rfl, fl, kinds_at j, rfl, fun m z hm hz => ?_, W, _, _, .str (eWd j), rfl, rfl, SqL.of w7, atI_nat (words_at j), ?_⟩
    · have q := kinds_no j m hm
      rw [hz] at q
      simpa using q
    -- the word's four tests
    refine ⟨_, rfl, by show 2 ≤ sizeLine; decide, fun t1 ht1 => ⟨t1, _, rfl, .inr (SqT.of upd_same), rfl, rfl, _, rfl, ?_⟩⟩
    have s8 : Same H1 (upd H8 t1 (.tup [.str "daybook", .str "text"])) := s7.trans (same_upd ht1)
    generalize upd H8 t1 (.tup [.str "daybook", .str "text"]) = H9 at s8
    have fin1 : ∀ {H' : Hp} (p : Addr), Same H1 H' → H' p = none → eFl j = none → Q (.ref p) (upd H' p (.tup [.str (eWd j)])) := fun {H'} p s' hp e => by
      rcases o with ⟨_, _, k⟩ | ⟨f, dd, v, e1, _⟩
      · exact k p _ (s'.trans (same_upd hp)) upd_same
      · rw [e] at e1
        cases e1
    have fin2 : ∀ f, eFl j = some f → ∃ (dd : Addr) (v : V), d = some dd ∧ ∀ H' : Hp, Same H1 H' → H' dd = some (.xd [(f, v)]) ∧ ∀ p, H' p = none → Q (.ref p) (upd H' p (.tup [.str (eWd j), v])) := fun f e => by
      rcases o with ⟨e1, _⟩ | ⟨f', dd, v, e1, e2, e3, k⟩
      · rw [e] at e1
        cases e1
      · rw [e] at e1
        cases e1
        exact ⟨dd, v, e2, fun H' s' => ⟨s' _ _ e3, fun p hp => k p _ (s'.trans (same_upd hp)) upd_same⟩⟩
    have lk : ∀ (f : Str) (v : V), List.lookup f [(f, v)] = some v := fun f v => by simp [List.lookup]
    refine ite2 (fun h => ?_) (fun h => ?_)
    · have hj : j = 0 ∨ j = 6 := by
        rw [word_row j] at h
        simpa using h
      rcases hj with rfl | rfl
      · obtain ⟨dd, v, e2, k⟩ := fin2 "row" rfl
        obtain ⟨k1, k2⟩ := k _ s8
        exact ⟨_, rfl, .inl ⟨_, rfl, rfl, rfl, dd, _, v, e2, k1, lk _ _, by show 2 ≤ sizeLine; decide, fun p hp => k2 p hp⟩⟩
      · obtain ⟨dd, v, e2, k⟩ := fin2 "row" rfl
        obtain ⟨k1, k2⟩ := k _ s8
        exact ⟨_, rfl, .inr ⟨_, rfl, rfl, rfl, dd, _, v, e2, k1, lk _ _, by show 2 ≤ sizeLine; decide, fun p hp => k2 p hp⟩⟩
    have n1 : j ≠ 0 ∧ j ≠ 6 := by
      rw [word_row j] at h
      simpa using h
    refine ⟨_, rfl, by show 2 ≤ sizeLine; decide, fun t2 ht2 => ⟨t2, _, rfl, .inr (SqT.of upd_same), rfl, rfl, _, rfl, ?_⟩⟩
    have s9 : Same H1 (upd H9 t2 (.tup [.str "operation", .str "stay"])) := s8.trans (same_upd ht2)
    generalize upd H9 t2 (.tup [.str "operation", .str "stay"]) = Ha at s9
    refine ite2 (fun h => ?_) (fun h => ?_)
    · have hj : j = 4 ∨ j = 5 := by
        rw [word_index j] at h
        simpa using h
      rcases hj with rfl | rfl
      · obtain ⟨dd, v, e2, k⟩ := fin2 "index" rfl
        obtain ⟨k1, k2⟩ := k _ s9
        exact ⟨_, rfl, .inl ⟨_, rfl, rfl, rfl, dd, _, v, e2, k1, lk _ _, by show 2 ≤ sizeLine; decide, fun p hp => k2 p hp⟩⟩
      · obtain ⟨dd, v, e2, k⟩ := fin2 "index" rfl
        obtain ⟨k1, k2⟩ := k _ s9
        exact ⟨_, rfl, .inr ⟨_, rfl, rfl, rfl, dd, _, v, e2, k1, lk _ _, by show 2 ≤ sizeLine; decide, fun p hp => k2 p hp⟩⟩
    have n2 : j ≠ 4 ∧ j ≠ 5 := by
      rw [word_index j] at h
      simpa using h
    refine ⟨_, rfl, rfl, _, rfl, ite2 (fun h => ?_) (fun h => ?_)⟩
    · have hj : j = 9 := by
        rw [word_name j] at h
        simpa using h
      subst hj
      obtain ⟨dd, v, e2, k⟩ := fin2 "name" rfl
      obtain ⟨k1, k2⟩ := k _ s9
      exact ⟨_, rfl, _, rfl, rfl, rfl, dd, _, v, e2, k1, lk _ _, by show 2 ≤ sizeLine; decide, fun p hp => k2 p hp⟩
    have n3 : j ≠ 9 := by
      rw [word_name j] at h
      simpa using h
    refine ⟨_, rfl, rfl, _, rfl, ite2 (fun h => ?_) (fun h => ?_)⟩
    · have hj : j = 1 := by
        rw [word_code j] at h
        simpa using h
      subst hj
      obtain ⟨dd, v, e2, k⟩ := fin2 "offset" rfl
      obtain ⟨k1, k2⟩ := k _ s9
      exact ⟨_, rfl, _, rfl, rfl, rfl, dd, _, v, e2, k1, lk _ _, by show 2 ≤ sizeLine; decide, fun p hp => k2 p hp⟩
    · have n4 : j ≠ 1 := by
        rw [word_code j] at h
        simpa using h
      have ef : eFl j = none := by
        rcases ten_cases j with e | e | e | e | e | e | e | e | e | e
        · exact absurd e n1.1
        · exact absurd e n4
        · rw [e]; rfl
        · rw [e]; rfl
        · exact absurd e n2.1
        · exact absurd e n2.2
        · exact absurd e n1.2
        · rw [e]; rfl
        · rw [e]; rfl
        · exact absurd e n3
      exact ⟨_, rfl, by show 1 ≤ sizeLine; decide, fun p hp => fin1 p s9 hp ef⟩
end
end Sh4
set_option Elab.async false
set_option linter.all false
set_option maxRecDepth 100000
set_option maxHeartbeats 4000000
/-! An own error without a field; shared by the laws with ten errors. -/
namespace Sh4
open PySem L2 Sho NdefX Shg Sh1
/-- an own error without a field -/
structure ErrN4 (K : PySem.W.Frag) (mg : Str → Option Value) (x : Str) (C : Addr) : Prop where
  ex : PySem.W.excIn K C [.type "ValueError", .type "Exception", .type "BaseException", .type "object"] "ValueError.__new__" = true
  gm : mg x = some (.ref C)
  kp : PySem.W.keepIn K (.ref C) = true
  be : PySem.W.subIn K (.ref C) (.type "BaseException") = some true
  ty : PySem.W.typeIn K (.ref C) = some (.type "type")
theorem small_cat {a b : Str} {n m : Nat} (ha : a.length ≤ n) (hb : b.length ≤ m) : (a ++ b).length ≤ n + m := by
  rw [PySem.Str.length_append]
  omega
end Sh4
set_option Elab.async false
set_option linter.all false
set_option maxRecDepth 100000
set_option maxHeartbeats 2000000
/-! Facts of the head that the laws with ten errors share. -/
namespace Sh4
open PySem L2 Sho NdefX He Shh Shg Sh1
section
variable {K : Shh.Fr} {h : Heap} {mg : Str → Option Value}
abbrev bltNames : List Str := ["len", "all", "isinstance", "bool", "tuple", "list", "range", "enumerate", "int", "super", "sorted", "dict", "str", "min", "max", "ValueError", "set", "sum", "any"]
theorem blt_ok (X : K.In h) (G : h.Ns mainGlobals mg) (c : freeB K bltNames = true) : Shg.Blt mg := by
  have k : ∀ x, x ∈ bltNames → mg x = none := fun x hx => freeB_ok X G c hx
  exact ⟨k _ (by simp), k _ (by simp), k _ (by simp), k _ (by simp), k _ (by simp), k _ (by simp), k _ (by simp), k _ (by simp), k _ (by simp), k _ (by simp), k _ (by simp), k _ (by simp), k _ (by simp), k _ (by simp), k _ (by simp), k _ (by simp), k _ (by simp), k _ (by simp), k _ (by simp)⟩
theorem ernB_ok {x : Str} (gm : mg x = some (.ref (ga K x))) (c : ernB K x = true) : ErrN4 K mg x (ga K x) := by
  obtain ⟨c1, c⟩ := ba c
  obtain ⟨c2, c⟩ := ba c
  obtain ⟨c3, c⟩ := ba c
  obtain ⟨c4, c5⟩ := ba c
  exact ⟨c1, gm, c2, of_decide_eq_true c3, of_decide_eq_true c4⟩
def excB (K : Shh.Fr) (D : Addr) : Bool := eqO (PySem.W.findIn K (.ref D) "__getattribute__") (some (some (.builtin "BaseException.__getattribute__"))) && (eqO (PySem.W.findIn K (.ref D) "__getattr__") (some none) && (decide (PySem.W.subIn K (.ref D) (.type "BaseException") = some true) &&
  (PySem.W.hasDictIn K D && (eqO (PySem.W.findIn K (.ref D) "__class__") (some (some (.builtin "object.__class__"))) && (eqO (PySem.W.specialIn K (.builtin "object.__class__") "__get__") (some (some (.builtin "getset_descriptor.__get__"))) && (decide (PySem.W.takesIn K (.builtin "object.__class__") = some true) &&
  decide (PySem.W.mroIn K D (.type "object") = some true)))))))
theorem excB_ok {D : Addr} (c : excB K D = true) : ExcC K D ∧ XfC K D := by
  obtain ⟨c1, c⟩ := ba c
  obtain ⟨c2, c⟩ := ba c
  obtain ⟨c3, c⟩ := ba c
  obtain ⟨c4, c⟩ := ba c
  obtain ⟨c5, c⟩ := ba c
  obtain ⟨c6, c⟩ := ba c
  obtain ⟨c7, c8⟩ := ba c
  exact ⟨⟨eqO_ok c1, eqO_ok c2, of_decide_eq_true c3, c4, eqO_ok c5, eqO_ok c6, of_decide_eq_true c7, of_decide_eq_true c8⟩, ⟨eqO_ok c1, eqO_ok c2, of_decide_eq_true c3, c4⟩⟩
/-- the class of the error j -/
abbrev eA (K : Shh.Fr) (j : Fin 10) : Addr := ga K (eNm j)
def all10 : List (Fin 10) := [0, 1, 2, 3, 4, 5, 6, 7, 8, 9]
theorem all10_mem : ∀ j : Fin 10, j ∈ all10 := by decide
def tenB (K : Shh.Fr) : Bool := all10.all fun j => decide (PySem.W.exmOne K (.ref (eA K j)) (.ref (ga K "PartyError")) = some true) && ((all10.all fun i => decide (PySem.W.kitOne K (.ref (eA K j)) (.ref (eA K i)) = some (decide (j = i)))) &&
  (decide (PySem.W.kitOne K (.ref (eA K j)) (.type "ValueError") = some true) && (excB K (eA K j) && (match eFl j with
    | some f => eqO (PySem.W.findIn K (.ref (eA K j)) f) (some none)
    | none => true))))
theorem tenB_ok (g : ∀ x, x ∈ (["PartyError", "DaybookError", "DecodeError", "InvalidName", "InvalidNumber", "InvalidOperation", "InvalidStay", "InvalidText", "TooEarly", "TooWide", "UnknownGuest"] : List Str) → mg x = some (.ref (ga K x))) (c : tenB K = true) : Ten K mg (ga K "PartyError") (eA K) := by
  have one : ∀ j : Fin 10, _ := fun j => List.all_eq_true.mp c j (all10_mem j)
  refine ⟨g _ (by simp), fun j => ?_, fun j => ?_, fun i j => ?_, fun j => ?_, fun j => ?_, fun j => ?_, fun j f e => ?_⟩
  · rcases ten_cases j with rfl | rfl | rfl | rfl | rfl | rfl | rfl | rfl | rfl | rfl <;> exact g _ (by simp [eNm])
  · obtain ⟨c1, _⟩ := ba (one j)
    exact of_decide_eq_true c1
  · obtain ⟨_, c⟩ := ba (one i)
    obtain ⟨c2, _⟩ := ba c
    exact of_decide_eq_true (List.all_eq_true.mp c2 j (all10_mem j))
  · obtain ⟨_, c⟩ := ba (one j)
    obtain ⟨_, c⟩ := ba c
    obtain ⟨c3, _⟩ := ba c
    exact of_decide_eq_true c3
  · obtain ⟨_, c⟩ := ba (one j)
    obtain ⟨_, c⟩ := ba c
    obtain ⟨_, c⟩ := ba c
    obtain ⟨c4, _⟩ := ba c
    exact (excB_ok c4).1
  · obtain ⟨_, c⟩ := ba (one j)
    obtain ⟨_, c⟩ := ba c
    obtain ⟨_, c⟩ := ba c
    obtain ⟨c4, _⟩ := ba c
    exact (excB_ok c4).2
  · obtain ⟨_, c⟩ := ba (one j)
    obtain ⟨_, c⟩ := ba c
    obtain ⟨_, c⟩ := ba c
    obtain ⟨_, c5⟩ := ba c
    rw [e] at c5
    exact eqO_ok c5
end
theorem _root_.Shh.FunF.funL {K : Shh.Fr} {x qual : Str} {st : Stmt} {f : Addr} (F : FunF K x qual st [] f) : ∃ fd, Shg.FunL K x qual st f (codeA K f) fd ∧
    (∀ ps : List Str, (∀ (kV doc pm : Value) (an : Option Addr) (cdv ct : Value) (us : List Value), us.length = ps.length → bindArgs (PySem.W.fnOf x qual (defArgs st) (defBody st) (defScope st) .none kV doc pm an cdv ct) ⟨us, []⟩ = pure (ps.zip us)) → Binds K fd ps []) ∧
    ∀ ps : List Str, (∀ (kV doc pm : Value) (an : Option Addr) (cdv ct : Value) (us : List Value), us.length = ps.length → bindArgs (PySem.W.fnOf x qual (defArgs st) (defBody st) (defScope st) .none kV doc pm an cdv ct) ⟨us, []⟩ = pure (ps.zip us)) → ∀ (s : Shared) (us : List Value), us.length = ps.length → BindsTo s fd ⟨us, []⟩ (ps.zip us) := by
  obtain ⟨oc, od, doc, pm, an, ct, osl, lk, hcd⟩ := F.ex
  exact ⟨_, ⟨oc, od, .none, doc, pm, an, ct, osl, rfl, lk, hcd⟩, fun ps h => .all (h .none doc pm an _ ct), fun ps h s us hl => .of_eq (h .none doc pm an _ ct us hl)⟩
abbrev dn (x : Str) (st : Stmt) : Dn := ⟨fun K => ga K x, x, x, st, fun _ => []⟩
def tabA (K : Shh.Fr) (x : Str) : Addr := tabOf K (codeA K (ga K x))
end Sh4
set_option Elab.async false
set_option linter.all false
set_option maxRecDepth 100000
set_option maxHeartbeats 2000000
/-! The head of a law: ShHead's facts, defs with keyword-only defaults, tables with text keys. -/
namespace Shh
open PySem PySem.Spec PyProof.Rows L2 He Sho
abbrev AlX : Type := AlS × (Bool × List He5.FnW) × List (Option (List (Option (Str × Int))))
def obsX (n : Nat) (fa : List (Fr → Bool)) (fn : List Dn) (tf : List (Fr → Addr)) (ds : List He5.DefA) (ts : List Tab) (g : Addr → Option Obj) : AlX :=
  (obsS n fa fn tf g, (ds.all fun d => d.ok (fragS n g), ds.map fun d => He5.fnA (fragS n g) (d.at_ (fragS n g))), ts.map fun t => dicW (fragS n g) (t.1 (fragS n g)))
def valX (fn : List Dn) (ds : List He5.DefA) (ts : List Tab) (w : World) : AlX := (valS fn, (true, ds.map He5.DefA.val), ts.map fun t => some (keysIn w.params t.2))
structure SaysX (fa : List (Fr → Bool)) (fn : List Dn) (tf : List (Fr → Addr)) (ds : List He5.DefA) (ts : List Tab) (w : World) (h : Heap) (K : Fr) : Prop where
  s : SaysS fa fn tf h K
  d : ∀ d ∈ ds, ∃ fd, L2.FunD K d.name d.qual d.params d.body d.scope (d.dvs K) (d.kws K) (d.at_ K) fd
  t : ∀ t ∈ ts, ∃ es n, KDict K w (t.1 K) es n
theorem saysX_of {n : Nat} {fa : List (Fr → Bool)} {fn : List Dn} {tf : List (Fr → Addr)} {ds : List He5.DefA} {ts : List Tab} {w : World} {h : Heap} (e : obsX n fa fn tf ds ts h.get? = valX fn ds ts w) : SaysX fa fn tf ds ts w h (fragS n h.get?) := by
  have e1 : obsS n fa fn tf h.get? = valS fn := congrArg (fun z : AlX => z.1) e
  have e2 : (ds.all fun d => d.ok (fragS n h.get?)) = true := congrArg (fun z : AlX => z.2.1.1) e
  have e3 : (ds.map fun d => He5.fnA (fragS n h.get?) (d.at_ (fragS n h.get?))) = ds.map He5.DefA.val := congrArg (fun z : AlX => z.2.1.2) e
  have e4 : (ts.map fun t => dicW (fragS n h.get?) (t.1 (fragS n h.get?))) = ts.map fun t => some (keysIn w.params t.2) := congrArg (fun z : AlX => z.2.2) e
  refine ⟨saysS_of e1, fun d hd => ?_, fun t ht => ?_⟩
  · obtain ⟨i, hi, ei⟩ := List.mem_iff_getElem.mp hd
    have e5 : (ds.map fun d => He5.fnA (fragS n h.get?) (d.at_ (fragS n h.get?)))[i]? = (ds.map He5.DefA.val)[i]? := by rw [e3]
    rw [List.getElem?_map, List.getElem?_map, List.getElem?_eq_getElem hi, ei] at e5
    exact He5.DefA.funD (Option.some.inj e5) (List.all_eq_true.mp e2 d hd)
  · obtain ⟨i, hi, ei⟩ := List.mem_iff_getElem.mp ht
    have e5 : (ts.map fun t => dicW (fragS n h.get?) (t.1 (fragS n h.get?)))[i]? = (ts.map fun t => some (keysIn w.params t.2))[i]? := by rw [e4]
    rw [List.getElem?_map, List.getElem?_map, List.getElem?_eq_getElem hi, ei] at e5
    exact dicW_ok (Option.some.inj e5)
def hookX (n : Nat) (fa : List (Fr → Bool)) (fn : List Dn) (tf : List (Fr → Addr)) (ds : List He5.DefA) (ts : List Tab) : PySem.W.Hook where
  α := AlX
  obs := fun s => obsX n fa fn tf ds ts s.heap.get?
  val := fun w => valX fn ds ts w
  says := fun w h => ∃ K : PySem.W.Frag, K.In h ∧ SaysX fa fn tf ds ts w h K
  of := fun _ _ e => ⟨_, frT_in, saysX_of e⟩
  keeps := fun _ _ _ ⟨K, hK, c⟩ k => ⟨K, PySem.W.Frag.In.keeps hK k, ⟨⟨c.s.fa, c.s.fn, c.s.hd, c.s.out, fun p hp => k _ _ (c.s.empty p hp)⟩, c.d, c.t⟩⟩
theorem obsX_eq {n : Nat} {fa : List (Fr → Bool)} {fn : List Dn} {tf : List (Fr → Addr)} {ds : List He5.DefA} {ts : List Tab} {g : Addr → Option Obj} {s : Shared} (h : ∀ a, g a = s.heap.get? a) : obsX n fa fn tf ds ts g = (hookX n fa fn tf ds ts).obs s := by
  have e : g = s.heap.get? := funext h
  rw [e] <;> rfl
section
variable {fa : List (Fr → Bool)} {fn : List Dn} {tf : List (Fr → Addr)} {ds : List He5.DefA} {ts : List Tab} {w : World} {h : Heap} {K : Fr}
theorem SaysX.def_ (c : SaysX fa fn tf ds ts w h K) (i : Nat) {d : He5.DefA} (e : ds[i]? = some d := by rfl) : ∃ fd, L2.FunD K d.name d.qual d.params d.body d.scope (d.dvs K) (d.kws K) (d.at_ K) fd := c.d d (List.mem_of_getElem? e)
theorem SaysX.tab (c : SaysX fa fn tf ds ts w h K) (i : Nat) {t : Tab} (e : ts[i]? = some t := by rfl) : ∃ es n, KDict K w (t.1 K) es n := c.t t (List.mem_of_getElem? e)
end
end Shh
set_option Elab.async false
set_option linter.all false
set_option maxRecDepth 100000
set_option maxHeartbeats 2000000
namespace Sh1
open PySem L2 Sho
abbrev Stay := Str × Int × Int
def StayV (H : Hp) (v : V) (x : Stay) : Prop := ∃ t, v = .ref t ∧ H t = some (.tup [.str x.1, .int x.2.1, .int x.2.2])
/-- the builtins that the text calls -/
structure Blt (mg : Str → Option Value) : Prop where
  len : mg "len" = none
  all : mg "all" = none
  isi : mg "isinstance" = none
  bool : mg "bool" = none
  tuple : mg "tuple" = none
  list : mg "list" = none
  range : mg "range" = none
  enum : mg "enumerate" = none
  int : mg "int" = none
  sup : mg "super" = none
  sorted : mg "sorted" = none
section
variable {P : Program} {w : World} {K : PySem.W.Frag} {mg : Str → Option Value} {base : Heap}
/-! ### is_name -/
def letter (c : Nat) : Bool := !decide (c < 97) && !decide (122 < c)
def okName (z : Str) : Bool := decide ((1 : Int) ≤ z.length) && (decide ((z.length : Int) ≤ 8) && z.cps.toList.all letter)
theorem one_lt (c d : Nat) : ([c] < [d]) ↔ c < d := by
  rw [List.cons_lt_cons_iff]
  simp
theorem cps_a : (Str.ofString "a").cps.toList = [97] := by decide +kernel
theorem cps_z : (Str.ofString "z").cps.toList = [122] := by decide +kernel
def spIsName : Sp := fun vs H Q _ => ∃ z : Str, vs = [.str z] ∧ z.length ≤ sizeLine ∧ ∀ H', Same H H' → Q (.bl (okName z)) H'
theorem scIsName : FnScope ["word", "letter"] ["word"] (defScope sIsName) := ⟨rfl, rfl, rfl, by decide +kernel, rfl, by decide +kernel, by decide +kernel⟩
theorem ok_isName {f : Addr} {fd : FuncData} {t8 : Tok} (F : Fun K "is_name" "is_name" sIsName f fd) (B : Blt mg) (g8 : mg "LONGEST_NAME" = some (.int 8 t8)) : FnOk P w K mg base CX0 1 f fd ["word"] spIsName := by
  refine F.ok scIsName (fun vs H Q E h => ?_) (fun cdv A outer s H vs Q E hr h => ?_)
  · obtain ⟨z, rfl, _⟩ := h
    rfl
  · obtain ⟨z, rfl, hz, k⟩ := h
    refine ⟨_, pss_one (ps_ret (pe_and (pe_chain op_le op_le pe_int (pe_callB call_len_str (by rfl) B.len PySem.boot_len (pa_cons (pv 0) pa_nil)) (pe_glob (v := .int 8) rfl g8 ⟨_, rfl⟩)) (pe_one
      (pe_callB (cr_all rfl) (by rfl) B.all (by decide +kernel) (pa_cons (pe_lc (own := [("letter", 1)]) (g := gName 1) (tt := tYes) rfl scIsName.nd (pi_str (pv 0)) (blkOk_by (own := [("letter", 1)]) (N := ["word", "letter"]) (sc := defScope sIsName) (by decide +kernel))
        (fun _ _ _ _ _ => pg_name (i := 1) scIsName.nd rfl (Or.inl rfl)) (fun _ _ _ _ _ => pts_nil)
        (fun _ _ _ _ _ => pe_chain op_le_str op_le_str pe_str (pv 1) pe_str)) pa_nil))))), ?_⟩
    refine ⟨_, rfl, z, rfl, hz, _, _, rfl, rfl, _, rfl, ?_⟩
    refine ite2 (fun h1 => ?_) (fun h1 => ?_)
    · refine ⟨_, _, rfl, rfl, _, rfl, ?_⟩
      refine ite2 (fun h2 => ?_) (fun h2 => ?_)
      · refine ⟨_, rfl, z, rfl, fun D hD => ?_⟩
        refine lc_map (walk_str (z := z)) (fun i => (z.cps.toList[i]?).map fun c => .bl (letter c)) hD hz (fun _ _ => trivial) (fun i x H1 H' hi s1 y R k1 => ?_) (fun i hi => ⟨_, by rw [List.getElem?_eq_getElem (by simpa using hi)]; rfl⟩) fun H1 s1 e1 => ?_
        · obtain ⟨rfl, c, hc, rfl⟩ := y
          refine ⟨rfl, _, rfl, _, _, rfl, rfl, _, rfl, ?_⟩
          have fi : Option.map (fun c => V.bl (letter c)) z.cps.toList[i]? = some (.bl (letter c)) := by
            rw [Array.getElem?_toList, hc]
            rfl
          have e1 : decide (({ cps := #[c] } : Str).cps.toList < (Str.ofString "a").cps.toList) = decide (c < 97) := by
            rw [cps_a]
            exact decide_eq_decide.mpr (one_lt c 97)
          have e2 : decide ((Str.ofString "z").cps.toList < ({ cps := #[c] } : Str).cps.toList) = decide (122 < c) := by
            rw [cps_z]
            exact decide_eq_decide.mpr (one_lt 122 c)
          rw [e1]
          by_cases h3 : c < 97
          · rw [decide_eq_true h3]
            refine iteF (k1 _ _ (Same.refl _) ?_)
            rw [fi]
            simp [letter, h3]
          · rw [decide_eq_false h3]
            refine iteT ⟨_, _, rfl, rfl, ?_⟩
            rw [e2]
            refine k1 _ _ (Same.refl _) ?_
            rw [fi]
            simp [letter, h3]
        · refine ⟨D, z.cps.toList.map letter, rfl, ?_, ?_⟩
          · have e2 : gather (fun i => (z.cps.toList[i]?).map fun c => V.bl (letter c)) z.cps.size = (z.cps.toList.map letter).map V.bl := by
              have := gather_map z.cps.toList fun c => V.bl (letter c)
              rw [Array.length_toList] at this
              rw [this, List.map_map]
              rfl
            rw [← e2]
            exact SqL.of e1
          · have e3 : okName z = (z.cps.toList.map letter).all id := by
              unfold okName
              have h1' : (1 : Int) ≤ z.length := of_decide_eq_true h1
              have h2' : (z.length : Int) ≤ 8 := of_decide_eq_true h2
              rw [decide_eq_true h1', decide_eq_true h2', List.all_map]
              rfl
            rw [← e3]
            exact k _ s1
      · have e3 : okName z = false := by
          unfold okName
          have h2' : ¬ (z.length : Int) ≤ 8 := fun q => h2 (decide_eq_true q)
          rw [decide_eq_false h2']
          simp
        have := k H (Same.refl H)
        rw [e3] at this
        exact this
    · have e3 : okName z = false := by
        unfold okName
        have h1' : ¬ (1 : Int) ≤ z.length := fun q => h1 (decide_eq_true q)
        rw [decide_eq_false h1']
        rfl
      have := k H (Same.refl H)
      rw [e3] at this
      exact ⟨_, rfl, iteF this⟩
end
end Sh1
set_option Elab.async false
set_option linter.all false
set_option maxRecDepth 100000
set_option maxHeartbeats 2000000
namespace Sh1
open PySem L2 Sho NdefX
abbrev nfInv (cc cda : Addr) : NF := ⟨"__init__", "InvalidStay.__init__", defArgs sInvInit, defBody sInvInit, defScope sInvInit, [("__class__", cc)], cda⟩
abbrev nfUnk (cc cda : Addr) : NF := ⟨"__init__", "UnknownGuest.__init__", defArgs sUnkInit, defBody sUnkInit, defScope sUnkInit, [("__class__", cc)], cda⟩
/-- an own error that stores one field -/
structure ErrC (P : Program) (K : PySem.W.Frag) (mg : Str → Option Value) (x fld : Str) (F : Addr → Addr → NF) (C : Addr) : Prop where
  txt : ∃ f cc cda, SupTxt P K mg (F cc cda) f cc C ∧ PySem.W.findIn K (.ref C) "__init__" = some (some (.ref f)) ∧ PySem.W.typeIn K (.ref f) = some (.type "function")
  cls : SupCls K C C
  xf : XfC K C
  no : PySem.W.findIn K (.ref C) fld = some none
  gm : mg x = some (.ref C)
  exm : PySem.W.exmOne K (.ref C) (.ref C) = some true
section
variable {X : Cx} {CX : CXT} {C : Addr} {k : Nat} {kws : List Keyword} {te : TA} {p pos : Pos}
theorem tells_len {v : V} (h : Tells v) : (∃ y : Str, v = .str y ∧ y.length ≤ 100000) ∨ ∃ i : Int, v = .int i ∧ i.natAbs.log2 < 1920 ∧ (Str.ofString (toString i)).length ≤ 100000 := by
  rcases h with ⟨y, rfl, hy⟩ | ⟨i, rfl, hi⟩
  · exact .inl ⟨y, rfl, hy⟩
  · exact .inr ⟨i, rfl, hi, Nat.le_trans (PyProof.Rows.int_text_len_1921 hi) (by decide)⟩
theorem small_cat {a b : Str} {n m : Nat} (ha : a.length ≤ n) (hb : b.length ≤ m) : (a ++ b).length ≤ n + m := by
  rw [PySem.Str.length_append]
  omega
theorem pmk_inv (EC : ErrC X.prog X.K X.mg "InvalidStay" "index" nfInv C) (hr : Room (k + 2) X.A) (hx : Passes CX X (fun _ _ _ => False)) (hg : Gl X "InvalidStay")
    (hkw : PK X kws te) (hall : (backToKw pos (keywordEach kws X.env)).all (·.1.isSome) = true) (hks : (backToKw pos (keywordEach kws X.env)).filterMap (·.1) = [("index" : Str)])
    (hpl : ((backTo pos (starEach [] X.env)).any (·.1) || (backToKw pos (keywordEach kws X.env)).any (·.1.isNone)) = false) : PMk X (.Call (.Name "InvalidStay" p) [] kws pos) (tMkW C "index" te) := by
  obtain ⟨f, cc, cda, T, iC, tI⟩ := EC.txt
  have S : NScope ["self", "index", "__class__"] ["self", "index"] ["__class__"] (defScope sInvInit) := nscope_by (by decide +kernel)
  refine pmk_kw (F := nfInv cc cda) (fld := "index") (k := k) T EC.cls EC.xf EC.no iC tI S hr hx hg EC.gm hkw hall hks hpl rfl (fun s doc pm an ct xa u => .of_eq rfl) (fun A outer s H E xa v hv => ?_) (fun L => rfl) (fun L => rfl) (fun L => rfl)
  refine ⟨_, pa_cons (pe_joined (.cons pe_str (.cons (pe_fmt (pv 1)) (.cons pe_str .nil)))) pa_nil, fun R hR => ?_⟩
  have e0 : (Str.empty ++ Str.ofString "stay ").length ≤ 10 := by decide +kernel
  have e2 : (Str.ofString " is not allowed").length ≤ 20 := by decide +kernel
  refine ⟨_, rfl, Nat.le_trans e0 (by decide), v, rfl, ?_⟩
  rcases tells_len hv with ⟨y, rfl, hy⟩ | ⟨i, rfl, hi, hl⟩
  · have l1 := small_cat e0 hy
    have l2 := small_cat l1 e2
    exact .inl ⟨y, rfl, Nat.le_trans hy (by decide), y, rfl, Nat.le_trans l1 (by decide), _, rfl, Nat.le_trans l2 (by decide), hR _⟩
  · have l1 := small_cat e0 hl
    have l2 := small_cat l1 e2
    exact .inr ⟨i, rfl, hi, _, rfl, Nat.le_trans l1 (by decide), _, rfl, Nat.le_trans l2 (by decide), hR _⟩
theorem pmk_unk (EC : ErrC X.prog X.K X.mg "UnknownGuest" "name" nfUnk C) (hr : Room (k + 2) X.A) (hx : Passes CX X (fun _ _ _ => False)) (hg : Gl X "UnknownGuest")
    (hkw : PK X kws te) (hall : (backToKw pos (keywordEach kws X.env)).all (·.1.isSome) = true) (hks : (backToKw pos (keywordEach kws X.env)).filterMap (·.1) = [("name" : Str)])
    (hpl : ((backTo pos (starEach [] X.env)).any (·.1) || (backToKw pos (keywordEach kws X.env)).any (·.1.isNone)) = false) : PMk X (.Call (.Name "UnknownGuest" p) [] kws pos) (tMkW C "name" te) := by
  obtain ⟨f, cc, cda, T, iC, tI⟩ := EC.txt
  have S : NScope ["self", "name", "__class__"] ["self", "name"] ["__class__"] (defScope sUnkInit) := nscope_by (by decide +kernel)
  refine pmk_kw (F := nfUnk cc cda) (fld := "name") (k := k) T EC.cls EC.xf EC.no iC tI S hr hx hg EC.gm hkw hall hks hpl rfl (fun s doc pm an ct xa u => .of_eq rfl) (fun A outer s H E xa v hv => ?_) (fun L => rfl) (fun L => rfl) (fun L => rfl)
  refine ⟨_, pa_cons (pe_joined (.cons pe_str (.cons (pe_fmt (pv 1)) .nil))) pa_nil, fun R hR => ?_⟩
  have e0 : (Str.empty ++ Str.ofString "there is no guest ").length ≤ 30 := by decide +kernel
  refine ⟨_, rfl, Nat.le_trans e0 (by decide), v, rfl, ?_⟩
  rcases tells_len hv with ⟨y, rfl, hy⟩ | ⟨i, rfl, hi, hl⟩
  · have l1 := small_cat e0 hy
    exact .inl ⟨y, rfl, Nat.le_trans hy (by decide), y, rfl, Nat.le_trans l1 (by decide), hR _⟩
  · have l1 := small_cat e0 hl
    exact .inr ⟨i, rfl, hi, _, rfl, Nat.le_trans l1 (by decide), hR _⟩
end
end Sh1
set_option Elab.async false
set_option linter.all false
set_option maxRecDepth 100000
set_option maxHeartbeats 2000000
/-! The state of the draws, through what changes beside it. -/
namespace Sh4
open PySem L2 Sho NdefX Shg Sh1
theorem NextSt.fresh {H : Hp} {l S p : Addr} (d : NextSt H l S) (h : H p = none) : p ≠ l ∧ p ≠ S := by
  obtain ⟨⟨m, q, cells, h1, h2, _⟩, _⟩ := d
  exact ⟨fun z => (by rw [z, h1] at h; cases h), fun z => (by rw [z, h2] at h; cases h)⟩
/-- an object that is no list is neither -/
theorem NextSt.other {H : Hp} {l S b : Addr} {o : HO} (d : NextSt H l S) (h : H b = some o) (n : ∀ ys, o ≠ .lst ys) : b ≠ l ∧ b ≠ S := by
  obtain ⟨⟨m, q, cells, h1, h2, _⟩, _⟩ := d
  exact ⟨fun z => (by rw [z, h1] at h; exact n _ (Option.some.inj h).symm), fun z => (by rw [z, h2] at h; exact n _ (Option.some.inj h).symm)⟩
theorem NextSt.keep {H H' : Hp} {l S : Addr} (d : NextSt H l S) (e : LamX.ExtN H H') : NextSt H' l S := by
  obtain ⟨⟨m, p, cells, h1, h2, h3⟩, n⟩ := d
  exact ⟨⟨m, p, cells, e _ _ h1 (fun _ z => nomatch z), e _ _ h2 (fun _ z => nomatch z), h3⟩, n⟩
theorem tabs_but2 {l S : Addr} {H H' : Hp} {T : List (Addr × Str)} (d : NextSt H l S) (e : But2 l S H H') (t : LamX.Tabs T H) : LamX.Tabs T H' := fun p hp => by
  obtain ⟨qs, q1, q2, q3⟩ := t p hp
  obtain ⟨n1, n2⟩ := d.other q1 fun ys z => nomatch z
  refine ⟨qs, e _ _ q1 n1 n2, q2, fun p' cv h => ?_⟩
  obtain ⟨c, e1, e2⟩ := q3 p' cv h
  obtain ⟨n3, n4⟩ := d.other e2 fun ys z => nomatch z
  exact ⟨c, e1, e _ _ e2 n3 n4⟩
theorem NextSt.upd {H : Hp} {l S p : Addr} {o : HO} (d : NextSt H l S) (n1 : p ≠ l) (n2 : p ≠ S) : NextSt (upd H p o) l S := by
  obtain ⟨⟨m, q, cells, h1, h2, h3⟩, n⟩ := d
  exact ⟨⟨m, q, cells, by rw [upd_ne (Ne.symm n1)]; exact h1, by rw [upd_ne (Ne.symm n2)]; exact h2, h3⟩, n⟩
end Sh4
set_option Elab.async false
set_option linter.all false
set_option maxRecDepth 100000
set_option maxHeartbeats 4000000
set_option autoImplicit false
/-! Live piles: the numbers. -/
namespace Lv
open PySem L2 Sho NdefX Shg Sh1
theorem pair_len {α β : Type} {R : α → β → Prop} {as : List α} {bs : List β} (h : PySem.Paired R as bs) : as.length = bs.length := Shg.pair_len h
theorem pair_get {α β : Type} {R : α → β → Prop} {as : List α} {bs : List β} {i : Nat} {a : α} (h : PySem.Paired R as bs) (e : as[i]? = some a) : ∃ b, bs[i]? = some b ∧ R a b := Shg.pair_get h e
theorem pair_mono {α β : Type} {R S : α → β → Prop} (k : ∀ a b, R a b → S a b) {as : List α} {bs : List β} (h : PySem.Paired R as bs) : PySem.Paired S as bs := Shg.pair_mono k h
theorem pair_app {α β : Type} {R : α → β → Prop} {as : List α} {bs : List β} {cs : List α} {ds : List β} (h : PySem.Paired R as bs) (k : PySem.Paired R cs ds) : PySem.Paired R (as ++ cs) (bs ++ ds) := Shg.pair_app h k
theorem or_ans {A B : TT} {σ : L2.St} {H : Hp} {Q : Bool → Hp → Prop} (a b : Bool) (hA : ∀ R : Bool → Hp → Prop, (∀ H', Same H H' → R a H') → A σ H R)
    (hB : ∀ H1, Same H H1 → a = false → ∀ R : Bool → Hp → Prop, (∀ H', Same H1 H' → R b H') → B σ H1 R) (hQ : ∀ H', Same H H' → Q (a || b) H') : tOr A B σ H Q := hA _ fun H1 s1 => by
  cases a with
  | true => exact iteT (by have := hQ H1 s1; rw [Bool.true_or] at this; exact this)
  | false => exact iteF (hB H1 s1 rfl _ fun H2 s2 => by have := hQ H2 (s1.trans s2); rw [Bool.false_or] at this; exact this)
theorem nat_log {i : Nat} (h : i ≤ 1048576) : ((i : Int)).natAbs.log2 < 1920 := by
  rw [Int.natAbs_natCast]
  by_cases z : i = 0
  · rw [z]
    decide
  · exact (Nat.log2_lt z).mpr (Nat.lt_of_le_of_lt h (Nat.lt_of_lt_of_le (show 1048576 < 2 ^ 21 by decide) (Nat.pow_le_pow_right (by decide) (by decide))))
theorem log_of {t : Int} (h0 : -1048576 ≤ t) (h1 : t ≤ 2 ^ 60) : t.natAbs.log2 < 1920 := by
  by_cases z : t.natAbs = 0
  · rw [z]
    decide
  · refine (Nat.log2_lt z).mpr (Nat.lt_of_lt_of_le (show t.natAbs < 2 ^ 61 by omega) (Nat.pow_le_pow_right (by decide) (by decide)))
theorem ifs_of {c : TT} {A B u : TS} {D : Ends} {σ : L2.St} {H : Hp} (h : c σ H fun b H1 => if b = true then A { D with nx := u D } σ H1 else B { D with nx := u D } σ H1) : tSeq (tIfS c A B) u D σ H := h
abbrev Pile := List (Str × Int)
inductive Op where
  | come (n : Str) (k : Int)
  | go (n : Str)
  | wait (t : Int)
/-- how everything is after an operation -/
structure Mo where
  op : Option Op
  tick : Int
  lying : List Pile
  lifted : Int
  ended : Option Stay
inductive Rs where
  | num (n : Int)
  | gone (xs : List Str)
inductive Er where
  | name
  | number
  | early
  | guest (n : Str)
abbrev LAST : Int := 1000000000
def inFrom (n : Str) : Nat → Pile → Option Nat
  | _, [] => none
  | j, x :: r => if x.1 = n then some j else inFrom n (j + 1) r
def placeFrom (n : Str) : Nat → List Pile → Option (Nat × Nat)
  | _, [] => none
  | i, p :: r => match inFrom n 0 p with
    | some j => some (i, j)
    | none => placeFrom n (i + 1) r
theorem inFrom_cons (n : Str) (j : Nat) (x : Str × Int) (r : Pile) : inFrom n j (x :: r) = if x.1 = n then some j else inFrom n (j + 1) r := rfl
theorem placeFrom_some {n : Str} {i j : Nat} {p : Pile} (r : List Pile) (h : inFrom n 0 p = some j) : placeFrom n i (p :: r) = some (i, j) := by
  show (match inFrom n 0 p with | some j => some (i, j) | none => placeFrom n (i + 1) r) = _
  rw [h]
theorem placeFrom_none {n : Str} {i : Nat} {p : Pile} (r : List Pile) (h : inFrom n 0 p = none) : placeFrom n i (p :: r) = placeFrom n (i + 1) r := by
  show (match inFrom n 0 p with | some j => some (i, j) | none => placeFrom n (i + 1) r) = _
  rw [h]
theorem pair_rev {α β : Type} {R : α → β → Prop} : ∀ {as : List α} {bs : List β}, PySem.Paired R as bs → PySem.Paired R as.reverse bs.reverse
  | _, _, .nil => .nil
  | _, _, .cons h r => by
    rw [List.reverse_cons, List.reverse_cons]
    exact Shg.pair_app (pair_rev r) (.cons h .nil)
abbrev placeOf (l : List Pile) (n : Str) : Option (Nat × Nat) := placeFrom n 0 l
def there (l : List Pile) (n : Str) : Bool := l.any fun p => p.any fun x => decide (n = x.1)
theorem inFrom_at {n : Str} : ∀ {p : Pile} {j q : Nat}, inFrom n j p = some q → ∃ d x, q = j + d ∧ p[d]? = some x ∧ x.1 = n
  | [], _, _, h => by cases h
  | y :: r, j, q, h => by
    unfold inFrom at h
    split at h
    · rename_i e
      cases h
      exact ⟨0, y, rfl, rfl, e⟩
    · obtain ⟨d, x, e, h1, h2⟩ := inFrom_at h
      exact ⟨d + 1, x, by omega, h1, h2⟩
theorem placeFrom_at {n : Str} : ∀ {l : List Pile} {i a b : Nat}, placeFrom n i l = some (a, b) → ∃ d p x, a = i + d ∧ l[d]? = some p ∧ p[b]? = some x ∧ x.1 = n
  | [], _, _, _, h => by cases h
  | p :: r, i, a, b, h => by
    unfold placeFrom at h
    cases e : inFrom n 0 p with
    | some j =>
      rw [e] at h
      cases h
      obtain ⟨d, x, e1, h1, h2⟩ := inFrom_at e
      rw [Nat.zero_add] at e1
      subst e1
      exact ⟨0, p, x, rfl, rfl, h1, h2⟩
    | none =>
      rw [e] at h
      obtain ⟨d, p', x, e1, h1, h2, h3⟩ := placeFrom_at h
      exact ⟨d + 1, p', x, by omega, h1, h2, h3⟩
theorem placeOf_at {l : List Pile} {n : Str} {a b : Nat} (h : placeOf l n = some (a, b)) : ∃ p x, l[a]? = some p ∧ p[b]? = some x ∧ x.1 = n := by
  obtain ⟨d, p, x, e, h1, h2, h3⟩ := placeFrom_at h
  rw [Nat.zero_add] at e
  subst e
  exact ⟨p, x, h1, h2, h3⟩
theorem inFrom_any {n : Str} : ∀ {p : Pile} {j : Nat}, (inFrom n j p).isSome = p.any fun x => decide (n = x.1)
  | [], _ => rfl
  | y :: r, j => by
    unfold inFrom
    rw [List.any_cons]
    by_cases e : y.1 = n
    · rw [if_pos e, decide_eq_true e.symm]
      rfl
    · rw [if_neg e, decide_eq_false (fun z => e z.symm), Bool.false_or]
      exact inFrom_any
theorem placeFrom_any {n : Str} : ∀ {l : List Pile} {i : Nat}, (placeFrom n i l).isSome = there l n
  | [], _ => rfl
  | p :: r, i => by
    unfold placeFrom there
    rw [List.any_cons, ← inFrom_any (n := n) (p := p) (j := 0)]
    cases e : inFrom n 0 p with
    | some j => rfl
    | none =>
      rw [Option.isSome_none, Bool.false_or]
      exact placeFrom_any
/-- what an operation leads to -/
def stepM (m : Mo) : Op → Except Er (Mo × Rs)
  | .come n k => match okName n && !there m.lying n with
    | true => (match decide (0 ≤ k) && decide (k < (m.lying.length : Nat)) with
      | true => .ok (⟨some (.come n k), m.tick, m.lying.set k.toNat (m.lying.getD k.toNat [] ++ [(n, m.tick)]), m.lifted, none⟩, .num ((m.lying.getD k.toNat [] ++ [(n, m.tick)]).length : Nat))
      | false => .error .number)
    | false => .error .name
  | .go n => match placeOf m.lying n with
    | none => .error (.guest n)
    | some (i, j) => (match decide (((m.lying.getD i []).getD j (n, 0)).2 = m.tick) with
      | true => .error .early
      | false => .ok (⟨some (.go n), m.tick, m.lying.set i ((m.lying.getD i []).take j ++ (m.lying.getD i []).drop (j + 1)), m.lifted + (((m.lying.getD i []).drop (j + 1)).length : Nat), some (n, ((m.lying.getD i []).getD j (n, 0)).2, m.tick)⟩,
          .gone (((m.lying.getD i []).drop (j + 1)).reverse.map fun x => x.1)))
  | .wait t => match decide (1 ≤ t) && decide (t ≤ LAST - m.tick) with
    | true => .ok (⟨some (.wait t), m.tick + t, m.lying, m.lifted, none⟩, .num (m.tick + t))
    | false => .error .number
/-- no pile is higher than b -/
structure Fit (b : Nat) (m : Mo) : Prop where
  some : 1 ≤ m.lying.length
  few : m.lying.length ≤ 9
  low : ∀ p ∈ m.lying, p.length ≤ b
  t0 : 0 ≤ m.tick
  t1 : m.tick ≤ LAST
theorem Fit.mono {b c : Nat} {m : Mo} (h : Fit b m) (l : b ≤ c) : Fit c m := ⟨h.some, h.few, fun p hp => Nat.le_trans (h.low p hp) l, h.t0, h.t1⟩
theorem getD_of {α : Type} {l : List α} {i : Nat} {x d : α} (h : l[i]? = some x) : l.getD i d = x := by
  rw [List.getD_eq_getElem?_getD, h]
  rfl
theorem mem_set_or {α : Type} : ∀ {l : List α} {i : Nat} {x y : α}, y ∈ l.set i x → y = x ∨ y ∈ l
  | [], _, _, _, h => by cases h
  | z :: l, 0, x, y, h => by
    rcases List.mem_cons.mp h with h | h
    · exact .inl h
    · exact .inr (List.mem_cons_of_mem _ h)
  | z :: l, i + 1, x, y, h => by
    rcases List.mem_cons.mp h with h | h
    · exact .inr (by rw [h]; exact List.mem_cons_self)
    · rcases mem_set_or h with h | h
      · exact .inl h
      · exact .inr (List.mem_cons_of_mem _ h)
theorem Fit.getD {b : Nat} {m : Mo} (h : Fit b m) (i : Nat) : (m.lying.getD i []).length ≤ b := by
  by_cases hi : i < m.lying.length
  · rw [getD_of (List.getElem?_eq_getElem hi)]
    exact h.low _ (List.getElem_mem hi)
  · rw [List.getD_eq_getElem?_getD, List.getElem?_eq_none (by omega)]
    exact Nat.zero_le _
theorem Fit.step {b : Nat} {m m' : Mo} {o : Op} {r : Rs} (h : Fit b m) (e : stepM m o = .ok (m', r)) : Fit (b + 1) m' := by
  cases o with
  | come n k =>
    unfold stepM at e
    cases c1 : okName n && !there m.lying n with
    | false => simp only [c1] at e; cases e
    | true =>
      simp only [c1] at e
      cases c2 : decide (0 ≤ k) && decide (k < (m.lying.length : Nat)) with
      | false => rw [c2] at e; cases e
      | true =>
        rw [c2] at e
        cases e
        refine ⟨?_, ?_, fun p hp => ?_, h.t0, h.t1⟩
        · show 1 ≤ (m.lying.set _ _).length
          rw [List.length_set]
          exact h.some
        · show (m.lying.set _ _).length ≤ 9
          rw [List.length_set]
          exact h.few
        · rcases mem_set_or hp with rfl | hp
          · rw [List.length_append]
            exact Nat.add_le_add_right (h.getD _) 1
          · exact Nat.le_succ_of_le (h.low p hp)
  | go n =>
    unfold stepM at e
    cases c1 : placeOf m.lying n with
    | none => simp only [c1] at e; cases e
    | some ij =>
      obtain ⟨i, j⟩ := ij
      simp only [c1] at e
      cases c2 : decide (((m.lying.getD i []).getD j (n, 0)).2 = m.tick) with
      | true => rw [c2] at e; cases e
      | false =>
        rw [c2] at e
        cases e
        refine ⟨?_, ?_, fun p hp => ?_, h.t0, h.t1⟩
        · show 1 ≤ (m.lying.set _ _).length
          rw [List.length_set]
          exact h.some
        · show (m.lying.set _ _).length ≤ 9
          rw [List.length_set]
          exact h.few
        · rcases mem_set_or hp with rfl | hp
          · have := h.getD i
            rw [List.length_append, List.length_take, List.length_drop]
            omega
          · exact Nat.le_succ_of_le (h.low p hp)
  | wait t =>
    unfold stepM at e
    cases c1 : decide (1 ≤ t) && decide (t ≤ LAST - m.tick) with
    | false => simp only [c1] at e; cases e
    | true =>
      simp only [c1] at e
      cases e
      rw [Bool.and_eq_true, decide_eq_true_eq, decide_eq_true_eq] at c1
      have := h.t0
      exact ⟨h.some, h.few, fun p hp => Nat.le_succ_of_le (h.low p hp), by show 0 ≤ m.tick + t; omega, by show m.tick + t ≤ LAST; omega⟩
/-! ### as they stand in memory -/
/-- what a moment is made of: it never changes -/
def Fz : HO → Prop
  | .tup _ => True
  | .ins _ _ fs => fs.length = 5
  | _ => False
def KeepF (H H' : Hp) : Prop := ∀ b o, H b = some o → Fz o → H' b = some o
theorem KeepF.of {H H' : Hp} (s : Same H H') : KeepF H H' := fun b o e _ => s b o e
theorem KeepF.trans {H H1 H2 : Hp} (a : KeepF H H1) (b : KeepF H1 H2) : KeepF H H2 := fun c o e n => b c o (a c o e n) n
theorem KeepF.upd {H : Hp} {p : Addr} {o o' : HO} (h : H p = some o) (n : ¬ Fz o) : KeepF H (upd H p o') := fun b u e z => by
  rw [upd_ne fun q => by rw [q, h] at e; exact n (by rw [Option.some.inj e]; exact z)]
  exact e
theorem KeepF.but {H H' : Hp} {l S : Addr} {o u : HO} (b : But2 l S H H') (h1 : H l = some o) (n1 : ¬ Fz o) (h2 : H S = some u) (n2 : ¬ Fz u) : KeepF H H' := fun c x e z =>
  b c x e (fun q => by rw [q, h1] at e; exact n1 (by rw [Option.some.inj e]; exact z)) fun q => by rw [q, h2] at e; exact n2 (by rw [Option.some.inj e]; exact z)
def ItV (H : Hp) (v : V) (x : Str × Int) : Prop := ∃ q, v = .ref q ∧ H q = some (.tup [.str x.1, .int x.2])
def PileT (H : Hp) (v : V) (p : Pile) : Prop := ∃ a ws, v = .ref a ∧ H a = some (.tup ws) ∧ PySem.Paired (ItV H) ws p
def LieT (H : Hp) (a : Addr) (l : List Pile) : Prop := ∃ ws, H a = some (.tup ws) ∧ PySem.Paired (PileT H) ws l
def opVs : Option Op → List V
  | none => []
  | some (.come n k) => [.str "come", .str n, .int k]
  | some (.go n) => [.str "go", .str n]
  | some (.wait t) => [.str "wait", .int t]
def EndV (H : Hp) (v : V) : Option Stay → Prop
  | none => v = .non
  | some x => StayV H v x
def MoAt (C : Addr) (H : Hp) (a : Addr) (m : Mo) : Prop := ∃ dx po pl ve, H a = some (.ins C dx [("operation", .ref po), ("tick", .int m.tick), ("lying", .ref pl), ("lifted", .int m.lifted), ("ended", ve)]) ∧ H po = some (.tup (opVs m.op)) ∧ LieT H pl m.lying ∧ EndV H ve m.ended
def RsV (H : Hp) (v : V) : Rs → Prop
  | .num n => v = .int n
  | .gone xs => ∃ l, v = .ref l ∧ H l = some (.lst (xs.map V.str))
theorem ItV.keep {H H' : Hp} {v : V} {x : Str × Int} (k : KeepF H H') (h : ItV H v x) : ItV H' v x := by
  obtain ⟨q, rfl, e⟩ := h
  exact ⟨q, rfl, k _ _ e trivial⟩
theorem PileT.keep {H H' : Hp} {v : V} {p : Pile} (k : KeepF H H') (h : PileT H v p) : PileT H' v p := by
  obtain ⟨a, ws, rfl, e, r⟩ := h
  exact ⟨a, ws, rfl, k _ _ e trivial, pair_mono (fun _ _ q => q.keep k) r⟩
theorem LieT.keep {H H' : Hp} {a : Addr} {l : List Pile} (k : KeepF H H') (h : LieT H a l) : LieT H' a l := by
  obtain ⟨ws, e, r⟩ := h
  exact ⟨ws, k _ _ e trivial, pair_mono (fun _ _ q => q.keep k) r⟩
theorem EndV.keep {H H' : Hp} {v : V} {o : Option Stay} (k : KeepF H H') (h : EndV H v o) : EndV H' v o := by
  cases o with
  | none => exact h
  | some x =>
    obtain ⟨p, rfl, e⟩ := h
    exact ⟨p, rfl, k _ _ e trivial⟩
theorem MoAt.keep {C : Addr} {H H' : Hp} {a : Addr} {m : Mo} (k : KeepF H H') (h : MoAt C H a m) : MoAt C H' a m := by
  obtain ⟨dx, po, pl, ve, h1, h2, h3, h4⟩ := h
  exact ⟨dx, po, pl, ve, k _ _ h1 rfl, k _ _ h2 trivial, h3.keep k, h4.keep k⟩
theorem RsV.same {H H' : Hp} {v : V} {r : Rs} (s : Same H H') (h : RsV H v r) : RsV H' v r := by
  cases r with
  | num n => exact h
  | gone xs =>
    obtain ⟨l, rfl, e⟩ := h
    exact ⟨l, rfl, s _ _ e⟩
end Lv
set_option Elab.async false
set_option linter.all false
set_option maxRecDepth 100000
set_option maxHeartbeats 2000000
/-! t[:j:-1] of a tuple; xs[i:] = ys. -/
namespace Sho
open PySem PySem.Spec PyProof.Rows L2 HT
theorem adjust_down {j n : Nat} (h : j < n) : Builtin.Slice.sliceAdjust none (some (j : Int)) (-1) (n : Int) = ((n : Int) - 1, (j : Int)) := by
  unfold Builtin.Slice.sliceAdjust
  have e1 : ¬ ((j : Int) < 0) := by omega
  have e2 : min (j : Int) ((n : Int) - 1) = j := by omega
  simp only [show ((-1 : Int) < 0) by decide, if_true, e1, if_false, e2]
theorem places_down {j n : Nat} (h : j < n) : Builtin.Slice.slicePlaces ((n : Int) - 1) (j : Int) (-1) = n - 1 - j := by
  unfold Builtin.Slice.slicePlaces
  rw [if_neg (by decide : ¬ ((-1 : Int) > 0))]
  have e : (((n : Int) - 1 - j - 1) / (- -1)) = (n : Int) - 1 - j - 1 := by rw [show (- -1 : Int) = 1 by decide, Int.ediv_one]
  rw [e]
  split <;> omega
theorem pick_down (xs : Array Value) {j : Nat} (h : j < xs.size) : ((List.range (xs.size - 1 - j)).filterMap fun (m : Nat) => xs[((xs.size : Int) - 1 + (m : Int) * (-1)).toNat]?) = (xs.toList.drop (j + 1)).reverse := by
  have e1 : ((List.range (xs.size - 1 - j)).filterMap fun (m : Nat) => xs[((xs.size : Int) - 1 + (m : Int) * (-1)).toNat]?) = ((List.range (xs.size - 1 - j)).map fun k => xs.size - 1 - j - 1 - k).filterMap fun m => xs[(j + 1) + m]? := by
    rw [List.filterMap_map]
    have key : ∀ l : List Nat, (∀ m ∈ l, m < xs.size - 1 - j) → l.filterMap (fun (m : Nat) => xs[((xs.size : Int) - 1 + (m : Int) * (-1)).toNat]?) = l.filterMap ((fun m => xs[(j + 1) + m]?) ∘ fun k => xs.size - 1 - j - 1 - k) := fun l => by
      induction l with
      | nil => exact fun _ => rfl
      | cons m l ih =>
        intro hl
        have hm := hl m List.mem_cons_self
        rw [List.filterMap_cons, List.filterMap_cons, ih fun k hk => hl k (List.mem_cons_of_mem _ hk)]
        have e : ((xs.size : Int) - 1 + (m : Int) * (-1)).toNat = (j + 1) + (xs.size - 1 - j - 1 - m) := by omega
        rw [e]
        rfl
    exact key _ fun m hm => List.mem_range.mp hm
  have e2 := pick_run xs (j + 1) (xs.size - 1 - j)
  rw [List.filterMap_map] at e2
  rw [e1, PySem.W.krv_range, List.filterMap_reverse]
  have e3 : ((fun x => xs[x]?) ∘ fun x => (j + 1) + x) = fun m => xs[(j + 1) + m]? := rfl
  rw [e3] at e2
  rw [e2, List.take_of_length_le (by rw [List.length_drop, Array.length_toList]; omega)]
section
variable {prog : Program} {w : World} {A : Around} {E : Value → Shared → Prop} {s : Shared}
theorem applied_down {sl : Addr} {vu vs : Value} {j n : Nat} {Q : Int × Int × Nat → Shared → Prop} (hs : s.heap.IsSliceOf sl .none vu vs) (pu : IsPart vu (some (j : Int))) (ps : IsPart vs (some (-1))) (hj : j < n)
    (h : Q ((n : Int) - 1, -1, n - 1 - j) s) : wpAny (model prog w) A (Builtin.Slice.sliceApplied (.ref sl) (pure (n : Int))) Q E s := by
  obtain ⟨os, hos, _, hds⟩ := id hs
  unfold Builtin.Slice.sliceApplied Builtin.Slice.sliceFields
  refine wpAny_bind (wpAny_bind (wpAny_field hos hds (x := .none) rfl (wpAny_bind (wpAny_field hos hds (x := vu) rfl (wpAny_bind (wpAny_field hos hds (x := vs) rfl (wpAny_pure ?_)))))))
  refine wpAny_bind (slicePart_ ps ?_)
  show wpAny _ _ (if ((-1 : Int) == 0) = true then _ else _) _ _ s
  rw [if_neg (show ¬ (((-1 : Int) == 0) = true) by decide)]
  refine wpAny_bind (slicePart_none (wpAny_bind (slicePart_ pu (wpAny_bind (wpAny_pure ?_)))))
  show wpAny _ _ (match Builtin.Slice.sliceAdjust none (some (j : Int)) (-1) (n : Int) with | (lo, hi) => pure (lo, (-1 : Int), Builtin.Slice.slicePlaces lo hi (-1))) _ _ s
  rw [adjust_down hj]
  show wpAny _ _ (pure ((n : Int) - 1, (-1 : Int), Builtin.Slice.slicePlaces ((n : Int) - 1) (j : Int) (-1))) _ _ s
  rw [places_down hj]
  exact wpAny_pure h
theorem getItem_tuple_down {t sl : Addr} {items : Array Value} {vu vs : Value} {j : Nat} {Q : Value → Shared → Prop} (ht : IsTup s.heap t items) (hs : s.heap.IsSliceOf sl .none vu vs) (pu : IsPart vu (some (j : Int))) (ps : IsPart vs (some (-1))) (hj : j < items.size) (hz : items.size ≤ sizeLine)
    (h : Q (.ref s.heap.objs.size) { s with heap := s.heap.push { cls := .type "tuple", data := .seq (items.toList.drop (j + 1)).reverse.toArray } }) : wpAny (model prog w) A (getItem (.ref t) (.ref sl)) Q E s := by
  have hok : sizeOk (.seq (items.toList.drop (j + 1)).reverse.toArray) := by
    show (items.toList.drop (j + 1)).reverse.toArray.size ≤ sizeLine
    rw [List.size_toArray, List.length_reverse, List.length_drop, Array.length_toList]
    omega
  obtain ⟨os, hos, hcs, _⟩ := id hs
  have hT : s.TypeIs (.ref sl) "slice" := ⟨os, hos, hcs⟩
  unfold getItem
  try with_reducible refine wpAny_holding ?_
  first | (refine wpAny_bind (wpAny_pure ?_)) | skip
  refine wpAny_bind (wpAny_sequenceKey ht.typeIs (show _ by decide) ?_)
  refine wpAny_bind (wpAny_callSpecial?_slot (name := Str.ofString "__getitem__") ht.typeIs PyProof.Rows.slot_tuple_getitem (wpAny_call_entry PyProof.Rows.slot_tuple_getitem ht.typeIs entry_tuple_getitem ?_ (args_tuple_getitem _ _)))
  show wpAny _ _ (Builtin.Tuple.tupleItemsOf (.ref t) >>= _) _ _ s
  refine wpAny_bind (tupleItemsOf_ ht (wpAny_bind (wpAny_typeOf hT ?_)))
  rw [if_pos (by decide)]
  refine wpAny_bind (applied_down hs pu ps hj ?_)
  show wpAny _ _ (if (((items.size : Int) - 1 == 0) && (-1 : Int) == 1 && (items.size - 1 - j) == items.size) = true then _ else _) _ _ s
  rw [if_neg (by rw [show ((-1 : Int) == 1) = false by decide, Bool.and_false, Bool.false_and]; exact Bool.false_ne_true)]
  have e := pick_down items hj
  rw [e]
  first
    | exact wpAny_bind (m := Builtin.Tuple.tupleExact _) (wpAny_newObj_type (wpAny_pure ⟨_, rfl, wpAny_pure h⟩) hok)
    | exact wpAny_bind (m := Builtin.Tuple.tupleExact _) (wpAny_newObj_type (wpAny_bind (wpAny_pure (wpAny_pure ⟨_, rfl, wpAny_pure h⟩))) hok)
    | exact wpAny_bind (wpAny_bind (m := Builtin.Tuple.tupleExact _) (wpAny_newObj_type (wpAny_pure (wpAny_pure ⟨_, rfl, wpAny_pure h⟩)) hok))
    | exact wpAny_bind (wpAny_bind (m := Builtin.Tuple.tupleExact _) (wpAny_newObj_type (wpAny_pure ⟨_, rfl, wpAny_pure h⟩) hok))
end
/-- te: the tuple; th: the place at which it ends; ts: the step, which must be -1 -/
def tDown (K : PySem.W.Frag) (te : TE) (th ts : TO) : TE := fun σ H Q => te σ H fun x H1 => th σ H1 fun o1 H2 => ts σ H2 fun o H3 => o = some (-1) ∧ ∃ a xs j, x = .ref a ∧ o1 = some ((j : Nat) : Int) ∧ SqT K H3 a xs ∧ j < xs.length ∧ ∀ p, H3 p = none → Q (.ref p) (upd H3 p (.tup (xs.drop (j + 1)).reverse))
theorem pe_down {X : Cx} {e hi st : Expr} {te : TE} {th ts : TO} {pp pos : Pos} (he : PE X e te) (hh : PO X (some hi) th) (hst : PO X (some st) ts) : PE X (.Subscript e (.Slice none (some hi) (some st) pp) pos) (tDown X.K te th ts) := by
  refine ⟨fun pins s σ H Q I h => Subscript_ (thn (he.run pins s σ H _ I h) fun v sa ⟨x, Ha, Ia, ra, qa⟩ => ?_)⟩
  refine wpAny_Slice (thn (po_none.run pins sa σ Ha (fun o G => o = none ∧ G = Ha) Ia ⟨rfl, rfl⟩) fun va sb ⟨oa, Hb, Ib, pa, za, zb⟩ => ?_)
  obtain rfl := za
  obtain rfl := zb
  refine thn (hh.run pins sb σ Hb _ Ib qa) fun vb sc ⟨ob, Hc, Ic, pb, qc⟩ => thn (hst.run pins sc σ Hc _ Ic qc) fun vc sd ⟨oc, Hd, Id, pc, zo, a, xs, j, zx, zj, hx, hj, q⟩ => ?_
  subst zo zx zj
  cases ra
  cases pa
  have Ie : Inv X pins σ Hd { sd with heap := sd.heap.push { cls := .type "slice", data := .fields #[.none, vb, vc] } } := Id.kept (t' := sd.toks) fun _ _ z => Heap.get?_push_of_some _ z
  obtain ⟨its, rv, pl, hz⟩ := Ie.tuple hx
  have len := rv.length
  show wpAny (model X.prog X.w) X.A (subscriptTail e (.Slice none (some hi) (some st) pp) (.ref a) (.ref sd.heap.objs.size)) (EP X pins σ Q) X.xe _
  refine tail_any (ops := [.ref a, .ref sd.heap.objs.size]) pl.typeIs (PyProof.Rows.slot_tuple_getitem.lookup) ?_ (by with_unfolding_all rfl)
  refine getItem_tuple_down pl (Heap.IsSliceOf.new _ .none vb vc) pb pc (by rw [List.size_toArray, ← len]; exact hj) (by rw [List.size_toArray, ← len]; exact hz) ?_
  refine ⟨.ref _, _, Ie.laid (t' := sd.toks) (o := .tup (xs.drop (j + 1)).reverse) (fun _ _ z => Heap.get?_push_of_some _ z) (Nat.le_refl _) ⟨by rw [List.length_reverse, List.length_drop]; omega, _, (rv.drop (j + 1)).reverse, ⟨_, Heap.get?_push_size _ rfl, rfl, _, rfl⟩⟩, rfl, q _ (Ie.hok.fresh (Nat.le_refl _))⟩
/-! ### xs[i:] = ys -/
theorem bounds_tail {a n : Nat} (h : a ≤ n) : sliceBounds (some (a : Int)) none none n = ((a : Int), (n : Int), 1) := by
  simp only [sliceBounds, Option.getD_none]
  have h1 : ¬ ((a : Int) < 0) := by omega
  simp only [h1, if_false, show (1 : Int) > 0 by decide, if_true]
  congr 1
  omega
theorem splice_tail (xs ys : List Value) (a : Nat) : xs.toArray.extract 0 a ++ ys.toArray ++ xs.toArray.extract xs.length xs.toArray.size = (xs.take a ++ ys).toArray := by
  apply Array.toList_inj.mp
  simp
section
variable {prog : Program} {w : World} {A : Around} {E : Value → Shared → Prop} {s : Shared}
theorem setItem_tail {l b sl : Addr} {items new : Array Value} {n n2 : Nat} {vl : Value} {a : Nat} {Q : Unit → Shared → Prop} (e : s.heap.get? l = some { cls := .type "list", data := .seq items n }) (e2 : s.heap.get? b = some { cls := .type "list", data := .seq new n2 }) (hne : l ≠ b)
    (hs : s.heap.IsSliceOf sl vl .none .none) (pl : IsPart vl (some (a : Int))) (ha : a ≤ items.size) (hsz : items.size + new.size ≤ sizeLine)
    (h : Q () { s with heap := s.heap.update l (Obj.mapSeq fun xs => xs.extract 0 a ++ new ++ xs.extract items.size xs.size) }) : wpAny (model prog w) A (setItem (.ref l) (.ref sl) (.ref b)) Q E s := by
  have hl : s.heap.IsList l items := PySem.IsL.isList e
  have hb : s.heap.IsList b new := PySem.IsL.isList e2
  obtain ⟨os, hos, hcs, hds⟩ := id hs
  have hT : s.TypeIs (.ref sl) "slice" := ⟨os, hos, hcs⟩
  have hsame : Builtin.List.listSameRef (.ref l) (.ref b) = false := by unfold Builtin.List.listSameRef; exact beq_eq_false_iff_ne.mpr hne
  have hmax : (max (a : Int) (items.size : Int)).toNat = items.size := by omega
  have hz' : ((fun xs : Array Value => xs.extract 0 a ++ new ++ xs.extract items.size xs.size) items).size ≤ sizeLine + 1 := by simp only [Array.size_append, Array.size_extract]; omega
  unfold setItem
  try with_reducible refine wpAny_holding ?_
  first | (refine wpAny_bind (wpAny_pure ?_)) | skip
  refine wpAny_bind (wpAny_sequenceKey hl.typeIs (show _ by decide) (wpAny_bind (wpAny_callSpecial?_slot (name := Str.ofString "__setitem__") hl.typeIs slot_list_setitem (wpAny_call_entry slot_list_setitem hl.typeIs entry_list_setitem ?_ (args_list_setitem _ _ _)))))
  show wpAny _ _ (Builtin.List.listSubscript? (.ref sl) >>= _) _ _ s
  refine wpAny_bind ?_
  unfold Builtin.List.listSubscript?
  refine wpAny_bind (wpAny_specialOf hT slice_no_index ?_)
  simp only [Option.isNone_none, if_true]
  refine wpAny_pure ?_
  show wpAny _ _ (typeOf (.ref sl) >>= _) _ _ s
  refine wpAny_bind (wpAny_typeOf hT ?_)
  first | (rw [if_neg (by decide)]) | (refine PySem.W.KFB.if_not (by decide) ?_)
  rw [listSliceParts_eq]
  refine wpAny_bind (wpAny_bind (wpAny_field hos hds (x := .none) rfl (wpAny_bind (wpAny_listPart (k := none) .none ?_))))
  rw [if_neg (show ¬ ((rawPart none == rawInt 0) = true) from Bool.false_ne_true)]
  refine wpAny_bind (wpAny_field hos hds (x := vl) rfl (wpAny_bind (wpAny_listPart pl (wpAny_bind (wpAny_field hos hds (x := .none) rfl (wpAny_bind (wpAny_listPart (k := none) .none (wpAny_pure ?_))))))))
  first | (simp only [hsame, Bool.false_eq_true, if_false]) | (refine PySem.W.KFB.if_not hsame ?_) | (dsimp only; rw [if_neg (by rw [hsame]; exact Bool.false_ne_true)])
  refine wpAny_bind (m := Builtin.List.listAllItems (.ref b) "must assign iterable to extended slice") (?_ : wpAny _ _ _ _ _ _)
  unfold Builtin.List.listAllItems
  refine wpAny_bind (wpAny_typeOf hb.typeIs (?_ : wpAny _ _ _ _ _ _))
  first | (refine PySem.W.KFB.if_so (by decide) ?_) | (rw [if_pos (by decide)]) | (simp only [beq_self_eq_true, Bool.true_or, if_true])
  unfold Builtin.List.listItems
  refine wpAny_bind (wpAny_seqItems e2 rfl (wpAny_pure (wpAny_bind (wpAny_bind (wpAny_seqItems e rfl (wpAny_pure ?_))))))
  refine wpAny_bind (wpAny_of_eq ((sliceIndices_raw (some (a : Int)) none none items.size (by simp)).trans (congrArg (pure : Int × Int × Int → Sem (Int × Int × Int)) (bounds_tail ha))) ?_)
  show wpAny _ _ (if ((1 : Int) == 1) = true then _ else _) _ _ s
  rw [if_pos (show ((1 : Int) == 1) = true by decide)]
  refine wpAny_bind (wpAny_rule ?_)
  first | (simp only [notLongL hsz, Bool.false_eq_true, if_false]) | (refine PySem.W.KFB.if_not (notLongL hsz) ?_)
  first | (refine wpAny_bind (wpAny_pure ?_)) | skip
  show wpAny _ _ (updateSeq l (fun xs => xs.extract 0 ((a : Int)).toNat ++ new ++ xs.extract (max (a : Int) (items.size : Int)).toNat xs.size) >>= _) _ _ s
  rw [hmax, Int.toNat_natCast]
  refine wpAny_bind (wpAny_updateSeq (hz := Nat.le_trans (Nat.le_add_right _ _) hsz) (_hz' := hz') e rfl (wpAny_bind (wpAny_letGo ?_)))
  first | exact wpAny_bind (wpAny_pure (wpAny_pure ⟨.none, rfl, wpAny_pure h⟩)) | exact wpAny_pure ⟨.none, rfl, wpAny_pure h⟩
end
/-- xs[i:] = v -/
def gTail (to : TE) (ti : TO) : TG := fun v σ H Q => to σ H fun x H1 => ti σ H1 fun o H2 => ∃ l b xs ys a, x = .ref l ∧ v = .ref b ∧ o = some ((a : Nat) : Int) ∧ H2 l = some (.lst xs) ∧ H2 b = some (.lst ys) ∧ l ≠ b ∧ a ≤ xs.length ∧ xs.length + ys.length ≤ sizeLine ∧
  Q σ (upd H2 l (.lst (xs.take a ++ ys)))
theorem pg_tail {X : Cx} {o i : Expr} {to : TE} {ti : TO} {p2 pos : Pos} (ho : PE X o to) (hi : PO X (some i) ti)
    (ha : ∀ v, assign (.Subscript o (.Slice (some i) none none p2) pos) X.env v = (do
      let ov ← holding [v] (eval o X.env)
      let iv ← holding [v, ov] (eval (.Slice (some i) none none p2) X.env)
      standAt pos
      holding [v, ov, iv] (setItem ov iv v)
      release [iv, v, ov] []) := by intro _; rfl) : PG X (.Subscript o (.Slice (some i) none none p2) pos) (gTail to ti) := by
  refine ⟨fun pins s σ H v u Q I r h => ?_⟩
  rw [ha]
  refine wpAny_bind (wpAny_holding (thn (ho.run pins s σ H _ I h) fun ov s1 ⟨x, H1, I1, r1, q1⟩ => wpAny_bind (wpAny_holding ?_)))
  refine wpAny_Slice (thn (hi.run pins s1 σ H1 _ I1 q1) fun va s2 ⟨oa, H2, I2, pa, l, b, xs, ys, a, ex, ev, eo, hl, hb, ne, hle, hz, q⟩ => ?_)
  subst ex ev eo
  cases r1
  cases r
  rw [evalPart_none]
  refine wpAny_pure (wpAny_pure ?_)
  have I3 : Inv X pins σ H2 { s2 with heap := s2.heap.push { cls := .type "slice", data := .fields #[va, .none, .none] } } := I2.kept (t' := s2.toks) fun _ _ z => Heap.get?_push_of_some _ z
  obtain ⟨z, its, n, rv, _, e⟩ := I3.lstM hl
  obtain ⟨z2, its2, n2, rv2, _, e2⟩ := I3.lstM hb
  have l1 := rv.length
  have l2 := rv2.length
  refine wpAny_bind (wpAny_standAt (wpAny_bind (wpAny_holding ?_)))
  refine setItem_tail (a := a) e e2 ne (Heap.IsSliceOf.new _ va .none .none) pa (by rw [List.size_toArray, ← l1]; exact hle) (by rw [List.size_toArray, List.size_toArray, ← l1, ← l2]; exact hz) ?_
  refine wpAny_release ⟨σ, _, ?_, q⟩
  refine I3.lset (its' := its.take a ++ its2) (t' := s2.toks) hl e ?_ ((rv.take a).append rv2) ?_
  · have := splice_tail its its2 a
    rw [List.size_toArray]
    exact this
  · rw [List.length_append, List.length_take]
    omega
end Sho
set_option Elab.async false
set_option linter.all false
set_option maxRecDepth 100000
/-! One lemma for the loops of all comprehensions. -/
namespace Shg
open PySem L2
theorem loop_any {J : It} {n : Nat} {G : Hp → Prop} {Y : Nat → Hp → V → Hp → Prop} (w : Walk J n G Y) {H0 : Hp} {Qd : Hp → Prop} {B : V → Hp → (Hp → Prop) → Prop} (Pv : Nat → Hp → Prop) (h0 : Pv 0 H0) (hG : ∀ i H, i ≤ n → Pv i H → G H)
    (hs : ∀ i x H H', i < n → Pv i H → Y i H x H' → B x H' (Pv (i + 1))) (hd : ∀ H, Pv n H → Qd H) :
    ∃ W : Nat → Nat → Hp → Prop, (∃ m, W 0 m H0) ∧ ∀ i m H, W i m H →
      (J.stop i H ∧ Qd H) ∨ (J.go i H ∧ ∃ Nx : Hp → Prop, (∀ H', Nx H' → ∃ m', m' < m ∧ W (i + 1) m' H') ∧ ∀ x H', J.yld i H x H' → B x H' Nx) := by
  refine ⟨fun i m H => m = n - i ∧ i ≤ n ∧ Pv i H, ⟨n, (Nat.sub_zero n).symm, Nat.zero_le _, h0⟩, ?_⟩
  rintro i m H ⟨rfl, hi, p⟩
  have q := hG i H hi p
  rcases Nat.lt_or_ge i n with hlt | hge
  · exact .inr ⟨w.goes i H hlt q, Pv (i + 1), fun H' p' => ⟨n - (i + 1), by omega, rfl, hlt, p'⟩, fun x H' y => hs i x H H' hlt p (w.yields i H x H' hlt q y)⟩
  · obtain rfl : i = n := by omega
    exact .inl ⟨w.stops H q, hd H p⟩
end Shg
set_option Elab.async false
set_option linter.all false
set_option maxRecDepth 100000
set_option maxHeartbeats 4000000
set_option autoImplicit false
/-! Moment.__init__; _is_there; _with_pile. -/
namespace Lv
open PySem L2 Sho NdefX Shg Sh1
/-- what the written part says of Moment -/
structure MomC (K : PySem.W.Frag) (mg : Str → Option Value) (C fI : Addr) : Prop where
  gm : mg "Moment" = some (.ref C)
  cl : Cls K C
  n1 : NoAttr K C "operation"
  n2 : NoAttr K C "tick"
  n3 : NoAttr K C "lying"
  n4 : NoAttr K C "lifted"
  n5 : NoAttr K C "ended"
  mkr : Mk K C fI
abbrev moF (v1 v2 v3 v4 v5 : V) : List (Str × V) := [("operation", v1), ("tick", v2), ("lying", v3), ("lifted", v4), ("ended", v5)]
theorem lk_op (a b c d e : V) : List.lookup ("operation" : Str) (moF a b c d e) = some a := by simp [List.lookup]
theorem lk_tick (a b c d e : V) : List.lookup ("tick" : Str) (moF a b c d e) = some b := by
  have h : (("tick" : Str) == ("operation" : Str)) = false := by decide +kernel
  simp [List.lookup, h]
theorem lk_lying (a b c d e : V) : List.lookup ("lying" : Str) (moF a b c d e) = some c := by
  have h1 : (("lying" : Str) == ("operation" : Str)) = false := by decide +kernel
  have h2 : (("lying" : Str) == ("tick" : Str)) = false := by decide +kernel
  simp [List.lookup, h1, h2]
theorem lk_lifted (a b c d e : V) : List.lookup ("lifted" : Str) (moF a b c d e) = some d := by
  have h1 : (("lifted" : Str) == ("operation" : Str)) = false := by decide +kernel
  have h2 : (("lifted" : Str) == ("tick" : Str)) = false := by decide +kernel
  have h3 : (("lifted" : Str) == ("lying" : Str)) = false := by decide +kernel
  simp [List.lookup, h1, h2, h3]
theorem lk_ended (a b c d e : V) : List.lookup ("ended" : Str) (moF a b c d e) = some e := by
  have h1 : (("ended" : Str) == ("operation" : Str)) = false := by decide +kernel
  have h2 : (("ended" : Str) == ("tick" : Str)) = false := by decide +kernel
  have h3 : (("ended" : Str) == ("lying" : Str)) = false := by decide +kernel
  have h4 : (("ended" : Str) == ("lifted" : Str)) = false := by decide +kernel
  simp [List.lookup, h1, h2, h3, h4]
theorem put1 (a : V) : putF "operation" a [] = [(("operation" : Str), a)] := rfl
theorem put2 (a b : V) : putF "tick" b [(("operation" : Str), a)] = [(("operation" : Str), a), (("tick" : Str), b)] := rfl
theorem put3 (a b c : V) : putF "lying" c [(("operation" : Str), a), (("tick" : Str), b)] = [(("operation" : Str), a), (("tick" : Str), b), (("lying" : Str), c)] := rfl
theorem put4 (a b c d : V) : putF "lifted" d [(("operation" : Str), a), (("tick" : Str), b), (("lying" : Str), c)] = [(("operation" : Str), a), (("tick" : Str), b), (("lying" : Str), c), (("lifted" : Str), d)] := rfl
theorem put5 (a b c d e : V) : putF "ended" e [(("operation" : Str), a), (("tick" : Str), b), (("lying" : Str), c), (("lifted" : Str), d)] = moF a b c d e := rfl
section
variable {P : Program} {w : World} {K : PySem.W.Frag} {mg : Str → Option Value} {base : Heap}
abbrev NMI : List Str := ["self", "operation", "tick", "lying", "lifted", "ended"]
def spMoInit (K : PySem.W.Frag) (mg : Str → Option Value) (C fI : Addr) : Sp := fun vs H Q _ => ∃ (x dx : Addr) (v1 v2 v3 v4 v5 : V), vs = [.ref x, v1, v2, v3, v4, v5] ∧ MomC K mg C fI ∧ H x = some (.ins C dx []) ∧
  ∀ H', H' x = some (.ins C dx (moF v1 v2 v3 v4 v5)) → (∀ b o, H b = some o → b ≠ x → H' b = some o) → Q .non H'
theorem scMoInit : FnScope NMI NMI (defScope sMoment_Init) := ⟨rfl, rfl, rfl, by decide +kernel, rfl, by decide +kernel, by decide +kernel⟩
theorem ok_moInit {f C : Addr} {fd : FuncData} (F : Fun K "__init__" "Moment.__init__" sMoment_Init f fd) : FnOk P w K mg base CX0 1 f fd NMI (spMoInit K mg C f) := by
  refine F.ok scMoInit (fun vs H Q E h => ?_) (fun cdv A outer s H vs Q E hr h => ?_)
  · obtain ⟨x, dx, v1, v2, v3, v4, v5, rfl, _⟩ := h
    rfl
  · obtain ⟨x, dx, v1, v2, v3, v4, v5, rfl, MC, hx, k⟩ := h
    refine ⟨_, pss_cons (ps_fld (pv 0) (pv 1) rfl) (pss_cons (ps_fld (pv 0) (pv 2) rfl) (pss_cons (ps_fld (pv 0) (pv 3) rfl) (pss_cons (ps_fld (pv 0) (pv 4) rfl) (pss_one (ps_fld (pv 0) (pv 5) rfl))))), ?_⟩
    refine ⟨_, rfl, _, rfl, x, C, dx, _, rfl, hx, MC.cl, MC.n1, by decide, ?_⟩
    rw [put1]
    refine ⟨_, rfl, _, rfl, x, C, dx, _, rfl, upd_same, MC.cl, MC.n2, by show 1 < 1000; decide, ?_⟩
    rw [put2]
    refine ⟨_, rfl, _, rfl, x, C, dx, _, rfl, upd_same, MC.cl, MC.n3, by show 2 < 1000; decide, ?_⟩
    rw [put3]
    refine ⟨_, rfl, _, rfl, x, C, dx, _, rfl, upd_same, MC.cl, MC.n4, by show 3 < 1000; decide, ?_⟩
    rw [put4]
    refine ⟨_, rfl, _, rfl, x, C, dx, _, rfl, upd_same, MC.cl, MC.n5, by show 4 < 1000; decide, ?_⟩
    rw [put5]
    refine k _ upd_same fun b o e n => ?_
    rw [upd_ne n, upd_ne n, upd_ne n, upd_ne n, upd_ne n]
    exact e
/-- a moment is made -/
theorem mo_new {C fI : Addr} {H : Hp} {σ : L2.St} {t : TA} {E : XK} {Q : VK} (MC : MomC K mg C fI) (v1 v2 v3 v4 v5 : V) (H1 : Hp) (ht : ∀ R : List V → Hp → Prop, R [v1, v2, v3, v4, v5] H1 → t σ H R)
    (k : ∀ x dx H', Same H1 H' → H1 x = none → H' x = some (.ins C dx (moF v1 v2 v3 v4 v5)) → Q (.ref x) H') : tMake C (spMoInit K mg C fI) [] E t σ H Q := by
  refine ht _ fun x dx hx hdx ne => ?_
  have s1 : Same H1 (upd (upd H1 dx (.own x)) x (.ins C dx [])) := fun b o e => by
    rw [upd_ne (ne_of_none e hx), upd_ne (ne_of_none e hdx)]
    exact e
  refine ⟨x, dx, v1, v2, v3, v4, v5, rfl, MC, upd_same, fun H' e1 e2 => ⟨rfl, ?_⟩⟩
  exact k x dx H' (fun b o e => e2 b o (s1 b o e) (ne_of_none e hx)) hx e1
theorem mo_new' {C fI : Addr} {H : Hp} {σ : L2.St} {t : TA} {E : XK} {Q : VK} (MC : MomC K mg C fI) {P : List V → Hp → Prop} (ht : ∀ R : List V → Hp → Prop, (∀ vs H1, P vs H1 → R vs H1) → t σ H R)
    (k : ∀ vs H1, P vs H1 → ∀ x dx H', Same H1 H' → H1 x = none → ∀ v1 v2 v3 v4 v5, vs = [v1, v2, v3, v4, v5] → H' x = some (.ins C dx (moF v1 v2 v3 v4 v5)) → Q (.ref x) H') (h5 : ∀ vs H1, P vs H1 → ∃ v1 v2 v3 v4 v5, vs = [v1, v2, v3, v4, v5]) : tMake C (spMoInit K mg C fI) [] E t σ H Q := by
  refine ht _ fun vs H1 p => ?_
  obtain ⟨v1, v2, v3, v4, v5, rfl⟩ := h5 vs H1 p
  exact mo_new (σ := σ) (H := H1) (t := fun _ _ R => R [v1, v2, v3, v4, v5] H1) MC v1 v2 v3 v4 v5 H1 (fun R hR => hR) fun x dx H' s hx e => k _ _ p x dx H' s hx _ _ _ _ _ rfl e
/-! ### _is_there -/
def spThere (K : PySem.W.Frag) (mg : Str → Option Value) (C fI : Addr) : Sp := fun vs H Q _ => ∃ (a : Addr) (n : Str) (m : Mo), vs = [.ref a, .str n] ∧ MomC K mg C fI ∧ MoAt C H a m ∧ Fit 1000 m ∧ ∀ H', Same H H' → Q (.bl (there m.lying n)) H'
abbrev NTH : List Str := ["moment", "name", "pile", "guest", "come"]
theorem scThere : FnScope NTH ["moment", "name"] (defScope sIsThere) := ⟨rfl, rfl, rfl, by decide +kernel, rfl, by decide +kernel, by decide +kernel⟩
/-- the tests, pile by pile -/
def sees (n : Str) (p : Pile) : List Bool := p.map fun x => decide (n = x.1)
theorem there_eq (l : List Pile) (n : Str) : there l n = (l.flatMap (sees n)).any id := by
  unfold there sees
  rw [List.any_flatMap]
  congr 1
  funext p
  rw [List.any_map]
  rfl
theorem flat_low {l : List Pile} {n : Str} (h : ∀ p ∈ l, p.length ≤ 1000) : (l.flatMap (sees n)).length ≤ 1000 * l.length := by
  induction l with
  | nil => simp
  | cons p r ih =>
    rw [List.flatMap_cons, List.length_append, List.length_cons]
    have h1 := h p List.mem_cons_self
    have h2 := ih fun q hq => h q (List.mem_cons_of_mem _ hq)
    have h3 : (sees n p).length = p.length := List.length_map ..
    omega
theorem ok_there {f C fI : Addr} {fd : FuncData} (F : Fun K "_is_there" "_is_there" sIsThere f fd) (B : Shg.Blt mg) : FnOk P w K mg base CX0 1 f fd ["moment", "name"] (spThere K mg C fI) := by
  refine F.ok scThere (fun vs H Q E h => ?_) (fun cdv A outer s H vs Q E hr h => ?_)
  · obtain ⟨a, n, m, rfl, _⟩ := h
    rfl
  · obtain ⟨a, n, m, rfl, MC, ⟨dx, po, pl, ve, ha, hpo, ⟨ws, hpl, pw⟩, hve⟩, fit, k⟩ := h
    have nd := scThere.nd
    refine ⟨_, pss_one (ps_ret (pe_callB (cr_any rfl) (by rfl) B.any (by decide +kernel) (pa_cons (pe_lc2 (own := [("pile", 2), ("guest", 3), ("come", 4)]) (vs1 := [3, 4]) (wi1 := iTup K (tVar 2)) (g1 := gTup K 2 (gCons (gName 3) (gCons (gName 4) gNil))) (g := gName 2) (tt := tYes) (tt1 := tYes) rfl nd
        (pi_tup (pe_fld (pv 0) rfl)) (blkOk_by (own := [("pile", 2), ("guest", 3), ("come", 4)]) (N := NTH) (sc := defScope sIsThere) (by decide +kernel)) (by decide)
        (fun _ _ _ _ _ => pg_name (i := 2) nd rfl (Or.inl rfl)) (fun _ _ _ _ _ => pts_nil) (fun _ _ _ _ _ => pi_tup (pv 2))
        (fun _ _ _ _ _ => pg_tup rfl (pgs_cons (pg_name (i := 3) nd rfl (Or.inl rfl)) (pgs_cons (pg_name (i := 4) nd rfl (Or.inl rfl)) pgs_nil))) (fun _ _ _ _ _ => pts_nil)
        (fun _ _ _ _ _ => pe_cmpR op_eq (pv 1) (pv 3) (nomark _))) pa_nil))), ?_⟩
    refine ⟨_, rfl, a, C, dx, _, .ref pl, rfl, ha, MC.cl, MC.n3, lk_lying .., pl, rfl, ⟨_, SqT.of hpl⟩, fun D hD => ?_⟩
    have nsame : ∀ {H1 : Hp} {o : HO}, Same H H1 → Same H (upd H1 D o) := fun s1 b u e => by rw [upd_ne (ne_of_none e hD)]; exact s1 b u e
    have lw := pair_len pw
    refine loop_any (walk_tup (xs := ws)) (fun i H' => Same H H' ∧ H' D = some (.lst (((m.lying.take i).flatMap (sees n)).map V.bl))) ⟨nsame (Same.refl _), upd_same⟩ (fun _ _ _ q => SqT.of (q.1 _ _ hpl)) (fun i x H1 H2 hi s1 y => ?_) fun H1 s1 => ?_
    · obtain ⟨s1, e1⟩ := s1
      obtain ⟨rfl, ey⟩ := y
      obtain ⟨p, hp, b, us, rfl, hb, pu⟩ := pair_get pw ey
      refine ⟨rfl, _, rfl, b, rfl, ⟨_, SqT.of (s1 _ _ hb)⟩, ?_⟩
      have lu := pair_len pu
      have hpm := List.mem_of_getElem? hp
      refine loop_any (walk_tup (xs := us)) (fun j H' => Same H H' ∧ H' D = some (.lst (((m.lying.take i).flatMap (sees n) ++ sees n (p.take j)).map V.bl))) ⟨s1, by rw [List.take_zero]; show _ = some (HO.lst (List.map V.bl (_ ++ []))); rw [List.append_nil]; exact e1⟩ (fun j H' _ q => SqT.of (q.1 _ _ hb)) (fun j x H3 H4 hj s3 y => ?_) fun H3 s3 => ?_
      · obtain ⟨s3, e3⟩ := s3
        obtain ⟨rfl, ey2⟩ := y
        obtain ⟨z, hz, t, rfl, ht⟩ := pair_get pu ey2
        refine ⟨t, _, rfl, SqT.of (s3 _ _ ht), rfl, _, _, rfl, _, _, rfl, rfl, rfl, ?_⟩
        refine ⟨_, rfl, _, rfl, rfl, _, e3, ?_, ?_⟩
        · have h1 := flat_low (n := n) (l := m.lying.take i) fun q hq => fit.low q (List.mem_of_mem_take hq)
          have h2 : (sees n (p.take j)).length ≤ 1000 := by
            unfold sees
            rw [List.length_map]
            exact Nat.le_trans (List.length_take_le' ..) (fit.low p hpm)
          have h3 : (m.lying.take i).length ≤ 9 := Nat.le_trans (List.length_take_le' ..) fit.few
          have h4 : 11000 ≤ sizeLine := by decide
          rw [List.length_map, List.length_append]
          omega
        · refine ⟨nsame s3, ?_⟩
          have et : sees n (p.take (j + 1)) = sees n (p.take j) ++ [decide (n = z.1)] := by
            unfold sees
            rw [List.take_add_one, hz, List.map_append]
            rfl
          have ed : decide (V.str n = V.str z.1) = decide (n = z.1) := by simp
          rw [upd_same, et, ed, ← List.append_assoc, List.map_append (l₂ := [decide (n = z.1)])]
          rfl
      · obtain ⟨s3, e3⟩ := s3
        refine ⟨s3, ?_⟩
        rw [lu, List.take_length] at e3
        rw [List.take_add_one, hp, List.flatMap_append, e3]
        simp
    · obtain ⟨s1, e1⟩ := s1
      rw [lw, List.take_length] at e1
      refine ⟨D, _, rfl, SqL.of e1, ?_⟩
      rw [← there_eq]
      exact k _ s1
/-! ### _with_pile -/
def spWith : Sp := fun vs H Q _ => ∃ (l q : Addr) (k : Nat) (ls : List Pile) (p : Pile), vs = [.ref l, .int (k : Nat), .ref q] ∧ LieT H l ls ∧ PileT H (.ref q) p ∧ k < ls.length ∧ ls.length ≤ 9 ∧ ∀ r H', Same H H' → LieT H' r (ls.set k p) → Q (.ref r) H'
theorem scWith : FnScope ["lying", "number", "pile"] ["lying", "number", "pile"] (defScope sWithPile) := ⟨rfl, rfl, rfl, by decide +kernel, rfl, by decide +kernel, by decide +kernel⟩
theorem cut_to (ws : List V) {k : Nat} (h : k ≤ ws.length) : cutV ws none (some (k : Int)) = ws.take k := by
  unfold cutV
  rw [HT.sIx_none, HT.sIx_nat, List.drop_zero, Nat.sub_zero, Nat.min_eq_left h]
theorem cut_from (ws : List V) {k : Nat} (h : k ≤ ws.length) : cutV ws (some (k : Int)) none = ws.drop k := by
  unfold cutV
  rw [HT.sIx_none, HT.sIx_nat, Nat.min_eq_left h, List.take_of_length_le (by rw [List.length_drop]; omega)]
theorem set_split {α : Type} : ∀ {l : List α} {k : Nat} (x : α), k < l.length → l.set k x = l.take k ++ x :: l.drop (k + 1)
  | [], _, _, h => absurd h (Nat.not_lt_zero _)
  | y :: l, 0, x, _ => rfl
  | y :: l, k + 1, x, h => by
    show y :: l.set k x = y :: (l.take k ++ x :: l.drop (k + 1))
    rw [set_split x (Nat.lt_of_succ_lt_succ h)]
theorem pair_take {α β : Type} {R : α → β → Prop} : ∀ (n : Nat) {as : List α} {bs : List β}, PySem.Paired R as bs → PySem.Paired R (as.take n) (bs.take n)
  | 0, _, _, _ => .nil
  | _ + 1, _, _, .nil => .nil
  | n + 1, _, _, .cons x r => .cons x (pair_take n r)
theorem pair_drop {α β : Type} {R : α → β → Prop} : ∀ (n : Nat) {as : List α} {bs : List β}, PySem.Paired R as bs → PySem.Paired R (as.drop n) (bs.drop n)
  | 0, _, _, r => r
  | _ + 1, _, _, .nil => .nil
  | n + 1, _, _, .cons _ r => pair_drop n r
theorem ok_with {f : Addr} {fd : FuncData} (F : Fun K "_with_pile" "_with_pile" sWithPile f fd) : FnOk P w K mg base CX0 1 f fd ["lying", "number", "pile"] spWith := by
  refine F.ok scWith (fun vs H Q E h => ?_) (fun cdv A outer s H vs Q E hr h => ?_)
  · obtain ⟨l, q, k, ls, p, rfl, _⟩ := h
    rfl
  · obtain ⟨l, q, k, ls, p, rfl, ⟨ws, hl, pw⟩, hq, hk, h9, kk⟩ := h
    have lw := pair_len pw
    refine ⟨_, pss_one (ps_ret (pe_tup (StX.pa_star (pe_slice sl_tup (pv 0) po_none (po_some (pv 1))) (pa_cons (pv 2) (StX.pa_star (pe_slice sl_tup (pv 0) (po_some (pe_op op_add (pv 1) pe_int)) po_none) pa_nil))))), ?_⟩
    refine ⟨_, rfl, _, rfl, _, rfl, l, ws, rfl, SqT.of hl, fun z => ?_, fun a ha => ?_⟩
    · have := z.2
      rw [HT.sIx_nat, Nat.min_eq_left (by omega)] at this
      omega
    · rw [cut_to ws (by omega)]
      have s1 : Same H (upd H a (.tup (ws.take k))) := same_upd ha
      refine ⟨a, _, rfl, .inl (SqT.of upd_same), _, rfl, _, rfl, _, rfl, _, _, rfl, rfl, _, rfl, l, ws, rfl, SqT.of (s1 _ _ hl), fun z => ?_, fun b hb => ?_⟩
      · have := z.1
        rw [show ((k : Int) + 1) = ((k + 1 : Nat) : Int) by omega, HT.sIx_nat, Nat.min_eq_left (by omega)] at this
        omega
      · rw [show ((k : Int) + 1) = ((k + 1 : Nat) : Int) by omega, cut_from ws (by omega)]
        have s2 := s1.trans (same_upd (o := .tup (ws.drop (k + 1))) hb)
        refine ⟨b, _, rfl, .inl (SqT.of upd_same), ?_, fun r hr2 => ?_⟩
        · simp only [List.length_append, List.length_cons, List.length_take, List.length_drop, List.length_nil]
          have h4 : 1000 ≤ sizeLine := by decide
          omega
        · have s3 := s2.trans (same_upd (o := .tup (ws.take k ++ .ref q :: (ws.drop (k + 1) ++ []))) hr2)
          refine kk r _ s3 ⟨_, upd_same, ?_⟩
          have kf := KeepF.of s3
          rw [set_split p hk, List.append_nil]
          rw [List.append_nil] at kf
          exact pair_app (pair_mono (fun _ _ z => z.keep kf) (pair_take k pw)) (.cons (hq.keep kf) (pair_mono (fun _ _ z => z.keep kf) (pair_drop (k + 1) pw)))
end
end Lv
set_option Elab.async false
set_option linter.all false
set_option maxRecDepth 100000
set_option maxHeartbeats 4000000
/-! is_within; check_pile_count. -/
namespace Sh4
open PySem L2 Sho NdefX Shg Sh1
section
variable {P : Program} {w : World} {K : PySem.W.Frag} {mg : Str → Option Value} {base : Heap}
def spIsWithin : Sp := fun vs H Q _ => ∃ n a b : Int, vs = [.int n, .int a, .int b] ∧ Q (.bl (decide (a ≤ n) && decide (n ≤ b))) H
theorem scIsWithin : FnScope ["number", "low", "high"] ["number", "low", "high"] (defScope sIsWithin) := ⟨rfl, rfl, rfl, by decide +kernel, rfl, by decide +kernel, by decide +kernel⟩
theorem ok_isWithin {f : Addr} {fd : FuncData} (F : Fun K "is_within" "is_within" sIsWithin f fd) (B : Shg.Blt mg) : FnOk P w K mg base CX0 1 f fd ["number", "low", "high"] spIsWithin := by
  refine F.ok scIsWithin (fun vs H Q E h => ?_) (fun cdv A outer s H vs Q E hr h => ?_)
  · obtain ⟨n, a, b, rfl, _⟩ := h
    rfl
  · obtain ⟨n, a, b, rfl, k⟩ := h
    refine ⟨_, pss_one (ps_ret (pe_and (pe_not (pe_callB call_isi (by rfl) B.isi (by decide +kernel) (pa_cons (pv 0) (pa_cons (pe_bltn (v := .ty "bool") (by rfl) B.bool (by decide +kernel) rfl) pa_nil))))
      (pe_one (pe_chain op_le op_le (pv 1) (pv 0) (pv 2))))), ?_⟩
    refine ⟨_, rfl, .int n, .ty "bool", .type "int", .type "bool", false, rfl, .ty _, .base (.int n), kit_ty (by decide +kernel), _, rfl, _, rfl, iteT ⟨_, rfl, _, rfl, _, _, rfl, rfl, _, rfl, ?_⟩⟩
    refine ite2 (fun h1 => ?_) (fun h1 => ?_)
    · refine ⟨_, rfl, _, _, rfl, rfl, ?_⟩
      rw [h1] at k
      exact k
    · rw [Bool.eq_false_iff.mpr h1] at k
      exact k
def spCount (CN : Addr) : Sp := fun vs H Q E => ∃ n : Int, vs = [.int n] ∧ n.natAbs.log2 < 1920 ∧ (1 ≤ n ∧ n ≤ 9 → Q .non H) ∧ (¬ (1 ≤ n ∧ n ≤ 9) → E (.ref CN) none H)
theorem scCount : FnScope ["count"] ["count"] (defScope sCheckPileCount) := ⟨rfl, rfl, rfl, by decide +kernel, rfl, by decide +kernel, by decide +kernel⟩
theorem ok_count {f CN fW : Addr} {fd fdW : FuncData} {t9 : Tok} (F : Fun K "check_pile_count" "check_pile_count" sCheckPileCount f fd) (EC : ErrN4 K mg "InvalidNumber" CN) (g9 : mg "MOST_PILES" = some (.int 9 t9))
    (GW : FnOk P w K mg base CX0 1 fW fdW ["number", "low", "high"] spIsWithin) (mW : mg "is_within" = some (.ref fW)) (kW : PySem.W.keepIn K (.ref fW) = true) (bW : Binds K fdW ["number", "low", "high"] []) :
    FnOk P w K mg base (L2.CX P w) 2 f fd ["count"] (spCount CN) := by
  refine F.okX scCount (fun vs H Q E h => ?_) (fun cdv A outer s H vs Q E hr h => ?_)
  · obtain ⟨n, rfl, _⟩ := h
    rfl
  · obtain ⟨n, rfl, hl, kOk, kBad⟩ := h
    refine ⟨_, pss_one (ps_if (pt_not (pt_val (pe_call GW (hr.mono (by decide)) rfl mW kW bW .nil pass0 (pa_cons (pv 0) (pa_cons pe_int (pa_cons (pe_glob (v := .int 9) rfl g9 ⟨_, rfl⟩) pa_nil))))))
        (pss_one (ps_raise rfl (takes_of rfl rfl rfl rfl) (SkE.pmk_own1 PySem.F.excBase_ValueError EC.ex EC.gm EC.kp (raises_own EC.be EC.ty) (by rfl) (pe_joined (.cons (pe_fmt (pv 0)) (.cons pe_str .nil)))))) pss_nil), ?_⟩
    refine ⟨_, rfl, n, 1, 9, rfl, _, rfl, ?_⟩
    refine ite2 (fun h1 => ?_) (fun h1 => ?_)
    · have h1' : ¬ (1 ≤ n ∧ n ≤ 9) := fun q => by
        rw [decide_eq_true q.1, decide_eq_true q.2] at h1
        cases h1
      refine ⟨_, rfl, .inr ⟨n, rfl, hl, _, rfl, ?_, _, rfl, ?_, kBad h1'⟩⟩
      · exact Nat.le_trans (small_cat (n := 0) (m := 1921) (by decide) (PyProof.Rows.int_text_len_1921 hl)) (by decide)
      · exact Nat.le_trans (small_cat (n := 1921) (m := 100) (small_cat (n := 0) (m := 1921) (by decide) (PyProof.Rows.int_text_len_1921 hl)) (by decide +kernel)) (by decide)
    · have h2 : 1 ≤ n ∧ n ≤ 9 := by simpa using h1
      exact kOk h2
end
end Sh4
set_option Elab.async false
set_option linter.all false
/-! What is asked of an own error class without an own __init__. -/
namespace Sho
open PySem L2
structure ErrO (K : PySem.W.Frag) (mg : Str → Option Value) (x : Str) (C : Addr) : Prop where
  ex : PySem.W.excIn K C [.type "ValueError", .type "Exception", .type "BaseException", .type "object"] "ValueError.__new__" = true
  gm : mg x = some (.ref C)
  kp : PySem.W.keepIn K (.ref C) = true
  be : PySem.W.subIn K (.ref C) (.type "BaseException") = some true
  ty : PySem.W.typeIn K (.ref C) = some (.type "type")
  exm : PySem.W.exmOne K (.ref C) (.ref C) = some true
theorem cat_le {a b : Str} {n m : Nat} (ha : a.length ≤ n) (hb : b.length ≤ m) : (a ++ b).length ≤ n + m := by
  rw [PySem.Str.length_append]
  omega
end Sho
set_option Elab.async false
set_option linter.all false
set_option maxRecDepth 100000
set_option maxHeartbeats 2000000
/-! enumerate of a tuple. -/
namespace ShE
open PySem
open Sem (wp)
open AutoSeq1 (wpAny_loadPart')
/-- the enumerate of the tuple o at t -/
theorem meets_enumT (t : Addr) (o : Obj) (items : Array Value) (hc : o.cls = .type "tuple") (n : Nat) (hd : o.data = .seq items n) :
    Meets (Builtin.«enumerate.__new__» ⟨[.type "enumerate", .ref t], []⟩) (fun _ R s => s.heap.get? t = some o ∧
      R (.ok (.ret (.ref (s.heap.push { cls := .type "tuple_iterator", data := .fields #[.ref t, .int 0 0] }).objs.size)))
        { s with heap := (s.heap.push { cls := .type "tuple_iterator", data := .fields #[.ref t, .int 0 0] }).push { cls := .type "enumerate", data := .fields #[.none, .bool false, .ref s.heap.objs.size, rawInt 0, .none, .none] } }) :=
  .of_wp fun prog w A R s h => by
    obtain ⟨hp, g, d, tk, os⟩ := s
    obtain ⟨ht, h⟩ := h
    obtain ⟨oc, od, odt, osl⟩ := o
    replace hc : oc = .type "tuple" := hc
    replace hd : odt = .seq items n := hd
    subst hc hd
    have sub := sub_enumerate
    have isT : Heap.IsTuple (Shared.heap ⟨hp, g, d, tk, os⟩) t items := ⟨_, ht, rfl, n, rfl⟩
    wp_walk using wpAny_loadPart' ht
    refine wpAny_stack_any fun st => wpAny_pure ?_
    split
    · rename_i c _ _ _ _ _
      cases (c == Value.type "enumerate")
      all_goals
        wp_walk using wpAny_loadPart' ht, wpAny_pyIter_tuple isT
        exact ⟨_, rfl, h⟩
    · wp_walk using wpAny_loadPart' ht, wpAny_pyIter_tuple isT
      exact ⟨_, rfl, h⟩
section
variable {prog : Program} {w : World} {A : Around} {E : Value → Shared → Prop} {s : Shared}
theorem call_enumT {t : Addr} {items : Array Value} {Q : Value → Shared → Prop} (hT : s.heap.IsTuple t items)
    (h : ∀ h', IsEnum h' (s.heap.objs.size + 1) s.heap.objs.size 0 .none → h'.IsTupleIter s.heap.objs.size t 0 → h'.objs.size = s.heap.objs.size + 2 →
      (∀ b o, s.heap.get? b = some o → h'.get? b = some o) → Q (.ref (s.heap.objs.size + 1)) { s with heap := h' }) :
    wpAny (model prog w) A (call (.type "enumerate") [.ref t]) Q E s := by
  obtain ⟨o, ho, hc, n, hd⟩ := hT
  refine callType_new F.called_enumerate (by decide) (F.typeCall_enumerate_1 _) (F.newCall_enumerate_1 _) (fun obj => F.args_object_init_2 obj _) F.entry_enumerate_new
    (meets_enumT t o items hc n hd) ⟨ho, ?_⟩
  generalize hI : s.heap.push { cls := .type "tuple_iterator", data := .fields #[.ref t, .int 0 0] } = h1
  have z1 : h1.objs.size = s.heap.objs.size + 1 := by
    rw [← hI]
    exact Heap.size_push ..
  have it1 : h1.get? s.heap.objs.size = some { cls := .type "tuple_iterator", data := .fields #[.ref t, .int 0 0] } := by
    rw [← hI]
    exact Heap.get?_push_size _ rfl
  show _ ∧ _
  rw [z1]
  have en : IsEnum (h1.push { cls := .type "enumerate", data := .fields #[.none, .bool false, .ref s.heap.objs.size, rawInt 0, .none, .none] }) (s.heap.objs.size + 1) s.heap.objs.size 0 .none := by
    have := Heap.get?_push_size h1 (o := { cls := .type "enumerate", data := .fields #[.none, .bool false, .ref s.heap.objs.size, rawInt 0, .none, .none] }) rfl
    rw [z1] at this
    exact this
  refine ⟨⟨_, en, rfl⟩, h _ en ⟨_, Heap.get?_push_of_some _ it1, rfl, rfl⟩ (by rw [Heap.size_push, z1]) fun b o x => Heap.get?_push_of_some _ ?_⟩
  rw [← hI]
  exact Heap.get?_push_of_some _ x
end
end ShE

namespace Sho
open PySem PySem.Spec PyProof.Rows L2
/-- enumerate of the tuple at a: pairs of the turn and its item -/
def Iet (K : PySem.W.Frag) (a : Addr) : It :=
  ⟨fun i H => ∃ (xs : List V) (x : V), SqT K H a xs ∧ xs[i]? = some x, fun i H v H' => ∃ T x, v = .ref T ∧ H T = none ∧ H' = upd H T (.tup [.int (i : Nat), x]) ∧ ∀ xs, SqT K H a xs → xs[i]? = some x,
    fun i H => ∃ xs : List V, SqT K H a xs ∧ xs.length = i⟩
theorem walk_enumT {K : PySem.W.Frag} {a : Addr} {xs : List V} : Walk (Iet K a) xs.length (fun H => SqT K H a xs) (YPair (fun i => some (.int (i : Nat))) (fun i => xs[i]?)) := by
  refine ⟨fun i H hi q => ⟨xs, xs[i], q, by simp [hi]⟩, fun H q => ⟨xs, q, rfl⟩, fun i H v H' _ q y => ?_⟩
  obtain ⟨T, x, h1, h2, h3, h4⟩ := y
  exact ⟨T, .int (i : Nat), x, h1, h2, h3, rfl, h4 xs q⟩
theorem turn_enumT {P : Program} {w : World} {K : PySem.W.Frag} {elts : List Expr} {kk : Nat} {tpos : Pos} (a e it : Addr) :
    Turn P w K (.Tuple elts kk tpos) (Iet K a) [e, it] e (fun i h => (∃ old, IsEnum h e it ((i : Nat) : Int) old) ∧ h.IsTupleIter it a i ∧ e ≠ it ∧ a ≠ it ∧ a ≠ e) where
  mem := by simp
  obj := fun i h st b hb => by
    obtain ⟨⟨old, he⟩, ⟨o, ho, hc, hd⟩, _⟩ := st
    have two : b = e ∨ b = it := by simpa using hb
    rcases two with z | z
    · rw [z]
      exact ⟨_, he, fun v q => nomatch q⟩
    · rw [z]
      exact ⟨o, ho, fun v q => by rw [hd] at q; cases q⟩
  keep := fun i h h' st k => let ⟨⟨old, he⟩, hi, n⟩ := st; ⟨⟨old, k e (by simp) _ he⟩, hi.at fun o q => k it (by simp) o q, n⟩
  item := by
    intro X hP hw hK hc i pins s σ H E I hf st hg
    subst hP hw hK
    obtain ⟨⟨old, he⟩, hit, n1, n2, n3⟩ := st
    obtain ⟨xs, x, hq, hx⟩ := hg
    obtain ⟨its, rv, isT, hz⟩ := I.tuple hq
    have DR := Draws.tuple (prog := X.prog) (w := X.w) (A := X.A.in1) (I.ok.hd hc) it a n2 its.toArray
    obtain ⟨u, hu, ru⟩ := rv.get hx
    have lt : i < its.toArray.size := by
      rw [List.size_toArray]
      exact (List.getElem?_eq_some_iff.mp hu).1
    refine wpAny_pyNext_enum_itemD DR he ⟨hit, isT⟩ lt n1 (by simp [n1, Ne.symm n3]) fun u' h' tk hu' ho st' hT hsz hk => ?_
    have eu : u' = u := by
      have hu' : its.toArray[i]? = some u' := hu'
      rw [List.getElem?_toArray, hu] at hu'
      exact (Option.some.inj hu').symm
    subst eu
    have hel : e < s.heap.objs.size := Heap.lt_size he
    have hil : it < s.heap.objs.size := by
      obtain ⟨_, q, _⟩ := hit
      exact Heap.lt_size q
    refine ⟨_, rfl, wpAny_letOwnedTupleGo_enum (s := { s with heap := h', toks := tk + 1 }) ho fun h'' he' sb => ?_⟩
    have hT2 : h''.get? s.heap.objs.size = some { cls := .type "tuple", data := .seq #[.int i tk, u'] } := (sb.2 _ (Nat.ne_of_gt hel)).trans hT
    have new : ObjOk X.prog X.w (upd H s.heap.objs.size (.tup [.int (i : Nat), x])) h'' s.heap.objs.size (.tup [.int (i : Nat), x]) :=
      ⟨by show 2 ≤ sizeLine; decide, [.int i tk, u'], .cons ⟨_, rfl⟩ (.cons ru .nil), ⟨_, hT2, rfl, _, rfl⟩⟩
    have I1 : Inv X pins σ (upd H s.heap.objs.size (.tup [.int (i : Nat), x])) { s with heap := h'', toks := tk + 1 } :=
      I.turnedNew (ch := [e, it]) (fun b ob hb q => (sb.2 b (fun z => hb (by simp [z]))).trans (hk b ob (fun z => hb (by simp [z])) (fun z => hb (by simp [z])) q)) hf (Nat.le_refl _) new
    refine ⟨.ref s.heap.objs.size, _, I1, rfl, ⟨_, x, rfl, I.hok.fresh (Nat.le_refl _), rfl, fun ys hy => by rw [I.tuple_inj hy hq]; exact hx⟩, ⟨⟨u', ?_⟩, st'.1.at fun o q => (sb.2 it (Ne.symm n1)).trans q, n1, n2, n3⟩, fun b hb => ?_⟩
    · have z : ((i + 1 : Nat) : Int) = (i : Int) + 1 := by omega
      rw [z]
      exact he'
    · have old' : b < s.heap.objs.size := by
        have two : b = e ∨ b = it := by simpa using hb
        rcases two with z | z <;> rw [z] <;> assumption
      rw [upd_ne (Nat.ne_of_lt old')]
      exact (hf b hb).1
  done := by
    intro X hP hw hK hc i pins s σ H E I hf st hg
    subst hP hw hK
    obtain ⟨⟨old, he⟩, hit, n1, n2, n3⟩ := st
    obtain ⟨xs, hq, hx⟩ := hg
    obtain ⟨its, rv, isT, hz⟩ := I.tuple hq
    have DR := Draws.tuple (prog := X.prog) (w := X.w) (A := X.A.in1) (I.ok.hd hc) it a n2 its.toArray
    obtain ⟨f0, f1, f2, f3, f4, f5⟩ := hf it (by simp)
    have ei : i = its.toArray.size := by
      rw [List.size_toArray, ← rv.length]
      exact hx.symm
    refine wpAny_pyNext_enum_endD DR he (show _ from ei ▸ ⟨hit, isT⟩) fun h' eb => ⟨rfl, I.turned (t' := s.toks) (fun b o hb q => eb b o hb q) f0 f1 f3 f4 f5⟩
  self := fun A i s Q E st h => let ⟨⟨_, he⟩, _⟩ := st; wpAny_pyIter_enum he h
def iEnumT (K : PySem.W.Frag) (ta : TA) : TI := fun σ H R => ta σ H fun vs H1 => ∃ a xs, vs = [.ref a] ∧ SqT K H1 a xs ∧ R (Iet K a) H1
theorem pi_enumT {X : Cx} {e : Expr} {ta : TA} {p pos tpos : Pos} {elts : List Expr} {kk : Nat} (hg : Gl X "enumerate") (hm : X.mg "enumerate" = none) (ha : PA X [e] ta) (hs : starEach [e] X.env = [(false, eval e X.env)] := by rfl) :
    PI X (.Tuple elts kk tpos) (.Call (.Name "enumerate" p) [e] [] pos) (iEnumT X.K ta) := by
  refine ⟨fun pins s σ H R I h => ?_⟩
  refine Call_ (ld_blt I hg hm boot_enumerate (PyProof.Rows.callWith_type1 (thn (ha.run pos pins s σ H _ I h) fun us s1 y => ?_) hs rfl))
  obtain ⟨vs, H1, I1, r1, a, xs, rfl, hq, q⟩ := y
  cases r1 with
  | cons r rr =>
    cases rr
    cases r
    obtain ⟨its, rv, isT, hz⟩ := I1.tuple hq
    have lt : a < s1.heap.objs.size := by
      obtain ⟨o, ho, _⟩ := isT
      exact Heap.lt_size ho
    refine ShE.call_enumT isT fun h' he hit hsz hk => wpAny_pyIter_enum he ?_
    have I2 : Inv X pins σ H1 { s1 with heap := h' } := I1.kept (t' := s1.toks) hk
    refine ⟨s1.heap.objs.size + 1, [s1.heap.objs.size + 1, s1.heap.objs.size], _, _, H1, rfl, I2, turn_enumT a (s1.heap.objs.size + 1) s1.heap.objs.size,
      ⟨⟨.none, he⟩, hit, Nat.succ_ne_self _, Nat.ne_of_lt lt, Nat.ne_of_lt (Nat.lt_succ_of_lt lt)⟩, fun b hb => ?_, q⟩
    have le : s1.heap.objs.size ≤ b := by
      have two : b = s1.heap.objs.size + 1 ∨ b = s1.heap.objs.size := by simpa using hb
      rcases two with z | z
      · rw [z]
        exact Nat.le_succ _
      · rw [z]
        exact Nat.le_refl _
    exact I1.fpOk le (I1.hok.fresh le)
end Sho
set_option Elab.async false
set_option linter.all false
set_option maxRecDepth 100000
set_option maxHeartbeats 8000000
set_option autoImplicit false
/-! _after_come, _after_wait, _place_of. -/
namespace Lv
open PySem L2 Sho NdefX Shg Sh1 Sh4
/-- what is wanted of an operation that fails -/
def Fails (CN CB CE CU : Addr) (H : Hp) (E : XK) : Er → Prop
  | .name => ∀ H', Same H H' → E (.ref CN) none H'
  | .number => ∀ H', Same H H' → E (.ref CB) none H'
  | .early => ∀ H', Same H H' → E (.ref CE) none H'
  | .guest n => ∀ (H' : Hp) (d : Addr), Same H H' → H' d = some (.xd [(("name" : Str), .str n)]) → E (.ref CU) (some d) H'
/-- what is wanted of one that does not -/
def Done (C : Addr) (H : Hp) (Q : VK) (m : Mo) (r : Rs) : Prop := ∀ (H' : Hp) (p a : Addr) (v : V), Same H H' → H' p = some (.tup [.ref a, v]) → MoAt C H' a m → RsV H' v r → (∀ l, v = .ref l → H l = none) → Q (.ref p) H'
def Leads (C CN CB CE CU : Addr) (H : Hp) (Q : VK) (E : XK) (m : Mo) (o : Op) : Prop := (∀ m' r, stepM m o = .ok (m', r) → Done C H Q m' r) ∧ ∀ e, stepM m o = .error e → Fails CN CB CE CU H E e
theorem rtc_of {te : TE} {ta : L2.TA} {D : Ends} {σ : L2.St} {H : Hp} (h : te σ H fun v H1 => ta σ H1 fun vs H2 => (v :: vs).length ≤ sizeLine ∧ ∀ p, H2 p = none → D.rt (.ref p) (upd H2 p (.tup (v :: vs)))) : tRet (tTup (tCons te ta)) D σ H := h
theorem ends_small {a b : Str} {n : Nat} (ha : a.length ≤ n) (hb : b.length ≤ 1000) (hn : n ≤ 200000) : (a ++ b).length ≤ sizeLine := Nat.le_trans (cat_le ha hb) (Nat.le_trans (Nat.add_le_add_right hn 1000) (by decide))
section
variable {P : Program} {w : World} {K : PySem.W.Frag} {mg : Str → Option Value} {base : Heap}
def spCome (K : PySem.W.Frag) (mg : Str → Option Value) (C fI CN CB CE CU : Addr) : Sp := fun vs H Q E => ∃ (a : Addr) (n : Str) (k : Int) (m : Mo), vs = [.ref a, .str n, .int k] ∧ n.length ≤ 1000 ∧ k.natAbs.log2 < 1920 ∧ MoAt C H a m ∧ Fit 999 m ∧ Leads C CN CB CE CU H Q E m (.come n k)
abbrev NAC : List Str := ["moment", "name", "number", "pile", "lying"]
theorem scCome : FnScope NAC ["moment", "name", "number"] (defScope sAfterCome) := ⟨rfl, rfl, rfl, by decide +kernel, rfl, by decide +kernel, by decide +kernel⟩
theorem ok_afterCome {f C fI CN CB CE CU fN fT fW fP : Addr} {fd fdI fdN fdT fdW fdP : FuncData} (F : Fun K "_after_come" "_after_come" sAfterCome f fd) (B : Shg.Blt mg) (EN : ErrN4 K mg "InvalidName" CN) (EB : ErrN4 K mg "InvalidNumber" CB) (MC : MomC K mg C fI) (GI : FnOk P w K mg base CX0 1 fI fdI NMI (spMoInit K mg C fI)) (bI : Binds K fdI NMI [])
    (GN : FnOk P w K mg base CX0 1 fN fdN ["word"] spIsName) (mN : mg "is_name" = some (.ref fN)) (kN : PySem.W.keepIn K (.ref fN) = true) (bN : Binds K fdN ["word"] [])
    (GT : FnOk P w K mg base CX0 1 fT fdT ["moment", "name"] (spThere K mg C fI)) (mT : mg "_is_there" = some (.ref fT)) (kT : PySem.W.keepIn K (.ref fT) = true) (bT : Binds K fdT ["moment", "name"] [])
    (GW : FnOk P w K mg base CX0 1 fW fdW ["number", "low", "high"] spIsWithin) (mW : mg "is_within" = some (.ref fW)) (kW : PySem.W.keepIn K (.ref fW) = true) (bW : Binds K fdW ["number", "low", "high"] [])
    (GP : FnOk P w K mg base CX0 1 fP fdP ["lying", "number", "pile"] spWith) (mP : mg "_with_pile" = some (.ref fP)) (kP : PySem.W.keepIn K (.ref fP) = true) (bP : Binds K fdP ["lying", "number", "pile"] []) :
    FnOk P w K mg base (L2.CX P w) 3 f fd ["moment", "name", "number"] (spCome K mg C fI CN CB CE CU) := by
  refine F.okX scCome (fun vs H Q E h => ?_) (fun cdv A outer s H vs Q E hr h => ?_)
  · obtain ⟨a, n, k, m, rfl, _⟩ := h
    rfl
  · obtain ⟨a, n, k, m, rfl, hn, hk, ⟨dx, po, pl, ve, ha, hpo, hpl, hve⟩, fit, kOk, kBad⟩ := h
    have nd := scCome.nd
    have MA : MoAt C H a m := ⟨dx, po, pl, ve, ha, hpo, hpl, hve⟩
    refine ⟨_, (pss_cons (ps_if (PW.pt (pw_or (pt_not (pt_val (pe_call GN (hr.mono (by decide)) rfl mN kN bN .nil pass0 (pa_cons (pv 1) pa_nil)))) (pw_or1 (pt_val (pe_call GT (hr.mono (by decide)) rfl mT kT bT .nil pass0 (pa_cons (pv 0) (pa_cons (pv 1) pa_nil))))))) (pss_one (ps_raise rfl (takes_of rfl rfl rfl rfl) (SkE.pmk_own1 PySem.F.excBase_ValueError EN.ex EN.gm EN.kp (raises_own EN.be EN.ty) (by rfl) (pe_joined (.cons (pe_fmt (pv 1)) (.cons pe_str .nil)))))) pss_nil)
      (pss_cons (ps_if (pt_not (pt_val (pe_call GW (hr.mono (by decide)) rfl mW kW bW .nil pass0 (pa_cons (pv 2) (pa_cons pe_int (pa_cons (pe_op op_sub (pe_callB call_len_seq (by rfl) B.len PySem.boot_len (pa_cons (pe_fld (pv 0) rfl) pa_nil)) pe_int) pa_nil)))))) (pss_one (ps_raise rfl (takes_of rfl rfl rfl rfl) (SkE.pmk_own1 PySem.F.excBase_ValueError EB.ex EB.gm EB.kp (raises_own EB.be EB.ty) (by rfl) (pe_joined (.cons pe_str (.cons (pe_fmt (pv 2)) .nil)))))) pss_nil)
      (pss_cons (ps_set (i := 3) nd rfl (Or.inl rfl) (pe_tup (StX.pa_star (pe_ix ix_tup (pe_fld (pv 0) rfl) (pv 2) (fun _ _ => rfl)) (pa_cons (pe_tup (pa_cons (pv 1) (pa_cons (pe_fld (pv 0) rfl) pa_nil))) pa_nil))))
      (pss_cons (ps_set (i := 4) nd rfl (Or.inl rfl) (pe_call GP (hr.mono (by decide)) rfl mP kP bP .nil pass0 (pa_cons (pe_fld (pv 0) rfl) (pa_cons (pv 2) (pa_cons (pv 3) pa_nil)))))
      (pss_one (ps_ret (pe_tup (pa_cons (pe_make MC.mkr GI (hr.mono (by decide)) rfl MC.gm bI .nil pass0 (pa_cons (pe_tup (pa_cons pe_str (pa_cons (pv 1) (pa_cons (pv 2) pa_nil)))) (pa_cons (pe_fld (pv 0) rfl) (pa_cons (pv 4) (pa_cons (pe_fld (pv 0) rfl) (pa_cons pe_non pa_nil)))))) (pa_cons (pe_callB call_len_seq (by rfl) B.len PySem.boot_len (pa_cons (pv 3) pa_nil)) pa_nil))))))))), ?_⟩
    refine or_ans (!okName n) (there m.lying n) (fun R h => ⟨_, rfl, n, rfl, Nat.le_trans hn (by decide), fun H1 s1 => ⟨_, rfl, h H1 s1⟩⟩) (fun H1 s1 _ R h => ⟨_, rfl, _, rfl, a, n, m, rfl, MC, MA.keep (.of s1), fit.mono (by decide), fun H2 s2 => ⟨_, rfl, h H2 s2⟩⟩) (fun H1 s1 => ?_)
    have e1 : (!okName n || there m.lying n) = !(okName n && !there m.lying n) := by cases okName n <;> cases there m.lying n <;> rfl
    rw [e1]
    cases c1 : okName n && !there m.lying n with
    | false =>
      have bad := kBad .name (by unfold stepM; simp only [c1])
      refine iteT ⟨_, rfl, .inl ⟨n, rfl, Nat.le_trans hn (by decide), _, rfl, ends_small (n := 0) (by decide) hn (by decide), _, rfl, ends_small (n := 2000) (Nat.le_trans (cat_le (a := Str.empty) (n := 0) (m := 1000) (by decide) hn) (by decide)) (by decide +kernel) (by decide), bad H1 s1⟩⟩
    | true =>
      refine iteF (nx_of ?_)
      obtain ⟨ws, hws, pw⟩ := hpl
      have lw := pair_len pw
      have ha1 := s1 _ _ ha
      have hl1 := s1 _ _ hws
      refine ⟨_, rfl, _, rfl, a, C, dx, _, _, rfl, ha1, MC.cl, MC.n3, lk_lying .., pl, ws, rfl, .inr (SqT.of hl1), _, _, rfl, rfl, k, 0, _, rfl, _, rfl, ?_⟩
      have e2 : (decide (0 ≤ k) && decide (k ≤ (ws.length : Int) - 1)) = (decide (0 ≤ k) && decide (k < (m.lying.length : Nat))) := by
        rw [lw]
        congr 1
        exact decide_eq_decide.mpr (by omega)
      rw [e2]
      cases c2 : decide (0 ≤ k) && decide (k < (m.lying.length : Nat)) with
      | false =>
        have bad := kBad .number (by unfold stepM; simp only [c1, c2])
        refine iteT ⟨_, rfl, by decide +kernel, _, rfl, .inr ⟨k, rfl, hk, _, rfl, ?_, bad H1 s1⟩⟩
        exact Nat.le_trans (cat_le (n := 30) (m := 1921) (by decide +kernel) (PyProof.Rows.int_text_len_1921 hk)) (by decide)
      | true =>
        refine iteF (nx_of ?_)
        rw [Bool.and_eq_true, decide_eq_true_eq, decide_eq_true_eq] at c2
        obtain ⟨kn, rfl⟩ : ∃ kn : Nat, k = (kn : Int) := ⟨k.toNat, by omega⟩
        have hkn : kn < m.lying.length := by omega
        obtain ⟨wv, hwv⟩ : ∃ wv, ws[kn]? = some wv := ⟨_, List.getElem?_eq_getElem (by rw [lw]; exact hkn)⟩
        obtain ⟨pile, hpile, pa, us, rfl, hpa, pu⟩ := pair_get pw hwv
        have hpm := List.mem_of_getElem? hpile
        have lu := pair_len pu
        have hlow := fit.low pile hpm
        have epile : m.lying.getD kn [] = pile := getD_of hpile
        refine ⟨_, rfl, a, C, dx, _, _, rfl, ha1, MC.cl, MC.n3, lk_lying .., _, rfl, pl, ws, _, .ref pa, rfl, rfl, SqT.of hl1, atI_nat hwv, pa, us, rfl, .inl (SqT.of (s1 _ _ hpa)), _, rfl, _, rfl, a, C, dx, _, _, rfl, ha1, MC.cl, MC.n2, lk_tick .., by show 2 ≤ sizeLine; decide, fun q hq => ?_⟩
        have s2 := s1.trans (same_upd (o := .tup [.str n, .int m.tick]) hq)
        have eq : (upd H1 q (.tup [.str n, .int m.tick])) q = some (.tup [.str n, .int m.tick]) := upd_same
        generalize upd H1 q (.tup [.str n, .int m.tick]) = H2 at *
        refine ⟨by show (us ++ [V.ref q]).length ≤ sizeLine; rw [List.length_append, lu]; exact Nat.le_trans (Nat.add_le_add_right hlow 1) (by decide), fun r hr3 => name_of ?_⟩
        have s3' : Same H2 (upd H2 r (.tup (us ++ [V.ref q]))) := same_upd hr3
        have er : (upd H2 r (.tup (us ++ [V.ref q]))) r = some (.tup (us ++ [V.ref q])) := upd_same
        have er' : (upd H2 r (.tup (us ++ ([V.ref q] ++ [])))) = upd H2 r (.tup (us ++ [V.ref q])) := rfl
        generalize upd H2 r (.tup (us ++ [V.ref q])) = H3 at *
        have s3 := s2.trans s3'
        have k3 := KeepF.of s3
        have pr : PileT H3 (.ref r) (pile ++ [(n, m.tick)]) := ⟨r, _, rfl, er, pair_app (pair_mono (fun _ _ z => z.keep k3) pu) (.cons ⟨q, rfl, s3' _ _ eq⟩ .nil)⟩
        have ha3 := s3 _ _ ha
        refine ⟨_, rfl, a, C, dx, _, _, rfl, ha3, MC.cl, MC.n3, lk_lying .., _, rfl, _, rfl, pl, r, kn, m.lying, _, rfl, LieT.keep k3 ⟨ws, hws, pw⟩, pr, hkn, fit.few, fun l2 H4 s4 hl2 => name_of ?_⟩
        have ha4 := s4 _ _ ha3
        have k4 := KeepF.of s4
        -- the moment
        have ha4' := ha4
        refine rtc_of (mo_new' MC (P := fun vs H5 => ∃ o, Same H4 H5 ∧ H5 o = some (.tup [.str "come", .str n, .int (kn : Nat)]) ∧ vs = [.ref o, .int m.tick, .ref l2, .int m.lifted, .non]) (fun R hR => ?_) (fun vs H5 ⟨o, s5, eo, ev⟩ x dx2 H6 s6 hx6 v1 v2 v3 v4 v5 e5 ex => ?_) fun vs H5 ⟨o, _, _, ev⟩ => ⟨_, _, _, _, _, ev⟩)
        · refine ⟨_, rfl, _, rfl, by show 3 ≤ sizeLine; decide, fun o ho => ?_⟩
          have s5 := same_upd (o := .tup [.str "come", .str n, .int (kn : Nat)]) ho
          exact ⟨_, rfl, a, C, dx, _, _, rfl, (s5 _ _ ha4), MC.cl, MC.n2, lk_tick .., _, rfl, _, rfl, a, C, dx, _, _, rfl, (s5 _ _ ha4), MC.cl, MC.n4, lk_lifted .., hR _ _ ⟨o, s5, upd_same, rfl⟩⟩
        · subst ev
          cases e5
          have s36 := (s4.trans s5).trans s6
          have s06 := s3.trans s36
          refine ⟨_, rfl, r, _, rfl, .inr (SqT.of (s36 _ _ er)), by show 2 ≤ sizeLine; decide, fun p hp => ?_⟩
          have s7 := same_upd (o := .tup [.ref x, .int ((us ++ [V.ref q]).length : Nat)]) hp
          have en : (us ++ [V.ref q]).length = (pile ++ [(n, m.tick)]).length := by rw [List.length_append, List.length_append, lu]; rfl
          refine kOk ⟨some (.come n (kn : Nat)), m.tick, m.lying.set kn (pile ++ [(n, m.tick)]), m.lifted, none⟩ (.num ((pile ++ [(n, m.tick)]).length : Nat)) ?_ _ p x _ (s06.trans s7) upd_same ?_ (by rw [en]; rfl) (fun l e => by cases e)
          · have c2' : (decide ((0 : Int) ≤ (kn : Nat)) && decide (((kn : Nat) : Int) < (m.lying.length : Nat))) = true := by rw [Bool.and_eq_true, decide_eq_true_eq, decide_eq_true_eq]; exact c2
            unfold stepM
            simp only [c1, c2', Int.toNat_natCast, epile]
          · have k47 := KeepF.of ((s5.trans s6).trans s7)
            exact ⟨dx2, o, l2, .non, s7 _ _ ex, s7 _ _ (s6 _ _ eo), hl2.keep k47, rfl⟩
def spWait (K : PySem.W.Frag) (mg : Str → Option Value) (C fI CN CB CE CU : Addr) : Sp := fun vs H Q E => ∃ (a : Addr) (t : Int) (m : Mo), vs = [.ref a, .int t] ∧ t.natAbs.log2 < 1920 ∧ MoAt C H a m ∧ Fit 999 m ∧ Leads C CN CB CE CU H Q E m (.wait t)
abbrev NAW : List Str := ["moment", "ticks", "tick"]
theorem scWaitA : FnScope NAW ["moment", "ticks"] (defScope sAfterWait) := ⟨rfl, rfl, rfl, by decide +kernel, rfl, by decide +kernel, by decide +kernel⟩
theorem ok_afterWait {f C fI CN CB CE CU fW : Addr} {fd fdI fdW : FuncData} {t9 : Tok} (F : Fun K "_after_wait" "_after_wait" sAfterWait f fd) (B : Shg.Blt mg) (EB : ErrN4 K mg "InvalidNumber" CB) (g9 : mg "LAST_TICK" = some (.int 1000000000 t9)) (MC : MomC K mg C fI) (GI : FnOk P w K mg base CX0 1 fI fdI NMI (spMoInit K mg C fI)) (bI : Binds K fdI NMI [])
    (GW : FnOk P w K mg base CX0 1 fW fdW ["number", "low", "high"] spIsWithin) (mW : mg "is_within" = some (.ref fW)) (kW : PySem.W.keepIn K (.ref fW) = true) (bW : Binds K fdW ["number", "low", "high"] []) :
    FnOk P w K mg base (L2.CX P w) 3 f fd ["moment", "ticks"] (spWait K mg C fI CN CB CE CU) := by
  refine F.okX scWaitA (fun vs H Q E h => ?_) (fun cdv A outer s H vs Q E hr h => ?_)
  · obtain ⟨a, t, m, rfl, _⟩ := h
    rfl
  · obtain ⟨a, t, m, rfl, ht, ⟨dx, po, pl, ve, ha, hpo, hpl, hve⟩, fit, kOk, kBad⟩ := h
    have nd := scWaitA.nd
    refine ⟨_, (pss_cons (ps_if (pt_not (pt_val (pe_call GW (hr.mono (by decide)) rfl mW kW bW .nil pass0 (pa_cons (pv 1) (pa_cons pe_int (pa_cons (pe_op op_sub (pe_glob (v := .int 1000000000) rfl g9 ⟨_, rfl⟩) (pe_fld (pv 0) rfl)) pa_nil)))))) (pss_one (ps_raise rfl (takes_of rfl rfl rfl rfl) (SkE.pmk_own1 PySem.F.excBase_ValueError EB.ex EB.gm EB.kp (raises_own EB.be EB.ty) (by rfl) (pe_joined (.cons (pe_fmt (pv 1)) (.cons pe_str .nil)))))) pss_nil)
      (pss_cons (ps_set (i := 2) nd rfl (Or.inl rfl) (pe_op op_add (pe_fld (pv 0) rfl) (pv 1)))
      (pss_one (ps_ret (pe_tup (pa_cons (pe_make MC.mkr GI (hr.mono (by decide)) rfl MC.gm bI .nil pass0 (pa_cons (pe_tup (pa_cons pe_str (pa_cons (pv 1) pa_nil))) (pa_cons (pv 2) (pa_cons (pe_fld (pv 0) rfl) (pa_cons (pe_fld (pv 0) rfl) (pa_cons pe_non pa_nil)))))) (pa_cons (pv 2) pa_nil))))))), ?_⟩
    refine ⟨_, rfl, _, rfl, a, C, dx, _, _, rfl, ha, MC.cl, MC.n2, lk_tick .., _, _, rfl, rfl, t, 1, _, rfl, _, rfl, ?_⟩
    cases c1 : decide (1 ≤ t) && decide (t ≤ 1000000000 - m.tick) with
    | false =>
      have bad := kBad .number (by unfold stepM; simp only [LAST, c1])
      refine iteT ⟨_, rfl, .inr ⟨t, rfl, ht, _, rfl, ?_, _, rfl, ?_, bad H (Same.refl H)⟩⟩
      · exact Nat.le_trans (cat_le (n := 0) (m := 1921) (by decide) (PyProof.Rows.int_text_len_1921 ht)) (by decide)
      · exact Nat.le_trans (cat_le (n := 1921) (m := 100) (cat_le (a := Str.empty) (n := 0) (m := 1921) (by decide) (PyProof.Rows.int_text_len_1921 ht)) (by decide +kernel)) (by decide)
    | true =>
      refine iteF (nx_of ?_)
      refine ⟨_, rfl, a, C, dx, _, _, rfl, ha, MC.cl, MC.n2, lk_tick .., _, rfl, _, _, rfl, rfl, name_of ?_⟩
      refine rtc_of (mo_new' MC (P := fun vs H5 => ∃ o, Same H H5 ∧ H5 o = some (.tup [.str "wait", .int t]) ∧ vs = [.ref o, .int (m.tick + t), .ref pl, .int m.lifted, .non]) (fun R hR => ?_) (fun vs H5 ⟨o, s5, eo, ev⟩ x dx2 H6 s6 hx6 v1 v2 v3 v4 v5 e5 ex => ?_) fun vs H5 ⟨o, _, _, ev⟩ => ⟨_, _, _, _, _, ev⟩)
      · refine ⟨_, rfl, by show 2 ≤ sizeLine; decide, fun o ho => ?_⟩
        have s5 := same_upd (o := .tup [.str "wait", .int t]) ho
        exact ⟨_, rfl, _, rfl, a, C, dx, _, _, rfl, (s5 _ _ ha), MC.cl, MC.n3, lk_lying .., _, rfl, a, C, dx, _, _, rfl, (s5 _ _ ha), MC.cl, MC.n4, lk_lifted .., hR _ _ ⟨o, s5, upd_same, rfl⟩⟩
      · subst ev
        cases e5
        have s06 := s5.trans s6
        refine ⟨_, rfl, by show 2 ≤ sizeLine; decide, fun p hp => ?_⟩
        have s7 := same_upd (o := .tup [.ref x, .int (m.tick + t)]) hp
        refine kOk ⟨some (.wait t), m.tick + t, m.lying, m.lifted, none⟩ (.num (m.tick + t)) ?_ _ p x _ (s06.trans s7) upd_same ?_ rfl (fun l e => by cases e)
        · unfold stepM
          simp only [LAST, c1]
        · have k07 := KeepF.of (s06.trans s7)
          exact ⟨dx2, o, pl, .non, s7 _ _ ex, s7 _ _ (s6 _ _ eo), hpl.keep k07, rfl⟩
end
end Lv
set_option Elab.async false
set_option linter.all false
set_option maxRecDepth 100000
set_option maxHeartbeats 8000000
set_option autoImplicit false
/-! _place_of, _after_go. -/
namespace Lv
open PySem L2 Sho NdefX Shg Sh1 Sh4
theorem cat_tups {K : PySem.W.Frag} {H : Hp} {a b : Addr} {xs ys : List V} {Q : VK} (ha : H a = some (.tup xs)) (hb : H b = some (.tup ys)) (hz : xs.length + ys.length ≤ sizeLine) (k : ∀ p H', Same H H' → H' p = some (.tup (xs ++ ys)) → Q (.ref p) H') : rCatA K (.ref a) (.ref b) H Q := by
  refine ⟨a, b, xs, ys, rfl, rfl, SqT.of ha, SqT.of hb, hz, fun e => ?_, fun _ e => ?_, fun _ _ p hp => k p _ (same_upd hp) upd_same⟩
  · subst e
    exact k b H (Same.refl H) hb
  · subst e
    exact k a H (Same.refl H) (by rw [List.append_nil]; exact ha)
theorem np_of {σ : L2.St} {H : Hp} {Q : Option Int → Hp → Prop} (h : Q none H) : tNoPart σ H Q := h
theorem cut_tup {K : PySem.W.Frag} {H : Hp} {a : Addr} {xs : List V} {lo hi : Option Int} {Q : VK} (ha : H a = some (.tup xs)) (k : ∀ p H', Same H H' → H' p = some (.tup (cutV xs lo hi)) → Q (.ref p) H') : rSlA K (.ref a) lo hi H Q := by
  refine ⟨a, xs, rfl, SqT.of ha, fun e => ?_, fun _ p hp => k p _ (same_upd hp) upd_same⟩
  refine k a H (Same.refl H) ?_
  have : cutV xs lo hi = xs := by
    unfold cutV
    rw [e.1, e.2, List.drop_zero, Nat.sub_zero, List.take_length]
  rw [this]
  exact ha
section
variable {P : Program} {w : World} {K : PySem.W.Frag} {mg : Str → Option Value} {base : Heap}
def spPlace (K : PySem.W.Frag) (mg : Str → Option Value) (C fI CU : Addr) : Sp := fun vs H Q E => ∃ (a : Addr) (n : Str) (m : Mo), vs = [.ref a, .str n] ∧ n.length ≤ 1000 ∧ MoAt C H a m ∧ Fit 999 m ∧
  (∀ i j : Nat, placeOf m.lying n = some (i, j) → ∀ p H', Same H H' → H' p = some (.tup [.int (i : Nat), .int (j : Nat)]) → Q (.ref p) H') ∧
  (placeOf m.lying n = none → ∀ (H' : Hp) (d : Addr), Same H H' → H' d = some (.xd [(("name" : Str), .str n)]) → E (.ref CU) (some d) H')
abbrev NPL : List Str := ["moment", "name", "number", "pile", "place", "guest", "come"]
theorem scPlace : FnScope NPL ["moment", "name"] (defScope sPlaceOf) := ⟨rfl, rfl, rfl, by decide +kernel, rfl, by decide +kernel, by decide +kernel⟩
theorem ok_place {f C fI CU : Addr} {fd : FuncData} (F : Fun K "_place_of" "_place_of" sPlaceOf f fd) (B : Shg.Blt mg) (MC : MomC K mg C fI) (EU : ErrC P K mg "UnknownGuest" "name" nfUnk CU) : FnOk P w K mg base (L2.CX P w) 3 f fd ["moment", "name"] (spPlace K mg C fI CU) := by
  refine F.okX scPlace (fun vs H Q E h => ?_) (fun cdv A outer s H vs Q E hr h => ?_)
  · obtain ⟨a, n, m, rfl, _⟩ := h
    rfl
  · obtain ⟨a, n, m, rfl, hn, ⟨dx, po, pl, ve, ha, hpo, ⟨ws, hws, pw⟩, hve⟩, fit, kOk, kBad⟩ := h
    have nd := scPlace.nd
    have lw := pair_len pw
    refine ⟨_, (pss_cons (ps_for (passes_of rfl) rfl (pi_enumT (by rfl) B.enum (pa_cons (pe_fld (pv 0) rfl) pa_nil)) (pg_tup rfl (pgs_cons (pg_name (i := 2) nd rfl (Or.inl rfl)) (pgs_cons (pg_name (i := 3) nd rfl (Or.inl rfl)) pgs_nil))) (pss_one (ps_for (passes_of rfl) rfl (pi_enumT (by rfl) B.enum (pa_cons (pv 3) pa_nil)) (pg_tup rfl (pgs_cons (pg_name (i := 4) nd rfl (Or.inl rfl)) (pgs_cons (pg_tup rfl (pgs_cons (pg_name (i := 5) nd rfl (Or.inl rfl)) (pgs_cons (pg_name (i := 6) nd rfl (Or.inl rfl)) pgs_nil))) pgs_nil))) (pss_one (ps_if (pt_cmpR op_eq (pv 5) (pv 1) (nomark _)) (pss_one (ps_ret (pe_tup (pa_cons (pv 2) (pa_cons (pv 4) pa_nil))))) pss_nil)))))
      (pss_one (ps_raise rfl (takes_of rfl rfl rfl rfl) (pmk_unk (k := 0) EU (hr.mono (by decide)) passL (by rfl) (pk_cons (pv 1) pk_nil) rfl rfl rfl)))), ?_⟩
    refine ⟨_, rfl, a, C, dx, _, _, rfl, ha, MC.cl, MC.n3, lk_lying .., pl, ws, rfl, SqT.of hws, for_it walk_enumT (fun i σ H2 => ∃ o2 o3 o4 o5 o6, σ = [some (.ref a), some (.str n), o2, o3, o4, o5, o6] ∧ Same H H2 ∧ placeFrom n i (m.lying.drop i) = placeOf m.lying n)
      ⟨none, none, none, none, none, rfl, Same.refl H, rfl⟩ (fun i σ H2 _ ⟨_, _, _, _, _, _, s2, _⟩ => SqT.of (s2 _ _ hws)) ?_ ?_⟩
    · rintro i y σ H2 H3 hi ⟨o2, o3, o4, o5, o6, rfl, s2, ep⟩ ⟨T, y1, y2, rfl, hT, rfl, e1, e3⟩
      cases e1
      obtain ⟨pile, hpile, pa, us, rfl, hpa, pu⟩ := pair_get pw e3
      have lu := pair_len pu
      have s3 := s2.trans (same_upd (o := .tup [.int (i : Nat), .ref pa]) hT)
      refine ⟨T, _, rfl, SqT.of upd_same, rfl, _, _, rfl, _, _, rfl, rfl, ?_⟩
      have hdrop : m.lying.drop i = pile :: m.lying.drop (i + 1) := by
        obtain ⟨lt, e⟩ := List.getElem?_eq_some_iff.mp hpile
        rw [List.drop_eq_getElem_cons lt, e]
      rw [hdrop] at ep
      refine ⟨_, rfl, pa, us, rfl, SqT.of (s3 _ _ hpa), for_it walk_enumT (fun j σ H2 => ∃ o4 o5 o6, σ = [some (.ref a), some (.str n), some (.int (i : Nat)), some (.ref pa), o4, o5, o6] ∧ Same H H2 ∧ inFrom n j (pile.drop j) = inFrom n 0 pile)
        ⟨o4, o5, o6, rfl, s3, rfl⟩ (fun j σ H2 _ ⟨_, _, _, _, s4, _⟩ => SqT.of (s4 _ _ hpa)) ?_ ?_⟩
      · rintro j y σ H4 H5 hj ⟨o4, o5, o6, rfl, s4, ej⟩ ⟨U, z1, z2, rfl, hU, rfl, f1, f3⟩
        cases f1
        obtain ⟨x, hx, q, rfl, hq⟩ := pair_get pu f3
        have s5 := s4.trans (same_upd (o := .tup [.int (j : Nat), .ref q]) hU)
        refine ⟨U, _, rfl, SqT.of upd_same, rfl, _, _, rfl, _, _, rfl, q, _, rfl, SqT.of (s5 _ _ hq), rfl, _, _, rfl, _, _, rfl, rfl, rfl, ?_⟩
        have hdj : pile.drop j = x :: pile.drop (j + 1) := by
          obtain ⟨lt, e⟩ := List.getElem?_eq_some_iff.mp hx
          rw [List.drop_eq_getElem_cons lt, e]
        rw [hdj] at ej
        refine ⟨_, rfl, _, rfl, rfl, _, rfl, ?_⟩
        by_cases c : x.1 = n
        · have ei : inFrom n 0 pile = some j := by
            rw [← ej, inFrom_cons, if_pos c]
          have eo : placeOf m.lying n = some (i, j) := by
            rw [← ep]
            exact placeFrom_some _ ei
          rw [decide_eq_true (by rw [c])]
          refine iteT ⟨_, rfl, _, rfl, by show 2 ≤ sizeLine; decide, fun p hp => ?_⟩
          exact kOk i j eo p _ (s5.trans (same_upd hp)) upd_same
        · rw [decide_eq_false (by intro z; cases z; exact c rfl)]
          refine iteF ⟨_, _, _, rfl, s5, ?_⟩
          rw [inFrom_cons, if_neg c] at ej
          exact ej
      · rintro σ H4 ⟨o4, o5, o6, rfl, s4, ej⟩
        rw [lu, List.drop_length] at ej
        refine ⟨_, _, _, _, _, rfl, s4, ?_⟩
        rw [← ep]
        exact (placeFrom_none _ ej.symm).symm
    · rintro σ H2 ⟨o2, o3, o4, o5, o6, rfl, s2, ep⟩
      rw [lw, List.drop_length] at ep
      refine ⟨_, rfl, _, rfl, .inl ⟨n, rfl, Nat.le_trans hn (by decide)⟩, fun d hd => ?_⟩
      exact kBad ep.symm _ d (s2.trans (same_upd hd)) upd_same
def spGo (K : PySem.W.Frag) (mg : Str → Option Value) (C fI CN CB CE CU : Addr) : Sp := fun vs H Q E => ∃ (a : Addr) (n : Str) (m : Mo), vs = [.ref a, .str n] ∧ n.length ≤ 1000 ∧ MoAt C H a m ∧ Fit 999 m ∧ Leads C CN CB CE CU H Q E m (.go n)
abbrev NAG : List Str := ["moment", "name", "number", "place", "pile", "come", "above", "lying", "stay", "guest", "tick"]
theorem scGo : FnScope NAG ["moment", "name"] (defScope sAfterGo) := ⟨rfl, rfl, rfl, by decide +kernel, rfl, by decide +kernel, by decide +kernel⟩
theorem ok_afterGo {f C fI CN CB CE CU fP fQ : Addr} {fd fdI fdP fdQ : FuncData} (F : Fun K "_after_go" "_after_go" sAfterGo f fd) (B : Shg.Blt mg) (EE : ErrN4 K mg "TooEarly" CE) (MC : MomC K mg C fI) (GI : FnOk P w K mg base CX0 1 fI fdI NMI (spMoInit K mg C fI)) (bI : Binds K fdI NMI [])
    (GP : FnOk P w K mg base (L2.CX P w) 3 fP fdP ["moment", "name"] (spPlace K mg C fI CU)) (mP : mg "_place_of" = some (.ref fP)) (kP : PySem.W.keepIn K (.ref fP) = true) (bP : Binds K fdP ["moment", "name"] [])
    (GQ : FnOk P w K mg base CX0 1 fQ fdQ ["lying", "number", "pile"] spWith) (mQ : mg "_with_pile" = some (.ref fQ)) (kQ : PySem.W.keepIn K (.ref fQ) = true) (bQ : Binds K fdQ ["lying", "number", "pile"] []) :
    FnOk P w K mg base (L2.CX P w) 4 f fd ["moment", "name"] (spGo K mg C fI CN CB CE CU) := by
  refine F.okX scGo (fun vs H Q E h => ?_) (fun cdv A outer s H vs Q E hr h => ?_)
  · obtain ⟨a, n, m, rfl, _⟩ := h
    rfl
  · obtain ⟨a, n, m, rfl, hn, ⟨dx, po, pl, ve, ha, hpo, ⟨ws, hws, pw⟩, hve⟩, fit, kOk, kBad⟩ := h
    have nd := scGo.nd
    have lw := pair_len pw
    have MA : MoAt C H a m := ⟨dx, po, pl, ve, ha, hpo, ⟨ws, hws, pw⟩, hve⟩
    have pass : Passes (L2.CX P w) (cxOf (L2.CX P w) P w K mg base NAG "_after_go" (defScope sAfterGo) f cdv A outer s H E) E := passes_call (takes_of rfl rfl rfl rfl) fun _ _ _ _ z => z
    refine ⟨_, (pss_cons (ps_asg (pe_call GP (hr.mono (by decide)) rfl mP kP bP .nil pass (pa_cons (pv 0) (pa_cons (pv 1) pa_nil))) (pg_tup rfl (pgs_cons (pg_name (i := 2) nd rfl (Or.inl rfl)) (pgs_cons (pg_name (i := 3) nd rfl (Or.inl rfl)) pgs_nil))))
      (pss_cons (ps_set (i := 4) nd rfl (Or.inl rfl) (pe_ix ix_tup (pe_fld (pv 0) rfl) (pv 2) (fun _ _ => rfl)))
      (pss_cons (ps_set (i := 5) nd rfl (Or.inl rfl) (pe_ix ix_tup (pe_ix ix_tup (pv 4) (pv 3) (fun _ _ => rfl)) pe_int (fun _ _ => rfl)))
      (pss_cons (ps_if (pt_cmpR op_eq (pv 5) (pe_fld (pv 0) rfl) (nomark _)) (pss_one (ps_raise rfl (takes_of rfl rfl rfl rfl) (SkE.pmk_own1 PySem.F.excBase_ValueError EE.ex EE.gm EE.kp (raises_own EE.be EE.ty) (by rfl) (pe_joined (.cons (pe_fmt (pv 1)) (.cons pe_str .nil)))))) pss_nil)
      (pss_cons (ps_setLc (i := 6) (own := [("guest", 9), ("tick", 10)]) (g := gTup K 2 (gCons (gName 9) (gCons (gName 10) gNil))) (tt := tYes) (te := tVar 9) rfl nd rfl rfl (sw_true rfl rfl rfl (by decide +kernel)) (pi_tup (pe_down (pv 4) (po_some (pv 3)) (po_some (pe_un un_neg pe_int)))) (blkOk_by (own := [("guest", 9), ("tick", 10)]) (N := NAG) (sc := defScope sAfterGo) (by decide +kernel))
        (fun _ _ _ _ _ => pg_tup rfl (pgs_cons (pg_name (i := 9) nd rfl (Or.inl rfl)) (pgs_cons (pg_name (i := 10) nd rfl (Or.inl rfl)) pgs_nil))) (fun _ _ _ _ _ => pts_nil) (fun _ _ _ _ _ => (pv 9)))
      (pss_cons (ps_set (i := 7) nd rfl (Or.inl rfl) (pe_call GQ (hr.mono (by decide)) rfl mQ kQ bQ .nil pass0 (pa_cons (pe_fld (pv 0) rfl) (pa_cons (pv 2) (pa_cons (pe_op op_catA (pe_slice sl_tupA (pv 4) po_none (po_some (pv 3))) (pe_slice sl_tupA (pv 4) (po_some (pe_op op_add (pv 3) pe_int)) po_none)) pa_nil)))))
      (pss_cons (ps_set (i := 8) nd rfl (Or.inl rfl) (pe_tup (pa_cons (pv 1) (pa_cons (pv 5) (pa_cons (pe_fld (pv 0) rfl) pa_nil)))))
      (pss_one (ps_ret (pe_tup (pa_cons (pe_make MC.mkr GI (hr.mono (by decide)) rfl MC.gm bI .nil pass0 (pa_cons (pe_tup (pa_cons pe_str (pa_cons (pv 1) pa_nil))) (pa_cons (pe_fld (pv 0) rfl) (pa_cons (pv 7) (pa_cons (pe_op op_add (pe_fld (pv 0) rfl) (pe_callB call_len_seq (by rfl) B.len PySem.boot_len (pa_cons (pv 6) pa_nil))) (pa_cons (pv 8) pa_nil)))))) (pa_cons (pv 6) pa_nil)))))))))))), ?_⟩
    refine ⟨_, rfl, _, rfl, a, n, m, rfl, hn, MA, fit, fun i j ep p0 H1 s1 ep0 => ?_, fun ep => ?_⟩
    · obtain ⟨pile, x, hpile, hx, hxn⟩ := placeOf_at ep
      obtain ⟨pa, us, hpa, pu, hwv⟩ : ∃ pa us, H pa = some (.tup us) ∧ PySem.Paired (ItV H) us pile ∧ ws[i]? = some (.ref pa) := by
        have hi : i < ws.length := by rw [lw]; exact (List.getElem?_eq_some_iff.mp hpile).1
        obtain ⟨y, hy, b, us, e, hb, pu⟩ := pair_get pw (List.getElem?_eq_getElem hi)
        rw [hpile] at hy
        cases hy
        exact ⟨b, us, hb, pu, by rw [← e]; exact List.getElem?_eq_getElem hi⟩
      have lu := pair_len pu
      have hj : j < us.length := by rw [lu]; exact (List.getElem?_eq_some_iff.mp hx).1
      obtain ⟨q, hq, huj⟩ : ∃ q, H q = some (.tup [.str x.1, .int x.2]) ∧ us[j]? = some (.ref q) := by
        obtain ⟨y, hy, b, e, hb⟩ := pair_get pu (List.getElem?_eq_getElem hj)
        rw [hx] at hy
        cases hy
        exact ⟨b, hb, by rw [← e]; exact List.getElem?_eq_getElem hj⟩
      have epile : m.lying.getD i [] = pile := getD_of hpile
      have ex2 : pile.getD j (n, 0) = x := getD_of hx
      have hlow := fit.low pile (List.mem_of_getElem? hpile)
      have hi9 : i < m.lying.length := (List.getElem?_eq_some_iff.mp hpile).1
      have ha1 := s1 _ _ ha
      refine ⟨p0, _, rfl, SqT.of ep0, rfl, _, _, rfl, _, _, rfl, rfl, ?_⟩
      refine ⟨_, rfl, a, C, dx, _, _, rfl, ha1, MC.cl, MC.n3, lk_lying .., _, rfl, pl, ws, _, .ref pa, rfl, rfl, SqT.of (s1 _ _ hws), atI_nat hwv, name_of ?_⟩
      refine ⟨_, rfl, _, rfl, pa, us, _, .ref q, rfl, rfl, SqT.of (s1 _ _ hpa), atI_nat huj, q, _, 1, .int x.2, rfl, rfl, SqT.of (s1 _ _ hq), atI_nat (j := 1) rfl, name_of ?_⟩
      refine ⟨_, rfl, _, rfl, a, C, dx, _, _, rfl, ha1, MC.cl, MC.n2, lk_tick .., rfl, _, rfl, ?_⟩
      have ed : decide (V.int x.2 = V.int m.tick) = decide (x.2 = m.tick) := by simp
      rw [ed]
      cases c : decide (x.2 = m.tick) with
      | true =>
        have bad := kBad .early (by unfold stepM; simp only [ep, epile, ex2, c])
        refine iteT ⟨_, rfl, .inl ⟨n, rfl, Nat.le_trans hn (by decide), _, rfl, ends_small (n := 0) (by decide) hn (by decide), _, rfl, ends_small (n := 2000) (Nat.le_trans (cat_le (a := Str.empty) (n := 0) (m := 1000) (by decide) hn) (by decide)) (by decide +kernel) (by decide), bad H1 s1⟩⟩
      | false =>
        refine iteF (nx_of ?_)
        refine ⟨_, rfl, _, rfl, _, rfl, _, rfl, _, rfl, rfl, pa, us, j, rfl, rfl, SqT.of (s1 _ _ hpa), hj, fun d hd => ?_⟩
        have s2 := s1.trans (same_upd (o := .tup (us.drop (j + 1)).reverse) hd)
        have ed2 : (upd H1 d (.tup (us.drop (j + 1)).reverse)) d = some (.tup (us.drop (j + 1)).reverse) := upd_same
        generalize upd H1 d (.tup (us.drop (j + 1)).reverse) = H2 at *
        have pd : PySem.Paired (ItV H2) (us.drop (j + 1)).reverse (pile.drop (j + 1)).reverse := pair_mono (fun _ _ z => z.keep (KeepF.of s2)) (pair_rev (pair_drop (j + 1) pu))
        have lud : (us.drop (j + 1)).reverse.length ≤ sizeLine := by
          rw [List.length_reverse, List.length_drop, lu]
          exact Nat.le_trans (Nat.sub_le _ _) (Nat.le_trans hlow (by decide))
        refine ⟨d, rfl, ⟨_, SqT.of ed2⟩, fun D hD => ?_⟩
        refine lc_map (walk_tup (xs := (us.drop (j + 1)).reverse)) (fun i => ((pile.drop (j + 1)).reverse[i]?).map fun z => .str z.1) hD lud (fun H s => SqT.of (s _ _ ed2)) (fun i y H3 H4 hi s3 yy R k1 => ?_) (fun i hi => ?_) fun H3 s3 e3 => name_of ?_
        · obtain ⟨rfl, ey⟩ := yy
          obtain ⟨z, hz, t, rfl, ht⟩ := pair_get pd ey
          refine ⟨t, _, rfl, SqT.of (s3 _ _ ht), rfl, _, _, rfl, _, _, rfl, rfl, rfl, ?_⟩
          exact ⟨_, rfl, k1 _ _ (Same.refl _) (by rw [hz]; rfl)⟩
        · have : i < (pile.drop (j + 1)).reverse.length := by rw [← pair_len pd]; exact hi
          exact ⟨_, by rw [List.getElem?_eq_getElem this]; rfl⟩
        have eg : gather (fun i => ((pile.drop (j + 1)).reverse[i]?).map fun z => V.str z.1) (us.drop (j + 1)).reverse.length = (((pile.drop (j + 1)).reverse.map fun z => z.1).map V.str) := by
          rw [pair_len pd, gather_map, List.map_map]
          rfl
        rw [eg] at e3
        have s03 := s2.trans s3
        have ha3 := s03 _ _ ha
        have hpa3 := s03 _ _ hpa
        have fD : H D = none := s2.free hD
        -- the pile without the pair
        refine ⟨_, rfl, a, C, dx, _, _, rfl, ha3, MC.cl, MC.n3, lk_lying .., _, rfl, _, rfl, _, rfl, _, rfl, cut_tup hpa3 fun p1 H4 s4 e4 => ⟨_, rfl, _, rfl, _, _, rfl, rfl, _, rfl, np_of (cut_tup (s4 _ _ hpa3) fun p2 H5 s5 e5 => ?_)⟩⟩
        rw [cut_to us (by omega)] at e4
        rw [show ((j : Int) + 1) = ((j + 1 : Nat) : Int) by omega, cut_from us (by omega)] at e5
        refine cat_tups (s5 _ _ e4) e5 (by rw [List.length_take, List.length_drop]; exact Nat.le_trans (by omega : _ ≤ us.length) (Nat.le_trans (by rw [lu]; exact hlow) (by decide))) fun p3 H6 s6 e6 => ?_
        have s06 := s03.trans ((s4.trans s5).trans s6)
        have k6 := KeepF.of s06
        refine ⟨pl, p3, i, m.lying, pile.take j ++ pile.drop (j + 1), rfl, LieT.keep k6 ⟨ws, hws, pw⟩, ⟨p3, _, rfl, e6, pair_app (pair_mono (fun _ _ z => z.keep k6) (pair_take j pu)) (pair_mono (fun _ _ z => z.keep k6) (pair_drop (j + 1) pu))⟩, hi9, fit.few, fun l2 H7 s7 hl2 => name_of ?_⟩
        have s07 := s06.trans s7
        have ha7 := s07 _ _ ha
        refine ⟨_, rfl, _, rfl, _, rfl, a, C, dx, _, _, rfl, ha7, MC.cl, MC.n2, lk_tick .., by show 3 ≤ sizeLine; decide, fun st hst => name_of ?_⟩
        have s8 := same_upd (o := .tup [.str n, .int x.2, .int m.tick]) hst
        have est : (upd H7 st (.tup [.str n, .int x.2, .int m.tick])) st = some (.tup [.str n, .int x.2, .int m.tick]) := upd_same
        generalize upd H7 st (.tup [.str n, .int x.2, .int m.tick]) = H8 at *
        have s08 := s07.trans s8
        have ha8 := s08 _ _ ha
        have s38 := ((s4.trans s5).trans s6).trans (s7.trans s8)
        have e38 := s38 _ _ e3
        refine rtc_of (mo_new' MC (P := fun vs H5 => ∃ o, Same H8 H5 ∧ H5 o = some (.tup [.str "go", .str n]) ∧ vs = [.ref o, .int m.tick, .ref l2, .int (m.lifted + ((pile.drop (j + 1)).length : Nat)), .ref st]) (fun R hR => ?_) (fun vs H9 ⟨o, s9, eo, ev⟩ y dx2 HA sA hxA v1 v2 v3 v4 v5 e5' ex => ?_) fun vs H5 ⟨o, _, _, ev⟩ => ⟨_, _, _, _, _, ev⟩)
        · refine ⟨_, rfl, by show 2 ≤ sizeLine; decide, fun o ho => ?_⟩
          have s9 := same_upd (o := .tup [.str "go", .str n]) ho
          have el : ((((pile.drop (j + 1)).reverse.map fun z => z.1).map V.str).length : Int) = ((pile.drop (j + 1)).length : Nat) := by simp
          refine ⟨_, rfl, a, C, dx, _, _, rfl, (s9 _ _ ha8), MC.cl, MC.n2, lk_tick .., _, rfl, _, rfl, a, C, dx, _, _, rfl, (s9 _ _ ha8), MC.cl, MC.n4, lk_lifted .., _, rfl, D, _, rfl, .inl (SqL.of (s9 _ _ e38)), _, _, rfl, rfl, _, rfl, hR _ _ ⟨o, s9, upd_same, ?_⟩⟩
          rw [el]
        · subst ev
          cases e5'
          have s8A := s9.trans sA
          refine ⟨_, rfl, by show 2 ≤ sizeLine; decide, fun p hp => ?_⟩
          have sB := same_upd (o := .tup [.ref y, .ref D]) hp
          refine kOk ⟨some (.go n), m.tick, m.lying.set i (pile.take j ++ pile.drop (j + 1)), m.lifted + ((pile.drop (j + 1)).length : Nat), some (n, x.2, m.tick)⟩ (.gone ((pile.drop (j + 1)).reverse.map fun z => z.1)) ?_ _ p y _ ((s08.trans s8A).trans sB) upd_same ?_ ⟨D, rfl, sB _ _ (s8A _ _ e38)⟩ (fun l e => by cases e; exact fD)
          · unfold stepM
            simp only [ep, epile, ex2, c]
          · have k7B := KeepF.of ((s8.trans s8A).trans sB)
            exact ⟨dx2, o, l2, .ref st, sB _ _ ex, sB _ _ (sA _ _ eo), hl2.keep k7B, ⟨st, rfl, sB _ _ (s8A _ _ est)⟩⟩
    · exact kBad (.guest n) (by unfold stepM; simp only [ep])
end
end Lv
set_option Elab.async false
set_option linter.all false
set_option maxRecDepth 100000
set_option maxHeartbeats 2000000
/-! d.get(k) of a written dict; o.m(e, ..) by a promise of its values alone. -/
namespace Sho
open PySem PySem.Spec PyProof.Rows L2
def tKGet (K : PySem.W.Frag) (w : World) (td ty : TE) : TE := fun σ H Q => td σ H fun x H1 => ∃ d es n, x = .ref d ∧ KDict K w d es n ∧ ty σ H1 fun y H2 => ∃ z r v, y = .str z ∧ PySem.W.nsIn K d z = some r ∧ RelV v (r.getD .none) ∧ Q v H2
theorem pe_kget {X : Cx} {o e : Expr} {td ty : TE} {apos cpos : Pos} (ho : PE X o td) (he : PE X e ty) (m : M1 X o "get" apos e cpos) : PE X (.Call (.Attribute o "get" apos) [e] [] cpos) (tKGet X.K X.w td ty) := by
  refine ⟨fun pins s σ H Q I h => ?_⟩
  refine wpAny_Call_method m.base m.few m.line PySem.F.plainAttrs_dict PySem.F.slot_dict_get PySem.F.type_dict_get (thn (ho.run pins s σ H _ I h) fun u sa ⟨x, Ha, Ia, rx, d, es, n, ex, D, qa⟩ => ?_)
  subst ex
  cases rx
  refine ⟨kd_type D Ia, fun b eb => ?_, ?_⟩
  · cases eb
    exact ⟨_, Ia.kIn _ _ D.at_, rfl⟩
  · rw [m.trees]
    refine Calls.callWith_builtin rfl (Calls.evalArgs_plain (Calls.spliced_cons (thn (he.run pins sa σ Ha _ Ia qa) fun iv sb ⟨y, Hb, Ib, ry, z, r, v, ey, ens, rv, qb⟩ => Calls.spliced_nil ?_)))
    subst ey
    obtain ⟨t, rfl⟩ := ry
    have hm := PySem.W.mapOf_K (prog := X.prog) (w := X.w) Ib.kIn D.at_ D.lit
    refine call_meetsIn PySem.F.slot_dict_get (kd_type D Ib) PySem.F.entry_dict_get (PySem.F.args_dict_get_2 _ _) (meets_dict_get (strKind X.prog X.w) d (PySem.strKind_is X.prog X.w z t) D.low) ⟨_, hm, ?_⟩
    rw [PySem.W.find_K D.at_ ens]
    exact ⟨v, Hb, Ib.tok _, rv, qb⟩
section
variable {X : Cx} {CX : CXT} {k : Nat} {f C : Addr} {sp : Sp} {E : XK} {m : Str} {pos apos : Pos} {e o : Expr} {es : List Expr} {ta : TE} {t : TA}
theorem pe_methRz {pl : Sem Bool} (he : PE X o ta) (c : Cls X.K C) (hm : Meth X.K C m f) (F : FnR X.prog X.w X.K X.mg X.base CX k f sp) (hr : Room k X.A) (hx : Passes CX X E)
    (ht : eval (.Call (.Attribute o m apos) [] [] pos) X.env = (do let ov ← eval o X.env; standAt apos.atName; let (f, first) ← holding [ov] (getMethod ov m pl); callWith pos f first (backTo pos (starEach [] X.env)) (backToKw pos (keywordEach [] X.env))) := by rfl) :
    PE X (.Call (.Attribute o m apos) [] [] pos) (tMethR C m sp E ta tNil) := by
  refine ⟨fun pins s σ H Q I h => PySem.W.methodCall_KW (pl := pl) (thn (he.run pins s σ H _ I h) fun u s1 ⟨x, H1, I1, rx, a, dx, fs, ex, ea, l, q⟩ => ?_) ht⟩
  subst ex
  cases rx
  exact getmeth_ok I1 ea c hm l (PySem.W.callWith_K0 (first := [.ref a]) I1.kIn hm.kp (run_r (us := [.ref a]) (vs := [.ref a]) F hr hx I1 (.cons rfl .nil) q))
end
end Sho
set_option Elab.async false
set_option linter.all false
set_option maxRecDepth 100000
set_option maxHeartbeats 2000000
/-! a, *b = a tuple. -/
namespace Sho
open PySem PySem.Spec PyProof.Rows L2
section
variable {prog : Program} {w : World} {A : Around} {E : Value → Shared → Prop} {s : Shared}
/-- a tuple's walk from its second item on -/
theorem walks_from1 (hh : A.handled = none) (I t : Addr) (hne : t ≠ I) (items : Array Value) (h1 : 1 ≤ items.size) :
    WalksS prog w A I [I, t] [I] (fun a b => b = a) (items.size - 1) (fun i v => items[i + 1]? = some v) (fun i s => s.heap.IsTupleIter I t (i + 1) ∧ s.heap.IsTuple t items) :=
  have W := (Walks.tuple (prog := prog) (w := w) (A := A) hh I t hne items).toS
  { sub := W.sub, grefl := W.grefl, gtrans := W.gtrans
    frame := fun i s h' tk st ht k => W.frame (i + 1) s h' tk st ht k
    item := fun i s Q E hi st k => W.item (i + 1) s Q E (by omega) st k
    done := fun s Q E st k => W.done s Q E (by rw [Nat.sub_add_cancel h1] at st; exact st) k
    self := fun i s Q E st k => W.self (i + 1) s Q E st k }
theorem items_from1 {items acc : Array Value} (h1 : 1 ≤ items.size) (h : ItemsOf (fun i v => items[i + 1]? = some v) acc (items.size - 1)) : acc.toList = items.toList.drop 1 := by
  apply List.ext_getElem?
  intro i
  rw [List.getElem?_drop, Array.getElem?_toList, Array.getElem?_toList]
  by_cases hi : i < acc.size
  · have e := h.2 i acc[i] (Array.getElem?_eq_getElem hi)
    rw [Array.getElem?_eq_getElem hi, Nat.add_comm 1 i, e]
  · have := h.1
    rw [Array.getElem?_eq_none (by omega), Array.getElem?_eq_none (by omega)]
theorem unpackItems_star1 {t : Addr} {items : Array Value} {v0 : Value} {Q : List Value → Shared → Prop} (hh : A.handled = none) (ht : s.heap.IsTuple t items) (h0 : items[0]? = some v0) (hz : items.size ≤ sizeLine)
    (hQ : ∀ s' : Shared, (∀ b o, s.heap.get? b = some o → s'.heap.get? b = some o) → s'.gens = s.gens → s'.drawn = s.drawn → s'.os = s.os → s.toks ≤ s'.toks →
      Q [v0, .ref s'.heap.objs.size] { s' with heap := s'.heap.push { cls := .type "list", data := .seq (items.toList.drop 1).toArray } }) : wpAny (model prog w) A (unpackItems (.ref t) 2 (some 1)) Q E s := by
  have h1 : 1 ≤ items.size := by
    rcases Nat.eq_zero_or_pos items.size with e | e
    · rw [Array.getElem?_eq_none (by omega)] at h0
      cases h0
    · exact e
  have hlt : t < s.heap.objs.size := by obtain ⟨_, e, _⟩ := ht; exact Heap.lt_size e
  have hne : t ≠ s.heap.objs.size := Nat.ne_of_lt hlt
  unfold unpackItems
  refine wpAny_bind ?_
  unfold notIterableAtAll
  refine wpAny_bind (wpAny_specialOf ht.typeIs slot_tuple_iter.lookup (wpAny_pure ?_))
  simp only [Bool.false_eq_true, if_false]
  refine wpAny_bind (wpAny_holding (wpAny_pyIter_tuple ht (wpAny_bind (wpAny_holding (wpAny_draw_tuple hne 1 0 _ _ ⟨_, Heap.get?_push_size _ rfl, rfl, rfl⟩ (ht.push _) (by omega) fun ha hit hs => ?_)))))
  have e1 : List.take 1 (List.drop 0 items.toList) = [v0] := by
    rw [List.drop_zero]
    cases hl : items.toList with
    | nil =>
      have : items.size = 0 := by rw [← Array.length_toList, hl]; rfl
      omega
    | cons x r =>
      have : items.toList[0]? = some v0 := by rw [Array.getElem?_toList]; exact h0
      rw [hl] at this
      have : x = v0 := Option.some.inj this
      rw [this]
      rfl
  rw [e1, if_neg (by simp)]
  have hta : ha.IsTuple t items := (ht.push _).extBut hs.extBut hne
  have W := walks_from1 (prog := prog) (w := w) (A := A.in1) hh s.heap.objs.size t hne items h1
  refine wpAny_bind (wpAny_holding (wpAny_collect_iter (n := items.size - 1) (T := "tuple_iterator") (.inr (.inr (.inr rfl))) W (fun i s st => st.1.typeIs) ⟨hit, hta⟩ (fun b hb => ?_) (by simp) (fun s2 acc m hacc => ?_) (Nat.le_trans (Nat.sub_le _ _) hz)))
  · show b < ha.objs.size
    have hi : s.heap.objs.size < ha.objs.size := by obtain ⟨_, e, _⟩ := hit; exact Heap.lt_size e
    rcases List.mem_cons.mp hb with rfl | hb
    · exact hi
    · rcases List.mem_cons.mp hb with rfl | hb
      · exact Nat.lt_trans hlt hi
      · cases hb
  · rw [items_from1 h1 hacc]
    have el : (items.toList.drop 1).length = items.size - 1 := by rw [List.length_drop, Array.length_toList]
    have em : (items.toList.drop 1).take ((items.toList.drop 1).length - (2 - 1 - 1)) = items.toList.drop 1 := List.take_of_length_le (by omega)
    have ed : (items.toList.drop 1).drop ((items.toList.drop 1).length - (2 - 1 - 1)) = [] := List.drop_of_length_le (by omega)
    rw [if_neg (by omega), em, ed]
    refine wpAny_bind (wpAny_newObj_type (wpAny_pure (hQ s2 (fun b o eb => m.heap b o (fun hb => ?_) (hs.extBut b o (fun z => ?_) (Heap.get?_push_of_some _ eb))) m.gens m.drawn m.os m.toks)) ?_)
    · rw [List.mem_singleton.mp hb] at eb
      exact Nat.lt_irrefl _ (Heap.lt_size eb)
    · rw [z] at eb
      exact Nat.lt_irrefl _ (Heap.lt_size eb)
    · show (items.toList.drop 1).toArray.size ≤ sizeLine
      rw [List.size_toArray, el]
      omega
end
/-- a, *b = a tuple of at least one item -/
def gStar1 (K : PySem.W.Frag) (t u : TG) : TG := fun v σ H Q => ∃ a x xs, v = .ref a ∧ SqT K H a (x :: xs) ∧ ∀ p, H p = none → t x σ (upd H p (.lst xs)) fun σ' H' => u (.ref p) σ' H' Q
theorem pg_star1 {X : Cx} {e f : Expr} {k : Nat} {t u : TG} {p pos : Pos} (hc : X.calm = true) (h1 : PG X e t) (h2 : PG X f u)
    (hn : (assignEach [e, .Starred f p] X.env) = [(false, assign e X.env), (true, assign f X.env)] := by rfl) : PG X (.Tuple [e, .Starred f p] k pos) (gStar1 X.K t u) := by
  refine ⟨fun pins s σ H v w Q I r hw => ?_⟩
  obtain ⟨a, x, xs, rfl, hq, hw⟩ := hw
  cases r
  obtain ⟨its, rv, ht, hz⟩ := I.tuple hq
  cases rv with
  | @cons _ v0 _ rest r0 rr =>
    rw [assign_Tuple]
    refine wpAny_bind (wpAny_standAt ?_)
    unfold unpack
    rw [hn]
    have hl := rr.length
    refine wpAny_bind (wpAny_holding (unpackItems_star1 (I.ok.hd hc) (show s.heap.IsTuple a _ from ht) (v0 := v0) (by simp) (by rw [List.size_toArray]; simp only [List.length_cons]; rw [← hl]; simpa using hz) fun s' kp hg hd ho htk => ?_))
    have I1 : Inv X pins σ H { s with heap := s'.heap, toks := s'.toks } := I.kept (t' := s'.toks) fun b o e => kp b o e
    have es : ({ s' with heap := s'.heap.push { cls := .type "list", data := .seq ((v0 :: rest).toArray.toList.drop 1).toArray } } : Shared) = { s with heap := s'.heap.push { cls := .type "list", data := .seq rest.toArray }, toks := s'.toks } := by
      obtain ⟨a1, a2, a3, a4, a5⟩ := s'
      obtain rfl := hg
      obtain rfl := hd
      obtain rfl := ho
      simp
    rw [es]
    have hfree : H s'.heap.objs.size = none := I1.hok.fresh (Nat.le_refl _)
    have I2 : Inv X pins σ (upd H s'.heap.objs.size (.lst xs)) { s with heap := s'.heap.push { cls := .type "list", data := .seq rest.toArray }, toks := s'.toks } :=
      I1.laid (t' := s'.toks) (o := .lst xs) (fun _ _ z => Heap.get?_push_of_some _ z) (Nat.le_refl _) ⟨by simp only [List.length_cons] at hz; omega, _, 0, rr, Heap.get?_push_size _ rfl⟩
    refine assignInOrder_cons (thn (h1.run pins _ σ _ _ _ _ I2 r0 (hw _ hfree)) fun _ s3 ⟨σ3, H3, I3, q3⟩ => ?_)
    exact assignInOrder_cons (thn (h2.run pins s3 σ3 H3 (.ref s'.heap.objs.size) _ Q I3 rfl q3) fun _ s4 ⟨σ4, H4, I4, q4⟩ => assignInOrder_nil ⟨σ4, H4, I4, q4⟩)
end Sho
set_option Elab.async false
set_option linter.all false
set_option maxRecDepth 100000
set_option maxHeartbeats 2000000
/-! A def of the module as a value, called with a star: f(x, *y), f a local name. -/
namespace Sho
open PySem PySem.Spec PyProof.Rows L2 StX
section
variable {X : Cx} {CX : CXT} {k : Nat} {f : Addr} {sp : Sp} {E : XK} {e fe : Expr} {es : List Expr} {tf : TE} {t : TA} {pos : Pos}
def tFnV (f : Addr) (sp : Sp) (E : XK) (tf : TE) (t : TA) : TE := fun σ H Q => tf σ H fun y H1 => y = V.ref f ∧ t σ H1 fun vs H2 => sp vs H2 Q E
theorem pe_fnVS (hf : PE X fe tf) (F : FnR X.prog X.w X.K X.mg X.base CX k f sp) (hr : Room k X.A) (hk : PySem.W.keepIn X.K (.ref f) = true) (hx : Passes CX X E) (ha : PA X (e :: es) t)
    (ht : eval (.Call fe (e :: es) [] pos) X.env = (do callWith pos (← eval fe X.env) [] (backTo pos (starEach (e :: es) X.env)) (backToKw pos (keywordEach [] X.env))) := by rfl)
    (he : starEach (e :: es) X.env = (false, eval e X.env) :: starEach es X.env := by rfl) (hst : (backTo pos (starEach es X.env)).any (·.1) = true := by rfl) : PE X (.Call fe (e :: es) [] pos) (tFnV f sp E tf t) := by
  refine ⟨fun pins s σ H Q I h => ?_⟩
  refine Call_ (thn (hf.run pins s σ H _ I h) fun u s1 ⟨y, H1, I1, ry, ey, q⟩ => ?_) ht
  subst ey
  obtain rfl : u = Value.ref f := ry
  refine PySem.W.callWith_S2 (h₀ := X.base) I.ok.mod.kin hk (thn (ha.run pos pins s1 σ H1 _ I1 q) fun us s2 ⟨vs, H2, I2, r, q2⟩ => ⟨I2.kIn, ?_⟩) he hst
  exact wpAny_call (run_fnR F hr hx I2 r q2)
end
end Sho
set_option Elab.async false
set_option linter.all false
set_option maxRecDepth 100000
set_option maxHeartbeats 8000000
set_option autoImplicit false
/-! _check_operations, _after. -/
namespace Lv
open PySem L2 Sho NdefX Shg Sh1 Sh4
/-- what the written dicts say of the operations' words -/
structure OpsD (K : PySem.W.Frag) (mg : Str → Option Value) (w : World) (dA dI fC fG fW : Addr) : Prop where
  gA : mg "ACTIONS" = some (.ref dA)
  gI : mg "ITEM_COUNTS" = some (.ref dI)
  A : ∃ es n, KDict K w dA es n
  I : ∃ es n, KDict K w dI es n
  aC : PySem.W.nsIn K dA "come" = some (some (.ref fC))
  aG : PySem.W.nsIn K dA "go" = some (some (.ref fG))
  aW : PySem.W.nsIn K dA "wait" = some (some (.ref fW))
  iC : ∃ t, PySem.W.nsIn K dI "come" = some (some (.int 3 t))
  iG : ∃ t, PySem.W.nsIn K dI "go" = some (some (.int 2 t))
  iW : ∃ t, PySem.W.nsIn K dI "wait" = some (some (.int 2 t))
  iJ : PySem.W.nsIn K dI "jump" = some none
  iU : PySem.W.nsIn K dI "undo" = some none
def known : List Str := ["come", "go", "wait", "jump", "undo"]
def cntW (z : Str) : V := if z = "come" then .int 3 else if z = "go" then .int 2 else if z = "wait" then .int 2 else .non
theorem OpsD.cnt {K : PySem.W.Frag} {mg : Str → Option Value} {w : World} {dA dI fC fG fW : Addr} (D : OpsD K mg w dA dI fC fG fW) {z : Str} (h : z ∈ known) : ∃ r, PySem.W.nsIn K dI z = some r ∧ RelV (cntW z) (r.getD .none) := by
  unfold known at h
  simp only [List.mem_cons, List.not_mem_nil, or_false] at h
  rcases h with rfl | rfl | rfl | rfl | rfl
  · obtain ⟨t, e⟩ := D.iC
    exact ⟨_, e, t, rfl⟩
  · obtain ⟨t, e⟩ := D.iG
    exact ⟨_, e, t, rfl⟩
  · obtain ⟨t, e⟩ := D.iW
    exact ⟨_, e, t, rfl⟩
  · exact ⟨_, D.iJ, show RelV (cntW "jump") Value.none by rw [show cntW "jump" = V.non by decide +kernel]; rfl⟩
  · exact ⟨_, D.iU, show RelV (cntW "undo") Value.none by rw [show cntW "undo" = V.non by decide +kernel]; rfl⟩
/-- an operation as it is passed: one, or what is none -/
inductive Arg where
  | op (o : Op)
  | bad (ws : List V)
def Arg.vs : Arg → List V
  | .op o => opVs (some o)
  | .bad ws => ws
def Arg.isBad : Arg → Bool
  | .op _ => false
  | .bad _ => true
def BadVs (ws : List V) : Prop := ws = [] ∨ ∃ z r, ws = .str z :: r ∧ z ∈ known ∧ cntW z ≠ .int ((r.length + 1 : Nat) : Int)
def ArgAt (H : Hp) (v : V) (x : Arg) : Prop := ∃ p, v = .ref p ∧ H p = some (.tup x.vs) ∧ ∀ ws, x = .bad ws → BadVs ws
def badFrom : Nat → List Arg → Option Nat
  | _, [] => none
  | i, x :: r => if x.isBad = true then some i else badFrom (i + 1) r
theorem badFrom_cons (i : Nat) (x : Arg) (r : List Arg) : badFrom i (x :: r) = if x.isBad = true then some i else badFrom (i + 1) r := rfl
theorem badFrom_ops : ∀ (os : List Op) (i : Nat), badFrom i (os.map Arg.op) = none
  | [], _ => rfl
  | _ :: r, i => badFrom_ops r (i + 1)
theorem ArgAt.keep {H H' : Hp} {v : V} {x : Arg} (k : KeepF H H') (h : ArgAt H v x) : ArgAt H' v x := by
  obtain ⟨p, rfl, e, b⟩ := h
  exact ⟨p, rfl, k _ _ e trivial, b⟩
/-- an operation's items are of sizes that texts of errors bear -/
def OpOk : Op → Prop
  | .come n k => n.length ≤ 1000 ∧ k.natAbs.log2 < 1920
  | .go n => n.length ≤ 1000
  | .wait t => t.natAbs.log2 < 1920
abbrev nfOpn (cc cda : Addr) : NF := ⟨"__init__", "InvalidOperation.__init__", defArgs sInvalidOperation_Init, defBody sInvalidOperation_Init, defScope sInvalidOperation_Init, [("__class__", cc)], cda⟩
section
variable {X : Cx} {CX : CXT} {C : Addr} {k : Nat} {kws : List Keyword} {te : L2.TA} {p pos : Pos}
theorem pmk_opn (EC : ErrC X.prog X.K X.mg "InvalidOperation" "index" nfOpn C) (hr : Room (k + 2) X.A) (hx : Passes CX X (fun _ _ _ => False)) (hg : Gl X "InvalidOperation") (hkw : PK X kws te) (hall : (backToKw pos (keywordEach kws X.env)).all (·.1.isSome) = true)
    (hks : (backToKw pos (keywordEach kws X.env)).filterMap (·.1) = [("index" : Str)]) (hpl : ((backTo pos (starEach [] X.env)).any (·.1) || (backToKw pos (keywordEach kws X.env)).any (·.1.isNone)) = false) : PMk X (.Call (.Name "InvalidOperation" p) [] kws pos) (tMkW C "index" te) := by
  obtain ⟨f, cc, cda, T, iC, tI⟩ := EC.txt
  have S : NScope ["self", "index", "__class__"] ["self", "index"] ["__class__"] (defScope sInvalidOperation_Init) := nscope_by (by decide +kernel)
  refine pmk_kw (F := nfOpn cc cda) (fld := "index") (k := k) T EC.cls EC.xf EC.no iC tI S hr hx hg EC.gm hkw hall hks hpl rfl (fun s doc pm an ct xa u => .of_eq rfl) (fun A outer s H E xa v hv => ?_) (fun L => rfl) (fun L => rfl) (fun L => rfl)
  refine ⟨_, pa_cons (pe_joined (.cons pe_str (.cons (pe_fmt (pv 1)) (.cons pe_str .nil)))) pa_nil, fun R hR => ?_⟩
  have e0 : (Str.empty ++ Str.ofString "operation ").length ≤ 30 := by decide +kernel
  have e3 : (Str.ofString " is not formed as operations are").length ≤ 40 := by decide +kernel
  refine ⟨_, rfl, Nat.le_trans e0 (by decide), v, rfl, ?_⟩
  rcases tells_len hv with ⟨y, rfl, hy⟩ | ⟨i, rfl, hi, hl⟩
  · have l1 := cat_le e0 hy
    exact .inl ⟨y, rfl, Nat.le_trans hy (by decide), y, rfl, Nat.le_trans l1 (by decide), _, rfl, Nat.le_trans (cat_le l1 e3) (by decide), hR _⟩
  · have l1 := cat_le e0 hl
    exact .inr ⟨i, rfl, hi, _, rfl, Nat.le_trans l1 (by decide), _, rfl, Nat.le_trans (cat_le l1 e3) (by decide), hR _⟩
end
section
variable {P : Program} {w : World} {K : PySem.W.Frag} {mg : Str → Option Value} {base : Heap}
def spCheckOps (CO : Addr) : Sp := fun vs H Q E => ∃ (t : Addr) (ws : List V) (xs : List Arg), vs = [.ref t] ∧ H t = some (.tup ws) ∧ PySem.Paired (ArgAt H) ws xs ∧ xs.length ≤ 100000 ∧
  (badFrom 0 xs = none → ∀ H', Same H H' → Q .non H') ∧ ∀ i, badFrom 0 xs = some i → ∀ (H' : Hp) (d : Addr), Same H H' → H' d = some (.xd [(("index" : Str), .int (i : Nat))]) → E (.ref CO) (some d) H'
theorem scCheckOps : FnScope ["operations", "index", "operation"] ["operations"] (defScope sCheckOperations) := ⟨rfl, rfl, rfl, by decide +kernel, rfl, by decide +kernel, by decide +kernel⟩
theorem arg_test (D : ∃ m, m = 0) (x : Arg) (hb : ∀ ws, x = .bad ws → BadVs ws) : (x.vs = [] ∧ x.isBad = true) ∨ ∃ z r, x.vs = .str z :: r ∧ z ∈ known ∧ scal (cntW z) (.int ((r.length + 1 : Nat) : Int)) = true ∧ (!decide (cntW z = .int ((r.length + 1 : Nat) : Int))) = x.isBad := by
  have sc : ∀ z (i : Int), scal (cntW z) (.int i) = true := fun z i => by
    unfold cntW
    split
    · rfl
    · split
      · rfl
      · split <;> rfl
  cases x with
  | op o =>
    refine .inr ?_
    cases o with
    | come n k => exact ⟨_, _, rfl, by decide +kernel, sc _ _, by show (!decide (cntW "come" = .int 3)) = false; decide +kernel⟩
    | go n => exact ⟨_, _, rfl, by decide +kernel, sc _ _, by show (!decide (cntW "go" = .int 2)) = false; decide +kernel⟩
    | wait n => exact ⟨_, _, rfl, by decide +kernel, sc _ _, by show (!decide (cntW "wait" = .int 2)) = false; decide +kernel⟩
  | bad ws =>
    rcases hb ws rfl with e | ⟨z, r, e, hz, hc⟩
    · exact .inl ⟨e, rfl⟩
    · exact .inr ⟨z, r, e, hz, sc _ _, by rw [decide_eq_false hc]; rfl⟩
theorem ok_checkOps {f CO dA dI fC fG fW : Addr} {fd : FuncData} (F : Fun K "_check_operations" "_check_operations" sCheckOperations f fd) (B : Shg.Blt mg) (D : OpsD K mg w dA dI fC fG fW) (EO : ErrC P K mg "InvalidOperation" "index" nfOpn CO) : FnOk P w K mg base (L2.CX P w) 3 f fd ["operations"] (spCheckOps CO) := by
  refine F.okX scCheckOps (fun vs H Q E h => ?_) (fun cdv A outer s H vs Q E hr h => ?_)
  · obtain ⟨t, ws, xs, rfl, _⟩ := h
    rfl
  · obtain ⟨t, ws, xs, rfl, ht, pw, hlen, kOk, kBad⟩ := h
    have nd := scCheckOps.nd
    have lw := pair_len pw
    refine ⟨_, (pss_one (ps_for (passes_of rfl) rfl (pi_enumT (by rfl) B.enum (pa_cons (pv 0) pa_nil)) (pg_tup rfl (pgs_cons (pg_name (i := 1) nd rfl (Or.inl rfl)) (pgs_cons (pg_name (i := 2) nd rfl (Or.inl rfl)) pgs_nil))) (pss_one (ps_if (PW.pt (pw_or (pt_cmpR op_eq (pe_callB call_len_seq (by rfl) B.len PySem.boot_len (pa_cons (pv 2) pa_nil)) pe_int (nomark _)) (pw_or1 (pt_cmpR op_ne (pe_kget (pe_glob (v := .ref dI) rfl D.gI rfl) (pe_ix ix_tup (pv 2) pe_int (fun _ _ => rfl)) ⟨rfl, rfl, rfl, rfl⟩) (pe_callB call_len_seq (by rfl) B.len PySem.boot_len (pa_cons (pv 2) pa_nil)) (nomark _))))) (pss_one (ps_raise rfl (takes_of rfl rfl rfl rfl) (pmk_opn (k := 0) EO (hr.mono (by decide)) passL (by rfl) (pk_cons (pv 1) pk_nil) rfl rfl rfl))) pss_nil)))), ?_⟩
    refine ⟨_, rfl, t, ws, rfl, SqT.of ht, for_it walk_enumT (fun i σ H2 => ∃ o1 o2, σ = [some (.ref t), o1, o2] ∧ Same H H2 ∧ badFrom i (xs.drop i) = badFrom 0 xs)
      ⟨none, none, rfl, Same.refl H, rfl⟩ (fun i σ H2 _ ⟨_, _, _, s2, _⟩ => SqT.of (s2 _ _ ht)) ?_ ?_⟩
    · rintro i y σ H2 H3 hi ⟨o1, o2, rfl, s2, eb⟩ ⟨T, y1, y2, rfl, hT, rfl, e1, e3⟩
      cases e1
      obtain ⟨x, hx, p, rfl, hp, hb⟩ := pair_get pw e3
      have s3 := s2.trans (same_upd (o := .tup [.int (i : Nat), .ref p]) hT)
      refine ⟨T, _, rfl, SqT.of upd_same, rfl, _, _, rfl, _, _, rfl, rfl, ?_⟩
      generalize upd H2 T (.tup [.int (i : Nat), .ref p]) = H4 at *
      have hp4 := s3 _ _ hp
      have hdrop : xs.drop i = x :: xs.drop (i + 1) := by
        obtain ⟨lt, e⟩ := List.getElem?_eq_some_iff.mp hx
        rw [List.drop_eq_getElem_cons lt, e]
      rw [hdrop, badFrom_cons] at eb
      obtain ⟨es, en, DI⟩ := D.I
      refine or_ans (decide (x.vs = [])) x.isBad (fun R h => ⟨_, rfl, p, _, rfl, .inr (SqT.of hp4), rfl, _, rfl, ?_⟩) (fun H5 s5 c5 R h => ?_) fun H5 s5 => ?_
      · have e : decide (V.int (x.vs.length : Nat) = V.int 0) = decide (x.vs = []) := by
          refine decide_eq_decide.mpr ⟨fun z => List.length_eq_zero_iff.mp (by injection z with z; omega), fun z => by rw [z]; rfl⟩
        rw [e]
        exact h H4 (Same.refl _)
      · rcases arg_test ⟨0, rfl⟩ x hb with ⟨e, _⟩ | ⟨z, r, e, hz, sc, et⟩
        · rw [e] at c5
          cases c5
        · obtain ⟨r0, er, rv⟩ := D.cnt hz
          have hp5 := s5 _ _ hp4
          rw [e] at hp5
          refine ⟨dI, es, en, rfl, DI, _, rfl, p, _, 0, .str z, rfl, rfl, SqT.of hp5, atI_nat (j := 0) rfl, z, r0, _, rfl, er, rv, _, rfl, p, _, rfl, .inr (SqT.of hp5), sc, _, rfl, ?_⟩
          have := h H5 (Same.refl _)
          rw [← et] at this
          exact this
      · have eo : (decide (x.vs = []) || x.isBad) = x.isBad := by
          rcases arg_test ⟨0, rfl⟩ x hb with ⟨e, e2⟩ | ⟨z, r, e, _⟩
          · rw [e2, Bool.or_true]
          · rw [e, decide_eq_false (by intro q; cases q), Bool.false_or]
        rw [eo]
        cases c : x.isBad with
        | true =>
          rw [if_pos c] at eb
          refine iteT ⟨_, rfl, _, rfl, .inr ⟨_, rfl, nat_log (Nat.le_trans (Nat.le_of_lt hi) (by rw [lw]; exact Nat.le_trans hlen (by decide)))⟩, fun d hd => ?_⟩
          exact kBad i eb.symm _ d ((s3.trans s5).trans (same_upd hd)) upd_same
        | false =>
          rw [c] at eb
          exact iteF ⟨_, _, rfl, s3.trans s5, eb⟩
    · rintro σ H2 ⟨o1, o2, rfl, s2, eb⟩
      rw [lw, List.drop_length] at eb
      exact kOk eb.symm H2 s2
/-- what is wanted of an operation, told of a later heap -/
theorem Leads.same {C CN CB CE CU : Addr} {H H1 : Hp} {Q : VK} {E : XK} {m : Mo} {o : Op} (s : Same H H1) (h : Leads C CN CB CE CU H Q E m o) : Leads C CN CB CE CU H1 Q E m o := by
  refine ⟨fun m' r e H' p a v s' => fun e1 e2 e3 e4 => h.1 m' r e H' p a v (s.trans s') e1 e2 e3 fun l el => s.free (e4 l el), fun e ee => ?_⟩
  have := h.2 e ee
  cases e with
  | guest n => exact fun H' d s' => this H' d (s.trans s')
  | name => exact fun H' s' => this H' (s.trans s')
  | number => exact fun H' s' => this H' (s.trans s')
  | early => exact fun H' s' => this H' (s.trans s')
def spAfter (K : PySem.W.Frag) (mg : Str → Option Value) (C fI CN CB CE CU : Addr) : Sp := fun vs H Q E => ∃ (a p : Addr) (m : Mo) (o : Op), vs = [.ref a, .ref p] ∧ MoAt C H a m ∧ Fit 999 m ∧ H p = some (.tup (opVs (some o))) ∧ OpOk o ∧ Leads C CN CB CE CU H Q E m o
abbrev NAF : List Str := ["moment", "operation", "word", "details", "action"]
theorem scAfter : FnScope NAF ["moment", "operation"] (defScope sAfter) := ⟨rfl, rfl, rfl, by decide +kernel, rfl, by decide +kernel, by decide +kernel⟩
theorem ok_after {f dA dI C fI CN CB CE CU fC fG fW : Addr} {fd fdC fdG fdW : FuncData} (F : Fun K "_after" "_after" sAfter f fd) (D : OpsD K mg w dA dI fC fG fW)
    (GC : FnOk P w K mg base (L2.CX P w) 3 fC fdC ["moment", "name", "number"] (spCome K mg C fI CN CB CE CU)) (kC : PySem.W.keepIn K (.ref fC) = true) (bC : Binds K fdC ["moment", "name", "number"] [])
    (GG : FnOk P w K mg base (L2.CX P w) 4 fG fdG ["moment", "name"] (spGo K mg C fI CN CB CE CU)) (kG : PySem.W.keepIn K (.ref fG) = true) (bG : Binds K fdG ["moment", "name"] [])
    (GW : FnOk P w K mg base (L2.CX P w) 3 fW fdW ["moment", "ticks"] (spWait K mg C fI CN CB CE CU)) (kW : PySem.W.keepIn K (.ref fW) = true) (bW : Binds K fdW ["moment", "ticks"] []) :
    FnOk P w K mg base (L2.CX P w) 5 f fd ["moment", "operation"] (spAfter K mg C fI CN CB CE CU) := by
  refine F.okX scAfter (fun vs H Q E h => ?_) (fun cdv A outer s H vs Q E hr h => ?_)
  · obtain ⟨a, p, m, o, rfl, _⟩ := h
    rfl
  · obtain ⟨a, p, m, o, rfl, ma, fit, hp, ho, ld⟩ := h
    have nd := scAfter.nd
    have pass : Passes (L2.CX P w) (cxOf (L2.CX P w) P w K mg base NAF "_after" (defScope sAfter) f cdv A outer s H E) E := passes_call (takes_of rfl rfl rfl rfl) fun _ _ _ _ z => z
    obtain ⟨es, n, DA⟩ := D.A
    refine ⟨_, (pss_cons (ps_asg (pv 1) (pg_star1 rfl (pg_name (i := 2) nd rfl (Or.inl rfl)) (pg_name (i := 3) nd rfl (Or.inl rfl))))
      (pss_cons (ps_set (i := 4) nd rfl (Or.inl rfl) (pe_ix ix_kdict (pe_glob (v := .ref dA) rfl D.gA rfl) (pv 2) (fun _ _ => rfl)))
      (pss_one (ps_ret (pe_either (pe_fnVS (pv 4) (fnr_of GC bC) (hr.mono (by decide)) kC pass (pa_cons (pv 0) (StX.pa_star (pv 3) pa_nil))) (pe_either (pe_fnVS (pv 4) (fnr_of GG bG) (hr.mono (by decide)) kG pass (pa_cons (pv 0) (StX.pa_star (pv 3) pa_nil))) (pe_fnVS (pv 4) (fnr_of GW bW) (hr.mono (by decide)) kW pass (pa_cons (pv 0) (StX.pa_star (pv 3) pa_nil))))))))), ?_⟩
    cases o with
    | come z k =>
      refine ⟨_, rfl, p, _, _, rfl, SqT.of hp, fun q hq => ?_⟩
      have s1 := same_upd (o := .lst [.str z, .int k]) hq
      refine ⟨_, rfl, dA, "come", .ref fC, rfl, rfl, ⟨es, n, _, DA.at_, DA.lit, D.aC, rfl⟩, name_of ?_⟩
      exact .inl ⟨_, rfl, rfl, _, rfl, _, rfl, q, [.str z, .int k], rfl, .inr (SqL.of upd_same), a, z, k, m, rfl, ho.1, ho.2, ma.keep (.of s1), fit, ld.same s1⟩
    | go z =>
      refine ⟨_, rfl, p, _, _, rfl, SqT.of hp, fun q hq => ?_⟩
      have s1 := same_upd (o := .lst [.str z]) hq
      refine ⟨_, rfl, dA, "go", .ref fG, rfl, rfl, ⟨es, n, _, DA.at_, DA.lit, D.aG, rfl⟩, name_of ?_⟩
      exact .inr (.inl ⟨_, rfl, rfl, _, rfl, _, rfl, q, [.str z], rfl, .inr (SqL.of upd_same), a, z, m, rfl, ho, ma.keep (.of s1), fit, ld.same s1⟩)
    | wait t =>
      refine ⟨_, rfl, p, _, _, rfl, SqT.of hp, fun q hq => ?_⟩
      have s1 := same_upd (o := .lst [.int t]) hq
      refine ⟨_, rfl, dA, "wait", .ref fW, rfl, rfl, ⟨es, n, _, DA.at_, DA.lit, D.aW, rfl⟩, name_of ?_⟩
      exact .inr (.inr ⟨_, rfl, rfl, _, rfl, _, rfl, q, [.int t], rfl, .inr (SqL.of upd_same), a, t, m, rfl, ho, ma.keep (.of s1), fit, ld.same s1⟩)
end
end Lv
set_option Elab.async false
set_option linter.all false
set_option maxRecDepth 100000
set_option maxHeartbeats 2000000
/-! Answers of readings that stand in every law. -/
namespace Shg
open PySem L2 Sho NdefX
/-- a op b op c of ints -/
theorem chainI {f g : Int → Int → Bool} {ta tb tc : TE} {σ : L2.St} {H : Hp} {R : Bool → Hp → Prop} (i j k : Int) (h1 : ∀ Q : VK, Q (.int i) H → ta σ H Q) (h2 : ∀ Q : VK, Q (.int j) H → tb σ H Q) (h3 : ∀ Q : VK, Q (.int k) H → tc σ H Q) (h : R (f i j && g j k) H) :
    tTest (tChain (rI0 fun i j => .bl (f i j)) (rI0 fun i j => .bl (g i j)) ta tb tc) σ H R := by
  refine h1 _ (h2 _ ⟨i, j, rfl, rfl, f i j, rfl, ?_⟩)
  cases e : f i j with
  | false =>
    rw [if_neg Bool.false_ne_true]
    rw [e] at h
    exact ⟨_, rfl, h⟩
  | true =>
    rw [if_pos rfl]
    rw [e] at h
    exact h3 _ ⟨j, k, rfl, rfl, _, rfl, h⟩
theorem chainN {f g : Int → Int → Bool} {ta tb tc : TE} {σ : L2.St} {H : Hp} {R : Bool → Hp → Prop} (i j k : Int) (h1 : ∀ Q : VK, Q (.int i) H → ta σ H Q) (h2 : ∀ Q : VK, Q (.int j) H → tb σ H Q) (h3 : ∀ Q : VK, Q (.int k) H → tc σ H Q) (h : R (!(f i j && g j k)) H) :
    tNot (tTest (tChain (rI0 fun i j => .bl (f i j)) (rI0 fun i j => .bl (g i j)) ta tb tc)) σ H R := chainI (R := fun b H' => R (!b) H') i j k h1 h2 h3 h
/-- a, b = x, y: what is known of x -/
theorem par_rel {i j : Nat} {te : TE} {tr : TA} {u : TS} {D : Ends} {σ : L2.St} {H : Hp} (P : V → Hp → Prop) (h1 : ∀ R : VK, (∀ v H', P v H' → R v H') → te σ H R)
    (h2 : ∀ v H', P v H' → tr σ H' fun ws H2 => ∃ v1 w, v :: ws = [v1, w] ∧ u D ((σ.set i (some v1)).set j (some w)) H2) : tSeq (tPar i j (tCons te tr)) u D σ H := h1 _ h2
/-- paired place by place -/
theorem pair_of {α β : Type} {R : α → β → Prop} : ∀ {as : List α} {bs : List β}, as.length = bs.length → (∀ (i : Nat) a b, as[i]? = some a → bs[i]? = some b → R a b) → PySem.Paired R as bs
  | [], [], _, _ => .nil
  | [], _ :: _, h, _ => by simp at h
  | _ :: _, [], h, _ => by simp at h
  | a :: as, b :: bs, h, k => .cons (k 0 a b rfl rfl) (pair_of (by simpa using h) fun i x y hx hy => k (i + 1) x y hx hy)
end Shg
set_option Elab.async false
set_option linter.all false
set_option maxRecDepth 100000
set_option maxHeartbeats 8000000
set_option autoImplicit false
/-! LivePile: __init__, _moment, _moments_in_effect, now, lifted_pairs. -/
namespace Lv
open PySem L2 Sho NdefX Shg Sh1 Sh4
/-- what the written part says of LivePile -/
structure LivC (K : PySem.W.Frag) (mg : Str → Option Value) (C fI : Addr) : Prop where
  gm : mg "LivePile" = some (.ref C)
  cl : Cls K C
  n1 : NoAttr K C "_moments"
  n2 : NoAttr K C "_present"
  mkr : Mk K C fI
def MoV (C : Addr) (H : Hp) (v : V) (m : Mo) : Prop := ∃ a, v = .ref a ∧ MoAt C H a m
theorem MoV.keep {C : Addr} {H H' : Hp} {v : V} {m : Mo} (k : KeepF H H') (h : MoV C H v m) : MoV C H' v m := by
  obtain ⟨a, e, h⟩ := h
  exact ⟨a, e, h.keep k⟩
abbrev liF (L : Addr) (k : Nat) : List (Str × V) := [("_moments", .ref L), ("_present", .int (k : Nat))]
/-- a live pile: its moments, of which k is the present one -/
structure LiveAt (C CL : Addr) (H : Hp) (x L : Addr) (ms : List Mo) (k : Nat) : Prop where
  ex : ∃ dx ws, H x = some (.ins CL dx (liF L k)) ∧ H L = some (.lst ws) ∧ PySem.Paired (MoV C H) ws ms
  lt : k < ms.length
  few : ms.length ≤ 900
  fit : ∀ i m, ms[i]? = some m → Fit i m
theorem nfz_ins {CL dx L : Addr} {k : Nat} : ¬ Fz (.ins CL dx (liF L k)) := fun h => by
  have : (2 : Nat) = 5 := h
  omega
theorem nfz_lst {ws : List V} : ¬ Fz (.lst ws) := fun h => h
theorem nfz_dK {ws : List (Key × V)} : ¬ Fz (.dK ws) := fun h => h
theorem LiveAt.same {C CL : Addr} {H H' : Hp} {x L : Addr} {ms : List Mo} {k : Nat} (h : LiveAt C CL H x L ms k) (s : Same H H') : LiveAt C CL H' x L ms k := by
  obtain ⟨dx, ws, h1, h2, h3⟩ := h.ex
  exact ⟨⟨dx, ws, s _ _ h1, s _ _ h2, pair_mono (fun _ _ z => z.keep (.of s)) h3⟩, h.lt, h.few, h.fit⟩
/-- through a change elsewhere -/
theorem LiveAt.keep {C CL : Addr} {H H' : Hp} {x L : Addr} {ms : List Mo} {k : Nat} (h : LiveAt C CL H x L ms k) (kf : KeepF H H') (e1 : H' x = H x) (e2 : H' L = H L) : LiveAt C CL H' x L ms k := by
  obtain ⟨dx, ws, h1, h2, h3⟩ := h.ex
  exact ⟨⟨dx, ws, e1.trans h1, e2.trans h2, pair_mono (fun _ _ z => z.keep kf) h3⟩, h.lt, h.few, h.fit⟩
theorem LiveAt.at_ {C CL : Addr} {H : Hp} {x L : Addr} {ms : List Mo} {k i : Nat} {m : Mo} {ws : List V} (h3 : PySem.Paired (MoV C H) ws ms) (hm : ms[i]? = some m) : ∃ a, ws[i]? = some (.ref a) ∧ MoAt C H a m := by
  have hi : i < ws.length := by rw [pair_len h3]; exact (List.getElem?_eq_some_iff.mp hm).1
  obtain ⟨y, hy, a, e, ma⟩ := pair_get h3 (List.getElem?_eq_getElem hi)
  rw [hm] at hy
  cases hy
  exact ⟨a, by rw [← e]; exact List.getElem?_eq_getElem hi, ma⟩
theorem lk_mom (a b : V) : List.lookup ("_moments" : Str) [(("_moments" : Str), a), (("_present" : Str), b)] = some a := by simp [List.lookup]
theorem lk_pre (a b : V) : List.lookup ("_present" : Str) [(("_moments" : Str), a), (("_present" : Str), b)] = some b := by
  have h : (("_present" : Str) == ("_moments" : Str)) = false := by decide +kernel
  simp [List.lookup, h]
def mo0 (n : Nat) : Mo := ⟨none, 0, List.replicate n [], 0, none⟩
section
variable {P : Program} {w : World} {K : PySem.W.Frag} {mg : Str → Option Value} {base : Heap}
abbrev NLI : List Str := ["self", "piles", "lying", "_"]
def spLInit (K : PySem.W.Frag) (mg : Str → Option Value) (C CL CB fI : Addr) : Sp := fun vs H Q E => ∃ (x dx : Addr) (n : Int), vs = [.ref x, .int n] ∧ LivC K mg CL fI ∧ H x = some (.ins CL dx []) ∧ n.natAbs.log2 < 1920 ∧
  (1 ≤ n ∧ n ≤ 9 → ∀ H' L, LiveAt C CL H' x L [mo0 n.toNat] 0 → H L = none → (∀ b o, H b = some o → b ≠ x → H' b = some o) → Q .non H') ∧ (¬ (1 ≤ n ∧ n ≤ 9) → E (.ref CB) none H)
theorem scLInit : FnScope NLI ["self", "piles"] (defScope sLivePile_Init) := ⟨rfl, rfl, rfl, by decide +kernel, rfl, by decide +kernel, by decide +kernel⟩
theorem seq_fld_lst {K : PySem.W.Frag} {ta te : TE} {tr : L2.TA} {f : Str} {u : TS} {D : Ends} {σ : L2.St} {H : Hp} (h : te σ H fun v H1 => tr σ H1 fun vs H2 => (v :: vs).length ≤ sizeLine ∧ ∀ p, H2 p = none → ta σ (upd H2 p (.lst (v :: vs))) fun x H3 => ∃ a C dx fs, x = .ref a ∧ H3 a = some (.ins C dx fs) ∧ Cls K C ∧ NoAttr K C f ∧ fs.length < 1000 ∧
    u D σ (upd H3 a (.ins C dx (putF f (.ref p) fs)))) : tSeq (sFld K ta (tLst (tCons te tr)) f) u D σ H := h
theorem putL1 (a : V) : putF "_moments" a [] = [(("_moments" : Str), a)] := rfl
theorem putL2 (a b : V) : putF "_present" b [(("_moments" : Str), a)] = [(("_moments" : Str), a), (("_present" : Str), b)] := rfl
theorem ok_linit {f C CL CB fI fK : Addr} {fd fdI fdK : FuncData} {kws : List (Str × V)} (F : FunD K "__init__" "LivePile.__init__" (defArgs sLivePile_Init) (defBody sLivePile_Init) (defScope sLivePile_Init) [] kws f fd)
    (B : Shg.Blt mg) (MC : MomC K mg C fI) (GI : FnOk P w K mg base CX0 1 fI fdI NMI (spMoInit K mg C fI)) (bI : Binds K fdI NMI []) (GK : FnOk P w K mg base (L2.CX P w) 2 fK fdK ["count"] (spCount CB)) (mK : mg "check_pile_count" = some (.ref fK)) (kK : PySem.W.keepIn K (.ref fK) = true) (bK : Binds K fdK ["count"] []) :
    FnOk P w K mg base (L2.CX P w) 4 f fd ["self", "piles"] (spLInit K mg C CL CB f) := by
  refine F.ok scLInit (fun vs H Q E h => ?_) (fun cdv A outer s H vs Q E hr h => ?_)
  · obtain ⟨x, dx, n, rfl, _⟩ := h
    rfl
  · obtain ⟨x, dx, n, rfl, LC, hx, hl, kOk, kBad⟩ := h
    have nd := scLInit.nd
    have pass : Passes (L2.CX P w) (cxOf (L2.CX P w) P w K mg base NLI "LivePile.__init__" (defScope sLivePile_Init) f cdv A outer s H E) E := passes_call (takes_of rfl rfl rfl rfl) fun _ _ _ _ z => z
    refine ⟨_, (pss_cons (ps_expr (pe_call GK (hr.mono (by decide)) rfl mK kK bK .nil pass (pa_cons (pv 1) pa_nil)))
      (pss_cons (ps_set (i := 2) nd rfl (Or.inl rfl) (pe_callTy call_tuple_of (by rfl) B.tuple (by decide +kernel) (pa_cons (pe_lc (own := [("_", 3)]) (g := gName 3) (tt := tYes) rfl nd (pi_range1 (by rfl) B.range (pa_cons (pv 1) pa_nil)) (blkOk_by (own := [("_", 3)]) (N := NLI) (sc := defScope sLivePile_Init) (by decide +kernel))
        (fun _ _ _ _ _ => (pg_name (i := 3) nd rfl (Or.inl rfl))) (fun _ _ _ _ _ => pts_nil) (fun _ _ _ _ _ => pe_tup pa_nil)) pa_nil)))
      (pss_cons (ps_fld (pv 0) (pe_lst (pa_cons (pe_make MC.mkr GI (hr.mono (by decide)) rfl MC.gm bI .nil pass0 (pa_cons (pe_tup pa_nil) (pa_cons pe_int (pa_cons (pv 2) (pa_cons pe_int (pa_cons pe_non pa_nil)))))) pa_nil)) rfl)
      (pss_one (ps_fld (pv 0) pe_int rfl))))), ?_⟩
    refine ⟨_, rfl, n, rfl, hl, fun hn => ?_, kBad⟩
    obtain ⟨c, rfl⟩ : ∃ c : Nat, n = (c : Int) := ⟨n.toNat, by omega⟩
    refine ⟨_, rfl, (c : Int), rfl, by omega, by omega, fun D hD => ?_⟩
    refine lc_rel walk_range (fun _ y H => ∃ p, y = .ref p ∧ H p = some (.tup [])) hD (by show (c : Int).toNat ≤ sizeLine; exact Nat.le_trans (by omega : (c : Int).toNat ≤ 9) (by decide)) (fun _ _ => trivial) (fun i y H H' st ⟨p, e, h⟩ => ⟨p, e, st _ _ h⟩) (fun i y H2 H3 hi s2 yy R k1 => ?_) fun H1 ys s1 e1 l1 a1 => ?_
    · obtain ⟨rfl, rfl⟩ := yy
      exact ⟨rfl, Nat.zero_le _, fun p hp => k1 _ _ (same_upd hp) ⟨p, rfl, upd_same⟩⟩
    rw [show (c : Int).toNat = c by omega] at l1
    refine ⟨D, ys, rfl, .inl ⟨SqL.of e1, fun t ht => name_of ?_⟩⟩
    have s2 := s1.trans (same_upd (o := .tup ys) ht)
    have et : (upd H1 t (.tup ys)) t = some (.tup ys) := upd_same
    have lt : LieT (upd H1 t (.tup ys)) t (List.replicate c []) := by
      refine ⟨ys, et, pair_of (by rw [l1, List.length_replicate]) fun i y z hy hz => ?_⟩
      obtain ⟨p, rfl, hp⟩ := a1 i y hy
      have : z = [] := (List.mem_replicate.mp (List.mem_of_getElem? hz)).2
      subst this
      exact ⟨p, [], rfl, by rw [upd_ne (ne_of_none hp ht)]; exact hp, .nil⟩
    generalize upd H1 t (.tup ys) = H2 at *
    refine seq_fld_lst (mo_new' MC (P := fun vs H5 => ∃ o, Same H2 H5 ∧ H5 o = some (.tup []) ∧ vs = [.ref o, .int 0, .ref t, .int 0, .non]) (fun R hR => ?_) (fun vs H5 ⟨o, s5, eo, ev⟩ y dx2 H6 s6 hx6 v1 v2 v3 v4 v5 e5 ex => ?_) fun vs H5 ⟨o, _, _, ev⟩ => ⟨_, _, _, _, _, ev⟩)
    · refine ⟨Nat.zero_le _, fun o ho => ?_⟩
      exact ⟨_, rfl, hR _ _ ⟨o, same_upd ho, upd_same, rfl⟩⟩
    · subst ev
      cases e5
      have s26 := s5.trans s6
      refine ⟨by show 1 ≤ sizeLine; decide, fun L hL => ?_⟩
      have s6L := same_upd (o := .lst [.ref y]) hL
      have eL : (upd H6 L (.lst [.ref y])) L = some (.lst [.ref y]) := upd_same
      have s0 := (s2.trans s26).trans s6L
      have hL0 : H L = none := (s2.trans s26).free hL
      have nLx : L ≠ x := fun z => by rw [z, hx] at hL0; cases hL0
      have hx7 := s0 _ _ hx
      have ma : MoAt C (upd H6 L (.lst [.ref y])) y (mo0 c) := ⟨dx2, o, t, .non, s6L _ _ ex, s6L _ _ (s6 _ _ eo), lt.keep (.of (s26.trans s6L)), rfl⟩
      generalize upd H6 L (.lst [.ref y]) = H7 at *
      refine ⟨_, rfl, x, CL, dx, _, rfl, hx7, LC.cl, LC.n1, by decide, ?_⟩
      rw [putL1]
      refine ⟨_, rfl, x, CL, dx, _, rfl, upd_same, LC.cl, LC.n2, by show 1 < 1000; decide, ?_⟩
      rw [putL2, upd_upd]
      have hc := hn
      refine kOk hn _ L ⟨⟨dx, [.ref y], upd_same, by rw [upd_ne nLx]; exact eL, .cons ⟨y, rfl, ma.keep (KeepF.upd hx7 fun z => by have : (0 : Nat) = 5 := z; omega)⟩ .nil⟩, by show 0 < 1; decide, by show 1 ≤ 900; decide, fun i m e => ?_⟩ hL0 fun b o' e nb => by rw [upd_ne nb]; exact s0 _ _ e
      cases i with
      | zero =>
        cases e
        refine ⟨?_, ?_, fun p hp => ?_, Int.le_refl 0, by show (0 : Int) ≤ 1000000000; decide⟩
        · show 1 ≤ (List.replicate _ _).length
          rw [List.length_replicate]
          omega
        · show (List.replicate _ _).length ≤ 9
          rw [List.length_replicate]
          omega
        · rw [(List.mem_replicate.mp hp).2]
          exact Nat.zero_le _
      | succ i => simp at e
def spMom (K : PySem.W.Frag) (mg : Str → Option Value) (C CL fI : Addr) : Sp := fun vs H Q _ => ∃ (x L : Addr) (ms : List Mo) (k : Nat) (m : Mo), vs = [.ref x] ∧ LivC K mg CL fI ∧ LiveAt C CL H x L ms k ∧ ms[k]? = some m ∧ ∀ a, MoAt C H a m → Q (.ref a) H
theorem scMom : FnScope ["self"] ["self"] (defScope sLivePile_Moment) := ⟨rfl, rfl, rfl, by decide +kernel, rfl, by decide +kernel, by decide +kernel⟩
theorem ok_mom {f C CL fI : Addr} {fd : FuncData} (F : Fun K "_moment" "LivePile._moment" sLivePile_Moment f fd) : FnOk P w K mg base CX0 1 f fd ["self"] (spMom K mg C CL fI) := by
  refine F.ok scMom (fun vs H Q E h => ?_) (fun cdv A outer s H vs Q E hr h => ?_)
  · obtain ⟨x, L, ms, k, m, rfl, _⟩ := h
    rfl
  · obtain ⟨x, L, ms, k, m, rfl, LC, LA, hm, kk⟩ := h
    obtain ⟨dx, ws, h1, h2, h3⟩ := LA.ex
    obtain ⟨a, ea, ma⟩ := LiveAt.at_ (CL := CL) (x := x) (L := L) (k := k) h3 hm
    refine ⟨_, (pss_one (ps_ret (pe_ix ix_list (pe_fld (pv 0) rfl) (pe_fld (pv 0) rfl) (fun _ _ => rfl)))), ?_⟩
    exact ⟨_, rfl, x, CL, dx, _, _, rfl, h1, LC.cl, LC.n1, lk_mom .., _, rfl, x, CL, dx, _, _, rfl, h1, LC.cl, LC.n2, lk_pre .., L, ws, _, .ref a, rfl, rfl, SqL.of h2, atI_nat ea, kk a ma⟩
def spEff (K : PySem.W.Frag) (mg : Str → Option Value) (C CL fI : Addr) : Sp := fun vs H Q _ => ∃ (x L : Addr) (ms : List Mo) (k : Nat), vs = [.ref x] ∧ LivC K mg CL fI ∧ LiveAt C CL H x L ms k ∧ ∀ p H' us, Same H H' → H p = none → H' p = some (.lst us) → PySem.Paired (MoV C H') us ((ms.take (k + 1)).drop 1) → Q (.ref p) H'
theorem scEff : FnScope ["self"] ["self"] (defScope sLivePile_MomentsInEffect) := ⟨rfl, rfl, rfl, by decide +kernel, rfl, by decide +kernel, by decide +kernel⟩
theorem ok_eff {f C CL fI : Addr} {fd : FuncData} (F : Fun K "_moments_in_effect" "LivePile._moments_in_effect" sLivePile_MomentsInEffect f fd) : FnOk P w K mg base CX0 1 f fd ["self"] (spEff K mg C CL fI) := by
  refine F.ok scEff (fun vs H Q E h => ?_) (fun cdv A outer s H vs Q E hr h => ?_)
  · obtain ⟨x, L, ms, k, rfl, _⟩ := h
    rfl
  · obtain ⟨x, L, ms, k, rfl, LC, LA, kk⟩ := h
    obtain ⟨dx, ws, h1, h2, h3⟩ := LA.ex
    have lw := pair_len h3
    have lt := LA.lt
    refine ⟨_, (pss_one (ps_ret (pe_slice sl_list (pe_fld (pv 0) rfl) (po_some pe_int) (po_some (pe_op op_add (pe_fld (pv 0) rfl) pe_int))))), ?_⟩
    refine ⟨_, rfl, x, CL, dx, _, _, rfl, h1, LC.cl, LC.n1, lk_mom .., _, rfl, _, rfl, x, CL, dx, _, _, rfl, h1, LC.cl, LC.n2, lk_pre .., _, _, rfl, rfl, _, rfl, L, ws, rfl, SqL.of h2, fun p hp => ?_⟩
    have ec : cutV ws (some 1) (some ((k : Int) + 1)) = (ws.take (k + 1)).drop 1 := by
      unfold cutV
      rw [show ((k : Int) + 1) = ((k + 1 : Nat) : Int) by omega, show (1 : Int) = ((1 : Nat) : Int) by rfl, HT.sIx_nat, HT.sIx_nat, Nat.min_eq_left (by omega : 1 ≤ ws.length), Nat.min_eq_left (by omega : k + 1 ≤ ws.length), List.drop_take]
    refine kk p _ _ (same_upd hp) hp upd_same ?_
    rw [ec]
    exact pair_drop 1 (pair_take (k + 1) (pair_mono (fun _ _ z => z.keep (.of (same_upd hp))) h3))
/-- a moment's field, read off a live pile -/
def spMoF (K : PySem.W.Frag) (mg : Str → Option Value) (C CL fI fL : Addr) (g : Mo → V) : Sp := fun vs H Q _ => ∃ (x L : Addr) (ms : List Mo) (k : Nat) (m : Mo), vs = [.ref x] ∧ MomC K mg C fI ∧ LivC K mg CL fL ∧ LiveAt C CL H x L ms k ∧ ms[k]? = some m ∧ Q (g m) H
theorem scNow : FnScope ["self"] ["self"] (defScope sLivePile_Now) := ⟨rfl, rfl, rfl, by decide +kernel, rfl, by decide +kernel, by decide +kernel⟩
theorem scLifted : FnScope ["self"] ["self"] (defScope sLivePile_LiftedPairs) := ⟨rfl, rfl, rfl, by decide +kernel, rfl, by decide +kernel, by decide +kernel⟩
theorem no_liF {L : Addr} {k : Nat} (m : Str) (h : (m == ("_moments" : Str)) = false) (h2 : (m == ("_present" : Str)) = false) : List.lookup m (liF L k) = none := by simp [List.lookup, h, h2]
theorem ok_now {f C CL fI fL fM : Addr} {fd fdM : FuncData} (F : Fun K "now" "LivePile.now" sLivePile_Now f fd) (LC : LivC K mg CL fL) (GM : FnOk P w K mg base CX0 1 fM fdM ["self"] (spMom K mg C CL fL)) (hM : Meth K CL "_moment" fM) (bM : Binds K fdM ["self"] []) : FnOk P w K mg base CX0 2 f fd ["self"] (spMoF K mg C CL fI fL fun m => .int m.tick) := by
  refine F.ok scNow (fun vs H Q E h => ?_) (fun cdv A outer s H vs Q E hr h => ?_)
  · obtain ⟨x, L, ms, k, m, rfl, _⟩ := h
    rfl
  · obtain ⟨x, L, ms, k, m, rfl, MC, LC', LA, hm, kk⟩ := h
    obtain ⟨dx, ws, h1, h2, h3⟩ := LA.ex
    refine ⟨_, (pss_one (ps_ret (pe_fld (pe_meth0 (pv 0) LC.cl hM GM (hr.mono (by decide)) bM .nil pass0) rfl))), ?_⟩
    refine ⟨_, rfl, x, dx, _, rfl, h1, no_liF _ (by decide +kernel) (by decide +kernel), x, L, ms, k, m, rfl, LC, LA, hm, fun a ⟨dy, po, pl, ve, ha, _⟩ => ?_⟩
    exact ⟨a, C, dy, _, _, rfl, ha, MC.cl, MC.n2, lk_tick .., kk⟩
theorem ok_liftedP {f C CL fI fL fM : Addr} {fd fdM : FuncData} (F : Fun K "lifted_pairs" "LivePile.lifted_pairs" sLivePile_LiftedPairs f fd) (LC : LivC K mg CL fL) (GM : FnOk P w K mg base CX0 1 fM fdM ["self"] (spMom K mg C CL fL)) (hM : Meth K CL "_moment" fM) (bM : Binds K fdM ["self"] []) : FnOk P w K mg base CX0 2 f fd ["self"] (spMoF K mg C CL fI fL fun m => .int m.lifted) := by
  refine F.ok scLifted (fun vs H Q E h => ?_) (fun cdv A outer s H vs Q E hr h => ?_)
  · obtain ⟨x, L, ms, k, m, rfl, _⟩ := h
    rfl
  · obtain ⟨x, L, ms, k, m, rfl, MC, LC', LA, hm, kk⟩ := h
    obtain ⟨dx, ws, h1, h2, h3⟩ := LA.ex
    refine ⟨_, (pss_one (ps_ret (pe_fld (pe_meth0 (pv 0) LC.cl hM GM (hr.mono (by decide)) bM .nil pass0) rfl))), ?_⟩
    refine ⟨_, rfl, x, dx, _, rfl, h1, no_liF _ (by decide +kernel) (by decide +kernel), x, L, ms, k, m, rfl, LC, LA, hm, fun a ⟨dy, po, pl, ve, ha, _⟩ => ?_⟩
    exact ⟨a, C, dy, _, _, rfl, ha, MC.cl, MC.n4, lk_lifted .., kk⟩
end
end Lv
set_option Elab.async false
set_option linter.all false
set_option maxRecDepth 100000
set_option maxHeartbeats 2000000
/-! A list comprehension whose turns make new lists. -/
namespace Sho
open PySem PySem.Spec PyProof.Rows L2
section
/-- .. whose turns make new lists: Rl i y H, what holds of the i-th -/
theorem lc_relD {J : It} {n : Nat} {G : Hp → Prop} {Y : Nat → Hp → V → Hp → Prop} (w : Walk J n G Y) {g : TG} {te : TE} {vs : List Nat} {σ : L2.St} {H1 : Hp} {D : Addr} {Qd : Hp → Prop} (Rl : Nat → V → Hp → Prop) (hD : H1 D = none) (hz : n ≤ sizeLine)
    (hG : ∀ H, Same H1 H → G H) (stable : ∀ i y H H', (∀ b o, b ≠ D → H b = some o → H' b = some o) → Rl i y H → Rl i y H')
    (hs : ∀ i x H H', i < n → Same H1 H → (∃ zs, H D = some (.lst zs)) → Y i H x H' → ∀ R : V → Hp → Prop, (∀ y H4, Same H H4 → Rl i y H4 → R y H4) →
      g x (wipe σ vs) H' fun σ2 H2 => wipe σ2 vs = wipe σ vs ∧ te σ2 H2 R)
    (hd : ∀ H ys, Same H1 H → H D = some (.lst ys) → ys.length = n → (∀ i y, ys[i]? = some y → Rl i y H) → Qd H) :
    ∃ W : Nat → Nat → Hp → Prop, (∃ m, W 0 m (upd H1 D (.lst []))) ∧ ∀ i m H, W i m H →
      (J.stop i H ∧ Qd H) ∨ (J.go i H ∧ ∃ Nx : Hp → Prop, (∀ H', Nx H' → ∃ m', m' < m ∧ W (i + 1) m' H') ∧ ∀ x H', J.yld i H x H' → g x (wipe σ vs) H' fun σ2 H2 => wipe σ2 vs = wipe σ vs ∧ tYes σ2 H2 fun b H3 =>
        if b = true then te σ2 H3 fun y H4 => ∃ acc, H4 D = some (.lst acc) ∧ acc.length < sizeLine ∧ Nx (upd H4 D (.lst (acc ++ [y]))) else Nx H3) := by
  have s0 : ∀ o, Same H1 (upd H1 D o) := fun o b u e => by rw [upd_ne (ne_of_none e hD)]; exact e
  refine lc_it w (fun i H => Same H1 H ∧ ∃ ys, H D = some (.lst ys) ∧ ys.length = i ∧ ∀ j y, ys[j]? = some y → Rl j y H) ⟨s0 _, [], upd_same, rfl, fun j y e => by simp at e⟩ (fun i H _ p => hG H p.1) (fun i x H H' hi p y => ?_) fun H p => ?_
  · obtain ⟨p1, ys, p2, p3, p4⟩ := p
    have z := hs i x H H' hi p1 ⟨_, p2⟩ y (fun y H4 => ∃ acc, H4 D = some (.lst acc) ∧ acc.length < sizeLine ∧ Same H1 (upd H4 D (.lst (acc ++ [y]))) ∧
      ∃ ys, upd H4 D (.lst (acc ++ [y])) D = some (.lst ys) ∧ ys.length = i + 1 ∧ ∀ j y', ys[j]? = some y' → Rl j y' (upd H4 D (.lst (acc ++ [y])))) fun y H4 q r => by
        have e4 := q _ _ p2
        have tups : ∀ o b u, b ≠ D → H4 b = some u → upd H4 D o b = some u := fun o b u hb e => by
          rw [upd_ne hb]
          exact e
        refine ⟨ys, e4, by rw [p3]; exact Nat.lt_of_lt_of_le hi hz, fun b u e => by rw [upd_ne (ne_of_none e hD)]; exact (p1.trans q) b u e, ys ++ [y], upd_same, by simp [p3], fun j y' e => ?_⟩
        by_cases hj : j < ys.length
        · rw [List.getElem?_append_left hj] at e
          exact stable j y' H4 _ (tups _) (stable j y' H H4 (fun b u _ e => q _ _ e) (p4 j y' e))
        · rw [List.getElem?_append_right (by omega)] at e
          have ej : j = ys.length := by
            have := (List.getElem?_eq_some_iff.mp e).1
            simp at this
            omega
          subst ej
          simp at e
          subst e
          rw [p3]
          exact stable _ _ H4 _ (tups _) r
    exact z
  · obtain ⟨p1, ys, p2, p3, p4⟩ := p
    exact hd H ys p1 p2 p3 p4
end
end Sho
set_option Elab.async false
set_option linter.all false
set_option maxRecDepth 100000
set_option maxHeartbeats 8000000
set_option autoImplicit false
/-! LivePile: standing, departed, history. -/
namespace Lv
open PySem L2 Sho NdefX Shg Sh1 Sh4
def NmT (H : Hp) (v : V) (xs : List Str) : Prop := ∃ t, v = .ref t ∧ H t = some (.tup (xs.map V.str))
def OpV (H : Hp) (v : V) (o : Option Op) : Prop := ∃ p, v = .ref p ∧ H p = some (.tup (opVs o))
def namesOf (m : Mo) : List (List Str) := m.lying.map fun p => p.map fun x => x.1
/-- the moments in effect behind the first -/
def effect (ms : List Mo) (k : Nat) : List Mo := (ms.take (k + 1)).drop 1
section
variable {P : Program} {w : World} {K : PySem.W.Frag} {mg : Str → Option Value} {base : Heap}
abbrev NST : List Str := ["self", "pile", "name", "come"]
def spStand (K : PySem.W.Frag) (mg : Str → Option Value) (C CL fI fL : Addr) : Sp := fun vs H Q _ => ∃ (x L : Addr) (ms : List Mo) (k : Nat) (m : Mo), vs = [.ref x] ∧ MomC K mg C fI ∧ LivC K mg CL fL ∧ LiveAt C CL H x L ms k ∧ ms[k]? = some m ∧
  ∀ p H' us, Same H H' → H p = none → H' p = some (.lst us) → PySem.Paired (NmT H') us (namesOf m) → Q (.ref p) H'
theorem scStand : FnScope NST ["self"] (defScope sLivePile_Standing) := ⟨rfl, rfl, rfl, by decide +kernel, rfl, by decide +kernel, by decide +kernel⟩
theorem ok_stand {f C CL fI fL fM : Addr} {fd fdM : FuncData} (F : Fun K "standing" "LivePile.standing" sLivePile_Standing f fd) (B : Shg.Blt mg) (LC : LivC K mg CL fL) (GM : FnOk P w K mg base CX0 1 fM fdM ["self"] (spMom K mg C CL fL)) (hM : Meth K CL "_moment" fM) (bM : Binds K fdM ["self"] []) : FnOk P w K mg base CX0 2 f fd ["self"] (spStand K mg C CL fI fL) := by
  refine F.ok scStand (fun vs H Q E h => ?_) (fun cdv A outer s H vs Q E hr h => ?_)
  · obtain ⟨x, L, ms, k, m, rfl, _⟩ := h
    rfl
  · obtain ⟨x, L, ms, k, m, rfl, MC, LC', LA, hm, kk⟩ := h
    have nd := scStand.nd
    obtain ⟨dx, ws, h1, h2, h3⟩ := LA.ex
    refine ⟨_, (pss_one (ps_ret (pe_lc (own := [("pile", 1), ("name", 2), ("come", 3)]) (g := gName 1) (tt := tYes) (te := tCB (fun xs H Q => ∃ p ys, xs = [.ref p] ∧ ((SqL K H p ys ∧ ∀ l, H l = none → Q (.ref l) (upd H l (.tup ys))) ∨ (SqT K H p ys ∧ Q (.ref p) H))) (tCons (tLc (iTup K (tVar 1)) (gTup K 2 (gCons (gName 2) (gCons (gName 3) gNil))) tYes (tVar 2) [2, 3]) tNil)) rfl nd (pi_tup (pe_fld (pe_meth0 (pv 0) LC.cl hM GM (hr.mono (by decide)) bM .nil pass0) rfl)) (blkOk_by (own := [("pile", 1), ("name", 2), ("come", 3)]) (N := NST) (sc := defScope sLivePile_Standing) (by decide +kernel))
        (fun _ _ _ _ _ => (pg_name (i := 1) nd rfl (Or.inl rfl))) (fun _ _ _ _ _ => pts_nil) (fun _ _ _ _ _ => (pe_callTy call_tuple_of (by rfl) B.tuple (by decide +kernel) (pa_cons (pe_lc (own := [("name", 2), ("come", 3)]) (g := gTup K 2 (gCons (gName 2) (gCons (gName 3) gNil))) (tt := tYes) (te := tVar 2) rfl nd (pi_tup (pv 1)) (blkOk_by (by rfl)) (fun _ _ _ _ _ => pg_tup rfl (pgs_cons (pg_name (i := 2) nd rfl (Or.inl rfl)) (pgs_cons (pg_name (i := 3) nd rfl (Or.inl rfl)) pgs_nil))) (fun _ _ _ _ _ => pts_nil) (fun _ _ _ _ _ => (pv 2))) pa_nil)))))), ?_⟩
    refine ⟨_, rfl, x, dx, _, rfl, h1, no_liF _ (by decide +kernel) (by decide +kernel), x, L, ms, k, m, rfl, LC, LA, hm, fun a ⟨dy, po, pl, ve, ha, hpo, ⟨ps, hps, pp⟩, hve⟩ => ?_⟩
    refine ⟨a, C, dy, _, .ref pl, rfl, ha, MC.cl, MC.n3, lk_lying .., pl, rfl, ⟨_, SqT.of hps⟩, fun D hD => ?_⟩
    have lp := pair_len pp
    have fit := LA.fit k m hm
    refine lc_rel (walk_tup (xs := ps)) (fun i y H => ∃ p : Pile, m.lying[i]? = some p ∧ NmT H y (p.map fun (z : Str × Int) => z.1)) hD (by rw [lp]; exact Nat.le_trans fit.few (by decide)) (fun H s => SqT.of (s _ _ hps)) (fun i y H H' st ⟨p, e, t, et, (h : H t = some (.tup ((p.map fun (z : Str × Int) => z.1).map V.str)))⟩ => ⟨p, e, t, et, st _ _ h⟩) (fun i y H1 H2 hi s1 yy R k1 => ?_) fun H1 ys s1 e1 l1 a1 => ?_
    · obtain ⟨rfl, ey⟩ := yy
      obtain ⟨p, hp, pa, us, rfl, hpa, pu⟩ := pair_get pp ey
      have lu := pair_len pu
      have hlow := fit.low p (List.mem_of_getElem? hp)
      have hk : k < 900 := Nat.lt_of_lt_of_le LA.lt LA.few
      refine ⟨rfl, _, rfl, pa, rfl, ⟨_, SqT.of (s1 _ _ hpa)⟩, fun D2 hD2 => ?_⟩
      refine lc_map (walk_tup (xs := us)) (fun i => (p[i]?).map fun z => .str z.1) hD2 (by rw [lu]; exact Nat.le_trans hlow (Nat.le_trans (Nat.le_of_lt hk) (by decide))) (fun H s => SqT.of (s _ _ (s1 _ _ hpa))) (fun j v H3 H4 hj s3 vv R2 k2 => ?_) (fun j hj => ⟨_, by rw [List.getElem?_eq_getElem (by rw [← lu]; exact hj)]; rfl⟩) fun H3 s3 e3 => ?_
      · obtain ⟨rfl, ev⟩ := vv
        obtain ⟨z, hz, t, rfl, ht⟩ := pair_get pu ev
        refine ⟨t, _, rfl, SqT.of (s3 _ _ (s1 _ _ ht)), rfl, _, _, rfl, _, _, rfl, rfl, rfl, ?_⟩
        exact ⟨_, rfl, k2 _ _ (Same.refl _) (by rw [hz]; rfl)⟩
      · have eg : gather (fun i => (p[i]?).map fun z => V.str z.1) us.length = ((p.map fun z => z.1).map V.str) := by
          rw [lu, gather_map, List.map_map]
          rfl
        rw [eg] at e3
        refine ⟨D2, _, rfl, .inl ⟨SqL.of e3, fun t ht => k1 _ _ (s3.trans (same_upd ht)) ⟨p, hp, t, rfl, upd_same⟩⟩⟩
    · refine kk D H1 ys s1 hD e1 (pair_of (by unfold namesOf; rw [l1, lp, List.length_map]) fun i y z hy hz => ?_)
      obtain ⟨p, hp, hn⟩ := a1 i y hy
      unfold namesOf at hz
      rw [List.getElem?_map, hp] at hz
      cases hz
      exact hn
def spDep (K : PySem.W.Frag) (mg : Str → Option Value) (C CL fI fL : Addr) : Sp := fun vs H Q _ => ∃ (x L : Addr) (ms : List Mo) (k : Nat), vs = [.ref x] ∧ MomC K mg C fI ∧ LivC K mg CL fL ∧ LiveAt C CL H x L ms k ∧
  ∀ p H' us, Same H H' → H p = none → H' p = some (.lst us) → PySem.Paired (StayV H') us ((effect ms k).filterMap fun m => m.ended) → Q (.ref p) H'
theorem scDep : FnScope ["self", "moment"] ["self"] (defScope sLivePile_Departed) := ⟨rfl, rfl, rfl, by decide +kernel, rfl, by decide +kernel, by decide +kernel⟩
theorem ok_dep {f C CL fI fL fE : Addr} {fd fdE : FuncData} (F : Fun K "departed" "LivePile.departed" sLivePile_Departed f fd) (LC : LivC K mg CL fL) (GE : FnOk P w K mg base CX0 1 fE fdE ["self"] (spEff K mg C CL fL)) (hE : Meth K CL "_moments_in_effect" fE) (bE : Binds K fdE ["self"] []) : FnOk P w K mg base CX0 2 f fd ["self"] (spDep K mg C CL fI fL) := by
  refine F.ok scDep (fun vs H Q E h => ?_) (fun cdv A outer s H vs Q E hr h => ?_)
  · obtain ⟨x, L, ms, k, rfl, _⟩ := h
    rfl
  · obtain ⟨x, L, ms, k, rfl, MC, LC', LA, kk⟩ := h
    have nd := scDep.nd
    obtain ⟨dx, ws, h1, h2, h3⟩ := LA.ex
    refine ⟨_, (pss_one (ps_ret (pe_lc (own := [("moment", 1)]) (g := gName 1) (tt := tB (tNotN (tFld K (tVar 1) "ended"))) (te := tFld K (tVar 1) "ended") rfl nd (pi_list (pe_meth0 (pv 0) LC.cl hE GE (hr.mono (by decide)) bE .nil pass0)) (blkOk_by (own := [("moment", 1)]) (N := ["self", "moment"]) (sc := defScope sLivePile_Departed) (by decide +kernel))
        (fun _ _ _ _ _ => (pg_name (i := 1) nd rfl (Or.inl rfl))) (fun _ _ _ _ _ => pts_one (pt_cmp (pc_notN (pe_fld (pv 1) rfl)) rfl)) (fun _ _ _ _ _ => (pe_fld (pv 1) rfl))))), ?_⟩
    refine ⟨_, rfl, x, dx, _, rfl, h1, no_liF _ (by decide +kernel) (by decide +kernel), x, L, ms, k, rfl, LC, LA, fun p H1 us s1 hp e1 pu => ?_⟩
    refine ⟨p, rfl, ⟨_, SqL.of e1⟩, fun D hD => ?_⟩
    have lu := pair_len pu
    have le : (effect ms k).length ≤ 900 := by
      unfold effect
      rw [List.length_drop, List.length_take]
      have := LA.few
      omega
    have s0 : ∀ o, Same H1 (upd H1 D o) := fun o b u e => by rw [upd_ne (ne_of_none e hD)]; exact e
    refine lc_it (walk_list (xs := us)) (fun i H2 => Same H1 H2 ∧ ∃ ys, H2 D = some (.lst ys) ∧ PySem.Paired (StayV H2) ys (((effect ms k).take i).filterMap fun m => m.ended) ∧ ys.length ≤ i) ⟨s0 _, [], upd_same, .nil, Nat.le_refl _⟩ (fun i H2 _ q => SqL.of (q.1 _ _ e1)) (fun i v H2 H3 hi q y => ?_) fun H2 q => ?_
    · obtain ⟨s2, ys, e2, py, ly⟩ := q
      obtain ⟨rfl, ev⟩ := y
      obtain ⟨m, hm, a, rfl, ma⟩ := pair_get pu ev
      obtain ⟨dy, po, pl, ve, ha, hpo, hpl, hve⟩ := ma.keep (.of s2)
      have take1 : ((effect ms k).take (i + 1)).filterMap (fun m => m.ended) = ((effect ms k).take i).filterMap (fun m => m.ended) ++ [m].filterMap fun m => m.ended := by
        rw [List.take_add_one, show (effect ms k)[i]? = some m from hm, List.filterMap_append]
        rfl
      refine ⟨rfl, _, rfl, a, C, dy, _, ve, rfl, ha, MC.cl, MC.n5, lk_ended .., _, rfl, ?_⟩
      cases hme : m.ended with
      | none =>
        rw [hme] at hve
        have : ve = .non := hve
        subst this
        refine iteF ⟨s2, ys, e2, ?_, Nat.le_succ_of_le ly⟩
        rw [take1]
        simp only [List.filterMap_cons, hme, List.filterMap_nil, List.append_nil]
        exact py
      | some st =>
        rw [hme] at hve
        obtain ⟨q, rfl, hq⟩ := hve
        refine iteT ⟨_, rfl, a, C, dy, _, .ref q, rfl, ha, MC.cl, MC.n5, lk_ended .., ys, e2, ?_, ?_⟩
        · have h4 : 1000 ≤ sizeLine := by decide
          have : i < us.length := hi
          rw [lu] at this
          have : (effect ms k).length = ((ms.take (k + 1)).drop 1).length := rfl
          omega
        · have kf := KeepF.upd (o' := .lst (ys ++ [.ref q])) e2 nfz_lst
          refine ⟨fun b u e => by rw [upd_ne (ne_of_none e hD)]; exact s2 b u e, _, upd_same, ?_, by rw [List.length_append]; exact Nat.succ_le_succ ly⟩
          rw [take1]
          simp only [List.filterMap_cons, hme, List.filterMap_nil]
          exact pair_app (pair_mono (fun v x ⟨t, e, h⟩ => ⟨t, e, kf _ _ h trivial⟩) py) (.cons ⟨q, rfl, kf _ _ hq trivial⟩ .nil)
    · obtain ⟨s2, ys, e2, py, ly⟩ := q
      rw [lu, show (((ms.take (k + 1)).drop 1).length) = (effect ms k).length from rfl, List.take_length] at py
      exact kk D H2 ys (s1.trans s2) (s1.free hD) e2 py
def spHis (K : PySem.W.Frag) (mg : Str → Option Value) (C CL fI fL : Addr) : Sp := fun vs H Q _ => ∃ (x L : Addr) (ms : List Mo) (k : Nat), vs = [.ref x] ∧ MomC K mg C fI ∧ LivC K mg CL fL ∧ LiveAt C CL H x L ms k ∧
  ∀ p H' us, Same H H' → H p = none → H' p = some (.lst us) → PySem.Paired (OpV H') us ((effect ms k).map fun m => m.op) → Q (.ref p) H'
theorem scHis : FnScope ["self", "moment"] ["self"] (defScope sLivePile_History) := ⟨rfl, rfl, rfl, by decide +kernel, rfl, by decide +kernel, by decide +kernel⟩
theorem ok_his {f C CL fI fL fE : Addr} {fd fdE : FuncData} (F : Fun K "history" "LivePile.history" sLivePile_History f fd) (LC : LivC K mg CL fL) (GE : FnOk P w K mg base CX0 1 fE fdE ["self"] (spEff K mg C CL fL)) (hE : Meth K CL "_moments_in_effect" fE) (bE : Binds K fdE ["self"] []) : FnOk P w K mg base CX0 2 f fd ["self"] (spHis K mg C CL fI fL) := by
  refine F.ok scHis (fun vs H Q E h => ?_) (fun cdv A outer s H vs Q E hr h => ?_)
  · obtain ⟨x, L, ms, k, rfl, _⟩ := h
    rfl
  · obtain ⟨x, L, ms, k, rfl, MC, LC', LA, kk⟩ := h
    have nd := scHis.nd
    obtain ⟨dx, ws, h1, h2, h3⟩ := LA.ex
    refine ⟨_, (pss_one (ps_ret (pe_lc (own := [("moment", 1)]) (g := gName 1) (tt := tYes) (te := tFld K (tVar 1) "operation") rfl nd (pi_list (pe_meth0 (pv 0) LC.cl hE GE (hr.mono (by decide)) bE .nil pass0)) (blkOk_by (own := [("moment", 1)]) (N := ["self", "moment"]) (sc := defScope sLivePile_History) (by decide +kernel))
        (fun _ _ _ _ _ => (pg_name (i := 1) nd rfl (Or.inl rfl))) (fun _ _ _ _ _ => pts_nil) (fun _ _ _ _ _ => (pe_fld (pv 1) rfl))))), ?_⟩
    refine ⟨_, rfl, x, dx, _, rfl, h1, no_liF _ (by decide +kernel) (by decide +kernel), x, L, ms, k, rfl, LC, LA, fun p H1 us s1 hp e1 pu => ?_⟩
    refine ⟨p, rfl, ⟨_, SqL.of e1⟩, fun D hD => ?_⟩
    have lu := pair_len pu
    have le : us.length ≤ 900 := by
      rw [lu, List.length_drop, List.length_take]
      have := LA.few
      omega
    refine lc_rel (walk_list (xs := us)) (fun i y H => ∃ m, (effect ms k)[i]? = some m ∧ OpV H y m.op) hD (Nat.le_trans le (by decide)) (fun H s => SqL.of (s _ _ e1)) (fun i y H H' st ⟨m, e, t, et, h⟩ => ⟨m, e, t, et, st _ _ h⟩) (fun i v H2 H3 hi s2 y R k1 => ?_) fun H2 ys s2 e2 l2 a2 => ?_
    · obtain ⟨rfl, ev⟩ := y
      obtain ⟨m, hm, a, rfl, ma⟩ := pair_get pu ev
      obtain ⟨dy, po, pl, ve, ha, hpo, hpl, hve⟩ := ma.keep (.of s2)
      exact ⟨rfl, _, rfl, a, C, dy, _, .ref po, rfl, ha, MC.cl, MC.n1, lk_op .., k1 _ _ (Same.refl _) ⟨m, hm, po, rfl, hpo⟩⟩
    · refine kk D H2 ys (s1.trans s2) (s1.free hD) e2 (pair_of (by rw [l2, lu, List.length_map]; rfl) fun i y z hy hz => ?_)
      obtain ⟨m, hm, ho⟩ := a2 i y hy
      rw [List.getElem?_map, hm] at hz
      cases hz
      exact ho
end
end Lv
set_option Elab.async false
set_option linter.all false
set_option maxRecDepth 100000
set_option maxHeartbeats 8000000
set_option autoImplicit false
/-! LivePile: apply, come, go, wait. -/
namespace Lv
open PySem L2 Sho NdefX Shg Sh1 Sh4
/-- operations one after another: all moments and results -/
def runM : Mo → List Op → Except Er (List Mo × List Rs)
  | _, [] => .ok ([], [])
  | m, o :: os => match stepM m o with
    | .error e => .error e
    | .ok (m', r) => match runM m' os with
      | .error e => .error e
      | .ok (ms, rs) => .ok (m' :: ms, r :: rs)
def extM (new : List Mo) (rs : List Rs) : Except Er (List Mo × List Rs) → Except Er (List Mo × List Rs)
  | .error e => .error e
  | .ok (ms, r2) => .ok (new ++ ms, rs ++ r2)
theorem extM_nil (z : Except Er (List Mo × List Rs)) : extM [] [] z = z := by
  cases z with
  | error e => rfl
  | ok p => rfl
theorem runM_cons (m : Mo) (o : Op) (os : List Op) : runM m (o :: os) = match stepM m o with
    | .error e => .error e
    | .ok (m', r) => match runM m' os with
      | .error e => .error e
      | .ok (ms, rs) => .ok (m' :: ms, r :: rs) := rfl
theorem runM_err {m : Mo} {o : Op} {os : List Op} {e : Er} (h : stepM m o = .error e) : runM m (o :: os) = .error e := by
  rw [runM_cons, h]
theorem runM_ok {m m' : Mo} {o : Op} {os : List Op} {r : Rs} {new : List Mo} {rs : List Rs} (h : stepM m o = .ok (m', r)) : extM new rs (runM m (o :: os)) = extM (new ++ [m']) (rs ++ [r]) (runM m' os) := by
  rw [runM_cons, h]
  cases e : runM m' os with
  | error e =>
    simp only
    rw [e]
    rfl
  | ok p =>
    obtain ⟨ms, r2⟩ := p
    simp only
    rw [e]
    show Except.ok (new ++ m' :: ms, rs ++ r :: r2) = Except.ok (new ++ [m'] ++ ms, rs ++ [r] ++ r2)
    simp
/-- the live pile behind operations -/
def nextMs (ms : List Mo) (k : Nat) (new : List Mo) : List Mo := if new = [] then ms else ms.take (k + 1) ++ new
theorem bad_ops : ∀ {xs : List Arg} {i : Nat}, badFrom i xs = none → ∃ os : List Op, xs = os.map Arg.op
  | [], _, _ => ⟨[], rfl⟩
  | .op o :: r, i, h => by
    obtain ⟨os, e⟩ := bad_ops (xs := r) (i := i + 1) h
    exact ⟨o :: os, by rw [e]; rfl⟩
  | .bad ws :: r, i, h => by
    rw [badFrom_cons, if_pos (show (Arg.bad ws).isBad = true from rfl)] at h
    cases h
section
variable {P : Program} {w : World} {K : PySem.W.Frag} {mg : Str → Option Value} {base : Heap}
def spApply (K : PySem.W.Frag) (mg : Str → Option Value) (C CL fI fL CN CB CE CU CO : Addr) : Sp := fun vs H Q E => ∃ (x t L : Addr) (ws : List V) (xs : List Arg) (ms : List Mo) (k : Nat) (m : Mo), vs = [.ref x, .ref t] ∧ LiveAt C CL H x L ms k ∧ ms[k]? = some m ∧ H t = some (.tup ws) ∧ PySem.Paired (ArgAt H) ws xs ∧ k + xs.length + 1 ≤ 900 ∧ (∀ o, .op o ∈ xs → OpOk o) ∧
  (∀ i, badFrom 0 xs = some i → ∀ (H' : Hp) (d : Addr), Same H H' → H' d = some (.xd [(("index" : Str), .int (i : Nat))]) → E (.ref CO) (some d) H') ∧
  ∀ os : List Op, xs = os.map Arg.op → (∀ new rs, runM m os = .ok (new, rs) → ∀ (H' : Hp) (rl : Addr) (us : List V), But2 x L H H' → LiveAt C CL H' x L (nextMs ms k new) (k + new.length) → H rl = none → H' rl = some (.lst us) → PySem.Paired (RsV H') us rs → (∀ l, V.ref l ∈ us → H l = none) → Q (.ref rl) H') ∧
    ∀ e, runM m os = .error e → Fails CN CB CE CU H E e
abbrev NAP : List Str := ["self", "operations", "moment", "later", "results", "operation", "result"]
theorem scApply : FnScope NAP ["self", "operations"] (defScope sLivePile_Apply) := ⟨rfl, rfl, rfl, by decide +kernel, rfl, by decide +kernel, by decide +kernel⟩
theorem fails_same {CN CB CE CU : Addr} {H H1 : Hp} {E : XK} {e : Er} (s : Same H H1) (h : Fails CN CB CE CU H E e) : Fails CN CB CE CU H1 E e := by
  cases e with
  | guest n => exact fun H' d s' => h H' d (s.trans s')
  | name => exact fun H' s' => h H' (s.trans s')
  | number => exact fun H' s' => h H' (s.trans s')
  | early => exact fun H' s' => h H' (s.trans s')
theorem apply_body {f C CL fI fL CN CB CE CU CO fM fO fA : Addr} {fdM fdO fdA : FuncData} {cdv : Value} {A : Around} {outer : List Env} {s : Shared} {H : Hp} {vs : List V} {Q : VK} {E : XK} (B : Shg.Blt mg) (LC : LivC K mg CL fL)
    (GM : FnOk P w K mg base CX0 1 fM fdM ["self"] (spMom K mg C CL fL)) (hM : Meth K CL "_moment" fM) (bM : Binds K fdM ["self"] [])
    (GO : FnOk P w K mg base (L2.CX P w) 3 fO fdO ["operations"] (spCheckOps CO)) (mO : mg "_check_operations" = some (.ref fO)) (kO : PySem.W.keepIn K (.ref fO) = true) (bO : Binds K fdO ["operations"] [])
    (GA : FnOk P w K mg base (L2.CX P w) 5 fA fdA ["moment", "operation"] (spAfter K mg C fI CN CB CE CU)) (mA : mg "_after" = some (.ref fA)) (kA : PySem.W.keepIn K (.ref fA) = true) (bA : Binds K fdA ["moment", "operation"] [])
    (hr : Room 5 (A.deeper (PyProof.Rows.envOfC "LivePile.apply" (defScope sLivePile_Apply) s.heap.objs.size f cdv))) (h : spApply K mg C CL fI fL CN CB CE CU CO vs H Q E) :
    ∃ t, PSs (cxOf (L2.CX P w) P w K mg base NAP "LivePile.apply" (defScope sLivePile_Apply) f cdv A outer s H E) (defBody sLivePile_Apply) t ∧ t { nx := fun _ H' => Q .non H', rt := Q } (L2.start NAP vs) H := by
  obtain ⟨x, t, L, ws, xs, ms, k, m, rfl, LA, hm, ht, pw, hlen, hok, kBad, kOk⟩ := h
  have nd := scApply.nd
  have lw := pair_len pw
  have pass : Passes (L2.CX P w) (cxOf (L2.CX P w) P w K mg base NAP "LivePile.apply" (defScope sLivePile_Apply) f cdv A outer s H E) E := passes_call (takes_of rfl rfl rfl rfl) fun _ _ _ _ z => z
  obtain ⟨dx, us, h1, h2, h3⟩ := LA.ex
  refine ⟨_, (pss_cons (ps_expr (pe_call GO (hr.mono (by decide)) rfl mO kO bO .nil pass (pa_cons (pv 1) pa_nil)))
      (pss_cons (ps_par3 (i := 2) (j := 3) (l := 4) rfl nd rfl rfl rfl (by decide) (by decide) (by decide) rfl rfl rfl (pa_cons (pe_meth0 (pv 0) LC.cl hM GM (hr.mono (by decide)) bM .nil pass0) (pa_cons (pe_lst pa_nil) (pa_cons (pe_lst pa_nil) pa_nil))) (by rfl))
      (pss_cons (ps_for (passes_of rfl) rfl (pi_tup (pv 1)) (pg_name (i := 5) nd rfl (Or.inl rfl)) (pss_cons (ps_asg (pe_call GA (hr.mono (by decide)) rfl mA kA bA .nil pass (pa_cons (pv 2) (pa_cons (pv 5) pa_nil))) (pg_tup rfl (pgs_cons (pg_name (i := 2) nd rfl (Or.inl rfl)) (pgs_cons (pg_name (i := 6) nd rfl (Or.inl rfl)) pgs_nil))))
      (pss_cons (ps_expr (pe_bm PySem.F.plainAttrs_list PySem.F.slot_list_append PySem.F.type_list_append mt_append (pv 3) (pa_cons (pv 2) pa_nil)))
      (pss_one (ps_expr (pe_bm PySem.F.plainAttrs_list PySem.F.slot_list_append PySem.F.type_list_append mt_append (pv 4) (pa_cons (pv 6) pa_nil)))))))
      (pss_cons (ps_if (pt_truth (pv 1) (fun _ => rfl)) (pss_cons (ps_asg (pv 3) (pg_tail (pe_fld (pv 0) rfl) (po_some (pe_op op_add (pe_fld (pv 0) rfl) pe_int))))
      (pss_one (ps_fldaug (pv 0) (pe_callB call_len_seq (by rfl) B.len PySem.boot_len (pa_cons (pv 3) pa_nil)) in_add))) pss_nil)
      (pss_one (ps_ret (pv 4))))))), ?_⟩
  refine ⟨_, rfl, t, ws, xs, rfl, ht, pw, Nat.le_trans (by omega : xs.length ≤ 900) (by decide), fun bo H1 s1 => ?_, kBad⟩
  obtain ⟨os, rfl⟩ := bad_ops bo
  obtain ⟨good, bad⟩ := kOk os rfl
  rw [List.length_map] at hlen
  refine ⟨_, rfl, x, dx, _, rfl, s1 _ _ h1, no_liF _ (by decide +kernel) (by decide +kernel), x, L, ms, k, m, rfl, LC, LA.same s1, hm, fun a0 ma0 => ⟨Nat.zero_le _, fun La hLa => ⟨Nat.zero_le _, fun Re hRe => ⟨_, _, _, rfl, ?_⟩⟩⟩⟩
  have sa : Same H1 (upd H1 La (.lst [])) := same_upd hLa
  have nRL : Re ≠ La := fun z => by rw [z, upd_same] at hRe; cases hRe
  have sb : Same H1 (upd (upd H1 La (.lst [])) Re (.lst [])) := sa.trans (same_upd hRe)
  have hLa0 : H La = none := s1.free hLa
  have hRe0 : H Re = none := (s1.trans sa).free hRe
  have eLa : (upd (upd H1 La (.lst [])) Re (.lst [])) La = some (.lst []) := by rw [upd_ne (Ne.symm nRL)]; exact upd_same
  have eRe : (upd (upd H1 La (.lst [])) Re (.lst [])) Re = some (.lst []) := upd_same
  have s2 := s1.trans sb
  have ma2 := ma0.keep (.of sb)
  generalize upd (upd H1 La (.lst [])) Re (.lst []) = H2 at *
  refine ⟨_, rfl, t, rfl, ⟨_, SqT.of (s2 _ _ ht)⟩, for_it walk_tup (fun i σ H3 => ∃ a o5 o6 new rs vs1 vs2 mi, σ = [some (.ref x), some (.ref t), some (.ref a), some (.ref La), some (.ref Re), o5, o6] ∧ Same H H3 ∧ MoAt C H3 a mi ∧ H3 La = some (.lst vs1) ∧ PySem.Paired (MoV C H3) vs1 new ∧ H3 Re = some (.lst vs2) ∧ PySem.Paired (RsV H3) vs2 rs ∧
      (∀ l, V.ref l ∈ vs2 → H l = none ∧ l ≠ La ∧ l ≠ Re) ∧ runM m os = extM new rs (runM mi (os.drop i)) ∧ Fit (k + i) mi ∧ (∀ j m', new[j]? = some m' → Fit (k + 1 + j) m') ∧ new.length = i ∧ rs.length = i)
    ⟨a0, none, none, [], [], [], [], m, rfl, s2, ma2, eLa, .nil, eRe, .nil, (fun l h => nomatch h), (by rw [extM_nil]; rfl), LA.fit k m hm, (fun j m' e => by simp at e), rfl, rfl⟩ (fun i σ H3 _ ⟨_, _, _, _, _, _, _, _, _, s3, _⟩ => SqT.of (s3 _ _ ht)) ?_ ?_⟩
  · rintro i y σ H3 H4 hi ⟨a, o5, o6, new, rs, vs1, vs2, mi, rfl, s3, ma, e1, p1, e2, p2, fr, run, fit, fits, l1, l2⟩ ⟨rfl, ey⟩
    obtain ⟨z, hz, p, rfl, hp, _⟩ := pair_get pw ey
    rw [List.getElem?_map] at hz
    obtain ⟨o, ho, rfl⟩ : ∃ o, os[i]? = some o ∧ z = .op o := by
      cases e : os[i]? with
      | none => rw [e] at hz; cases hz
      | some o => rw [e] at hz; cases hz; exact ⟨o, rfl, rfl⟩
    have hdrop : os.drop i = o :: os.drop (i + 1) := by
      obtain ⟨lt, e⟩ := List.getElem?_eq_some_iff.mp ho
      rw [List.drop_eq_getElem_cons lt, e]
    rw [hdrop] at run
    have hio : i < os.length := (List.getElem?_eq_some_iff.mp ho).1
    refine ⟨_, rfl, _, rfl, a, p, mi, o, rfl, ma, fit.mono (by omega), s3 _ _ hp, hok o (List.mem_map_of_mem (List.mem_of_getElem? ho)), fun m' r es H5 pp a' v s5 ep ma' rv fv => ?_, fun e es => ?_⟩
    · refine ⟨pp, _, rfl, SqT.of ep, rfl, _, _, rfl, _, _, rfl, rfl, ?_⟩
      have e15 := s5 _ _ e1
      have e25 := s5 _ _ e2
      refine ⟨_, rfl, .inl ⟨rfl, _, SqL.of e15⟩, _, rfl, La, vs1, .ref a', rfl, rfl, e15, by rw [pair_len p1, l1]; exact Nat.lt_of_lt_of_le hio (Nat.le_trans (by omega : os.length ≤ 900) (by decide)), ?_⟩
      have k6 := KeepF.upd (o' := .lst (vs1 ++ [.ref a'])) e15 nfz_lst
      have e26 : (upd H5 La (.lst (vs1 ++ [.ref a']))) Re = some (.lst vs2) := by rw [upd_ne nRL]; exact e25
      refine ⟨_, rfl, .inl ⟨rfl, _, SqL.of e26⟩, _, rfl, Re, vs2, v, rfl, rfl, e26, by rw [pair_len p2, l2]; exact Nat.lt_of_lt_of_le hio (Nat.le_trans (by omega : os.length ≤ 900) (by decide)), ?_⟩
      have k7 := k6.trans (KeepF.upd (o' := .lst (vs2 ++ [v])) e26 nfz_lst)
      have keepR : ∀ (u : V) (q : Rs), RsV H5 u q → (∀ l, u = .ref l → l ≠ La ∧ l ≠ Re) → RsV (upd (upd H5 La (.lst (vs1 ++ [.ref a']))) Re (.lst (vs2 ++ [v]))) u q := fun u q h n => by
        cases q with
        | num n => exact h
        | gone xs =>
          obtain ⟨l, rfl, e⟩ := h
          obtain ⟨n1, n2⟩ := n l rfl
          exact ⟨l, rfl, by rw [upd_ne n2, upd_ne n1]; exact e⟩
      have fv' : ∀ l, v = .ref l → H l = none ∧ l ≠ La ∧ l ≠ Re := fun l e => ⟨s3.free (fv l e), (fun z => by rw [z] at e; have := fv La e; rw [e1] at this; cases this), (fun z => by rw [z] at e; have := fv Re e; rw [e2] at this; cases this)⟩
      refine ⟨a', _, _, new ++ [m'], rs ++ [r], vs1 ++ [.ref a'], vs2 ++ [v], m', rfl, ?_, ma'.keep k7, by rw [upd_ne (Ne.symm nRL)]; exact upd_same, ?_, upd_same, ?_, ?_, ?_, fit.step es, ?_, by rw [List.length_append, l1]; rfl, by rw [List.length_append, l2]; rfl⟩
      · intro b u e
        rw [upd_ne (ne_of_none e hRe0), upd_ne (ne_of_none e hLa0)]
        exact s5 _ _ (s3 _ _ e)
      · exact pair_app (pair_mono (fun _ _ z => (z.keep (.of s5)).keep k7) p1) (.cons ⟨a', rfl, ma'.keep k7⟩ .nil)
      · refine pair_app ?_ (.cons (keepR v r rv fun l e => (fv' l e).2) .nil)
        have : ∀ {us : List V} {qs : List Rs}, PySem.Paired (RsV H4) us qs → (∀ l, V.ref l ∈ us → H l = none ∧ l ≠ La ∧ l ≠ Re) → PySem.Paired (RsV (upd (upd H5 La (.lst (vs1 ++ [.ref a']))) Re (.lst (vs2 ++ [v])))) us qs := fun {us qs} h => by
          induction h with
          | nil => exact fun _ => .nil
          | @cons u q us qs h t ih =>
            intro fr
            exact .cons (keepR u q (h.same s5) fun l e => (fr l (by rw [← e]; exact List.mem_cons_self)).2) (ih fun l hl => fr l (List.mem_cons_of_mem _ hl))
        exact this p2 fr
      · intro l hl
        rcases List.mem_append.mp hl with hl | hl
        · exact fr l hl
        · exact fv' l (List.mem_singleton.mp hl).symm
      · rw [run, runM_ok es]
      · intro j m2 e
        by_cases hj : j < new.length
        · rw [List.getElem?_append_left hj] at e
          exact fits j m2 e
        · rw [List.getElem?_append_right (by omega)] at e
          have ej : j - new.length = 0 := by
            have := (List.getElem?_eq_some_iff.mp e).1
            simp at this
            omega
          rw [ej] at e
          cases e
          exact (fit.step es).mono (by omega)
    · rw [runM_err es] at run
      exact fails_same s3 (bad e run)
  · rintro σ H3 ⟨a, o5, o6, new, rs, vs1, vs2, mi, rfl, s3, ma, e1, p1, e2, p2, fr, run, fit, fits, l1, l2⟩
    rw [lw, List.length_map] at l1 l2 run
    rw [List.drop_length] at run
    have hrun : runM m os = .ok (new, rs) := by
      rw [run]
      show Except.ok (new ++ [], rs ++ []) = _
      rw [List.append_nil, List.append_nil]
    have hx3 := s3 _ _ h1
    have hL3 := s3 _ _ h2
    have lu := pair_len h3
    have hlt := LA.lt
    refine ⟨_, rfl, _, ⟨.inr (.inl ⟨ws, SqT.of (s3 _ _ ht), rfl⟩), ?_⟩⟩
    cases hws : ws.isEmpty with
    | true =>
      have ews : ws = [] := List.isEmpty_iff.mp hws
      have en : new = [] := List.length_eq_zero_iff.mp (by rw [l1, ← List.length_map (f := Arg.op) (as := os), ← lw, ews]; rfl)
      refine iteF ⟨_, rfl, good new rs hrun H3 Re vs2 (But2.of s3) ?_ hRe0 e2 p2 fun l hl => (fr l hl).1⟩
      rw [en]
      exact LA.same s3
    | false =>
      have nws : os ≠ [] := fun z => by rw [z] at lw; have : ws = [] := List.length_eq_zero_iff.mp lw; rw [this] at hws; cases hws
      have nn : new ≠ [] := fun z => nws (List.length_eq_zero_iff.mp (by rw [← l1, z]; rfl))
      have nxL : x ≠ L := fun z => by rw [z, h2] at h1; cases h1
      have nLLa : L ≠ La := fun z => by rw [z, hLa0] at h2; cases h2
      have nxLa : x ≠ La := fun z => by rw [z, hLa0] at h1; cases h1
      have nLaL := Ne.symm nLLa
      refine iteT ⟨_, rfl, _, rfl, x, CL, dx, _, .ref L, rfl, hx3, LC.cl, LC.n1, lk_mom .., _, rfl, x, CL, dx, _, _, rfl, hx3, LC.cl, LC.n2, lk_pre .., _, _, rfl, rfl, _, rfl, L, La, us, vs1, k + 1, rfl, rfl, by simp, hL3, e1, nLLa, by omega, by rw [lu, pair_len p1, l1]; exact Nat.le_trans (by have := LA.few; omega : _ ≤ 1800) (by decide), ?_⟩
      have k4 := KeepF.upd (o' := .lst (us.take (k + 1) ++ vs1)) hL3 nfz_lst
      have hx4 : (upd H3 L (.lst (us.take (k + 1) ++ vs1))) x = some (.ins CL dx (liF L k)) := by rw [upd_ne nxL]; exact hx3
      have e14 : (upd H3 L (.lst (us.take (k + 1) ++ vs1))) La = some (.lst vs1) := by rw [upd_ne nLaL]; exact e1
      refine ⟨_, rfl, x, CL, dx, _, _, rfl, hx4, LC.cl, LC.n2, lk_pre .., _, rfl, La, vs1, rfl, .inl (SqL.of e14), _, _, rfl, rfl, dx, _, hx4, by show 2 < 1000; decide, _, rfl, ?_⟩
      have ep : putF "_present" (V.int ((k : Int) + (vs1.length : Nat))) (liF L k) = liF L (k + new.length) := by
        rw [pair_len p1, show ((k : Int) + (new.length : Nat)) = ((k + new.length : Nat) : Int) by omega]
        rfl
      rw [ep]
      have k5 := k4.trans (KeepF.upd (o' := .ins CL dx (liF L (k + new.length))) hx4 nfz_ins)
      have nReL : Re ≠ L := fun z => by rw [z, h2] at hRe0; cases hRe0
      have nRex : Re ≠ x := fun z => by rw [z, h1] at hRe0; cases hRe0
      have lt2 : (ms.take (k + 1)).length = k + 1 := by rw [List.length_take]; omega
      refine good new rs hrun _ Re vs2 (fun b u e n1 n2 => by rw [upd_ne n1, upd_ne n2]; exact s3 _ _ e) ?_ hRe0 (by rw [upd_ne nRex, upd_ne nReL]; exact e2) ?_ fun l hl => (fr l hl).1
      · unfold nextMs
        rw [if_neg nn]
        refine ⟨⟨dx, us.take (k + 1) ++ vs1, upd_same, by rw [upd_ne (Ne.symm nxL)]; exact upd_same, ?_⟩, ?_, ?_, fun i m' e => ?_⟩
        · exact pair_app (pair_mono (fun _ _ z => (z.keep (.of s3)).keep k5) (pair_take (k + 1) h3)) (pair_mono (fun _ _ z => z.keep k5) p1)
        · rw [List.length_append, lt2]
          omega
        · rw [List.length_append, lt2, l1]
          omega
        · by_cases hi : i < (ms.take (k + 1)).length
          · rw [List.getElem?_append_left hi, List.getElem?_take_of_lt (by omega)] at e
            exact LA.fit i m' e
          · rw [List.getElem?_append_right (by omega), lt2] at e
            exact (fits _ m' e).mono (by omega)
      · have : ∀ {us' : List V} {qs : List Rs}, PySem.Paired (RsV H3) us' qs → (∀ l, V.ref l ∈ us' → H l = none ∧ l ≠ La ∧ l ≠ Re) → PySem.Paired (RsV (upd (upd H3 L (.lst (us.take (k + 1) ++ vs1))) x (.ins CL dx (liF L (k + new.length))))) us' qs := fun {us' qs} h => by
          induction h with
          | nil => exact fun _ => .nil
          | @cons u q us2 qs h t ih =>
            intro fr
            refine .cons ?_ (ih fun l hl => fr l (List.mem_cons_of_mem _ hl))
            cases q with
            | num n => exact h
            | gone xs =>
              obtain ⟨l, rfl, e⟩ := h
              have hl0 := (fr l List.mem_cons_self).1
              refine ⟨l, rfl, ?_⟩
              rw [upd_ne (fun z => by rw [z, h1] at hl0; cases hl0), upd_ne (fun z => by rw [z, h2] at hl0; cases hl0)]
              exact e
        exact this p2 fr
/-- a single operation's promise -/
def LeadsL (C CL fI fL CN CB CE CU CO x L : Addr) (H : Hp) (Q : VK) (E : XK) (ms : List Mo) (k : Nat) (m : Mo) (o : Op) : Prop :=
  (∀ m' r, stepM m o = .ok (m', r) → ∀ (H' : Hp) (v : V), But2 x L H H' → LiveAt C CL H' x L (ms.take (k + 1) ++ [m']) (k + 1) → RsV H' v r → (∀ l, v = .ref l → H l = none) → Q v H') ∧ ∀ e, stepM m o = .error e → Fails CN CB CE CU H E e
def spOne (K : PySem.W.Frag) (mg : Str → Option Value) (C CL fI fL CN CB CE CU CO : Addr) (args : List V → Op → Prop) : Sp := fun vs H Q E => ∃ (x L : Addr) (as : List V) (o : Op) (ms : List Mo) (k : Nat) (m : Mo), vs = .ref x :: as ∧ args as o ∧ LiveAt C CL H x L ms k ∧ ms[k]? = some m ∧ k + 2 ≤ 900 ∧ OpOk o ∧ LeadsL C CL fI fL CN CB CE CU CO x L H Q E ms k m o
theorem one_apply {C CL fI fL CN CB CE CU CO x L p : Addr} {H : Hp} {Q : VK} {E : XK} {ms : List Mo} {k : Nat} {m : Mo} {o : Op} (LA : LiveAt C CL H x L ms k) (hm : ms[k]? = some m) (hk : k + 2 ≤ 900) (ho : OpOk o) (ld : LeadsL C CL fI fL CN CB CE CU CO x L H Q E ms k m o) (hp : H p = none) :
    ∀ t, (upd H p (.tup (opVs (some o)))) t = none → spApply K mg C CL fI fL CN CB CE CU CO [.ref x, .ref t] (upd (upd H p (.tup (opVs (some o)))) t (.tup [.ref p])) (fun v H' => ∃ rl u, v = .ref rl ∧ H' rl = some (.lst [u]) ∧ Q u H') E := by
  intro t ht
  have s1 : Same H (upd H p (.tup (opVs (some o)))) := same_upd hp
  have s2 := s1.trans (same_upd (o := .tup [.ref p]) ht)
  have ep : (upd (upd H p (.tup (opVs (some o)))) t (.tup [.ref p])) p = some (.tup (opVs (some o))) := by rw [upd_ne (ne_of_none upd_same ht)]; exact upd_same
  have et : (upd (upd H p (.tup (opVs (some o)))) t (.tup [.ref p])) t = some (.tup [.ref p]) := upd_same
  generalize upd (upd H p (.tup (opVs (some o)))) t (.tup [.ref p]) = H2 at *
  refine ⟨x, t, L, _, [.op o], ms, k, m, rfl, LA.same s2, hm, et, .cons ⟨p, rfl, ep, (fun ws e => by cases e)⟩ .nil, hk, (fun o' h => by cases (List.mem_singleton.mp h); exact ho), (fun i e => by cases e), fun os e => ?_⟩
  obtain rfl : os = [o] := by
    cases os with
    | nil => cases e
    | cons a r =>
      cases r with
      | nil => cases e; rfl
      | cons b r => cases e
  obtain ⟨ok, bad⟩ := ld
  constructor
  · intro new rs run H' rl us b2 LA2 frl erl prs fr
    unfold runM at run
    cases es : stepM m o with
    | error e => simp only [es] at run; cases run
    | ok q =>
      obtain ⟨m', r⟩ := q
      simp only [es] at run
      unfold runM at run
      cases run
      cases prs with
      | @cons u _ ur _ hu tl =>
        cases tl
        refine ⟨rl, u, rfl, erl, ok m' r es H' u (fun b o e n1 n2 => b2 b o (s2 _ _ e) n1 n2) ?_ hu fun l e => s2.free (fr l (by rw [e]; exact List.mem_cons_self))⟩
        exact LA2
  · intro e run
    unfold runM at run
    cases es : stepM m o with
    | error e2 =>
      simp only [es] at run
      cases run
      exact fails_same s2 (bad _ es)
    | ok q =>
      obtain ⟨m', r⟩ := q
      simp only [es] at run
      unfold runM at run
      cases run
def spApplyR (K : PySem.W.Frag) (mg : Str → Option Value) (C CL fI fL CN CB CE CU CO : Addr) : Sp := fun vs H Q E => ∃ ws rest, vs = ws ++ rest ∧ ws.length = (["self"] : List Str).length ∧ rest.length ≤ sizeLine ∧ ∀ p, H p = Option.none → spApply K mg C CL fI fL CN CB CE CU CO (ws ++ [V.ref p]) (upd H p (.tup rest)) Q E
end
end Lv
set_option Elab.async false
set_option linter.all false
set_option maxRecDepth 100000
set_option maxHeartbeats 8000000
set_option autoImplicit false
/-! LivePile: apply as a def, come, go, wait. -/
namespace Lv
open PySem L2 Sho NdefX Shg Sh1 Sh4
structure FunK1 (K : PySem.W.Frag) (x qual : Str) (st : Stmt) (f : Addr) : Prop where
  ex : ∃ (oc : Value) (od : Option Addr) (doc pm : Value) (an : Option Addr) (cdv ct : Value) (osl : Array (Option Value)),
    K.lookup f = some ⟨oc, od, .func (PySem.W.fnOf x qual (defArgs st) (defBody st) (defScope st) .none .none doc pm an cdv ct), osl⟩ ∧ PySem.W.codeIn K cdv qual = true
section
variable {P : Program} {w : World} {K : PySem.W.Frag} {mg : Str → Option Value} {base : Heap}
theorem ok_apply {f C CL fI fL CN CB CE CU CO fM fO fA : Addr} {fdM fdO fdA : FuncData} (F : FunK1 K "apply" "LivePile.apply" sLivePile_Apply f) (B : Shg.Blt mg) (LC : LivC K mg CL fL)
    (GM : FnOk P w K mg base CX0 1 fM fdM ["self"] (spMom K mg C CL fL)) (hM : Meth K CL "_moment" fM) (bM : Binds K fdM ["self"] [])
    (GO : FnOk P w K mg base (L2.CX P w) 3 fO fdO ["operations"] (spCheckOps CO)) (mO : mg "_check_operations" = some (.ref fO)) (kO : PySem.W.keepIn K (.ref fO) = true) (bO : Binds K fdO ["operations"] [])
    (GA : FnOk P w K mg base (L2.CX P w) 5 fA fdA ["moment", "operation"] (spAfter K mg C fI CN CB CE CU)) (mA : mg "_after" = some (.ref fA)) (kA : PySem.W.keepIn K (.ref fA) = true) (bA : Binds K fdA ["moment", "operation"] []) :
    FnR P w K mg base (L2.CX P w) 6 f (spApplyR K mg C CL fI fL CN CB CE CU CO) := by
  obtain ⟨oc, od, doc, pm, an, cdv, ct, osl, lk, hcd⟩ := F.ex
  refine StX.fn_star (ps := ["self"]) (pv := "operations") lk hcd scApply StX.cxUp (StX.bind_star1 (B := fun us => bindArgs (PySem.W.fnOf "apply" "LivePile.apply" (defArgs sLivePile_Apply) (defBody sLivePile_Apply) (defScope sLivePile_Apply) .none .none doc pm an cdv ct) ⟨us, []⟩) (p1 := "self") (pv := "operations") (fun a => rfl) fun a r rs => rfl) fun A outer s H vs Q E hr h => ?_
  exact apply_body B LC GM hM bM GO mO kO bO GA mA kA bA hr h
theorem spApply_mono {C CL fI fL CN CB CE CU CO : Addr} {vs : List V} {H : Hp} {Q R : VK} {E : XK} (h : ∀ v H', Q v H' → R v H') (a : spApply K mg C CL fI fL CN CB CE CU CO vs H Q E) : spApply K mg C CL fI fL CN CB CE CU CO vs H R E := by
  obtain ⟨x, t, L, ws, xs, ms, k, m, e, LA, hm, ht, pw, hlen, hok, kBad, kOk⟩ := a
  refine ⟨x, t, L, ws, xs, ms, k, m, e, LA, hm, ht, pw, hlen, hok, kBad, fun os eo => ⟨fun new rs run H' rl us b l f er ps fr => h _ _ ((kOk os eo).1 new rs run H' rl us b l f er ps fr), (kOk os eo).2⟩⟩
theorem one_len {C CL fI fL CN CB CE CU CO : Addr} {args : List V → Op → Prop} {n : Nat} (ha : ∀ as o, args as o → as.length = n) (vs : List V) (H : Hp) (Q : VK) (E : XK) (h : spOne K mg C CL fI fL CN CB CE CU CO args vs H Q E) : vs.length = n + 1 := by
  obtain ⟨x, L, as, o, ms, k, m, rfl, aa, _⟩ := h
  rw [List.length_cons, ha as o aa]

def argsCome (as : List V) (o : Op) : Prop := ∃ n k, as = [.str n, .int k] ∧ o = .come n k
theorem scLCome : FnScope ["self", "name", "pile"] ["self", "name", "pile"] (defScope sLivePile_Come) := ⟨rfl, rfl, rfl, by decide +kernel, rfl, by decide +kernel, by decide +kernel⟩
theorem ok_lcome {f C CL fI fL CN CB CE CU CO fP : Addr} {fd : FuncData} (F : Fun K "come" "LivePile.come" sLivePile_Come f fd) (LC : LivC K mg CL fL) (GP : FnR P w K mg base (L2.CX P w) 6 fP (spApplyR K mg C CL fI fL CN CB CE CU CO)) (hP : Meth K CL "apply" fP) :
    FnOk P w K mg base (L2.CX P w) 7 f fd ["self", "name", "pile"] (spOne K mg C CL fI fL CN CB CE CU CO argsCome) := by
  refine F.okX scLCome (one_len fun as o ⟨n, k, e, _⟩ => by rw [e]; rfl) (fun cdv A outer s H vs Q E hr h => ?_)
  obtain ⟨x, L, as, o, ms, k, m, rfl, ⟨n, k, rfl, rfl⟩, LA, hm, hk, ho, ld⟩ := h
  have pass : Passes (L2.CX P w) (cxOf (L2.CX P w) P w K mg base ["self", "name", "pile"] "LivePile.come" (defScope sLivePile_Come) f cdv A outer s H E) E := passes_call (takes_of rfl rfl rfl rfl) fun _ _ _ _ z => z
  obtain ⟨dx, us, h1, h2, h3⟩ := LA.ex
  refine ⟨_, (pss_one (ps_ret (pe_ix ix_list (pe_methR (pv 0) LC.cl hP GP (hr.mono (by decide)) pass (pa_cons (pe_tup (pa_cons pe_str (pa_cons (pv 1) (pa_cons (pv 2) pa_nil)))) pa_nil)) pe_int (fun _ _ => rfl)))), ?_⟩
  refine ⟨_, rfl, x, dx, _, rfl, h1, no_liF _ (by decide +kernel) (by decide +kernel), _, rfl, _, rfl, by show 3 ≤ sizeLine; decide, fun p hp => ⟨[.ref x], [.ref p], rfl, rfl, by show 1 ≤ sizeLine; decide, fun t ht => ?_⟩⟩
  have key := one_apply (K := K) (mg := mg) LA hm hk ho ld hp t ht
  refine spApply_mono ?_ key
  rintro v H' ⟨rl, u, rfl, e, qu⟩
  exact ⟨rl, [u], _, u, rfl, rfl, SqL.of e, atI_nat (j := 0) rfl, qu⟩

def argsGo (as : List V) (o : Op) : Prop := ∃ n, as = [.str n] ∧ o = .go n
theorem scLGo : FnScope ["self", "name"] ["self", "name"] (defScope sLivePile_Go) := ⟨rfl, rfl, rfl, by decide +kernel, rfl, by decide +kernel, by decide +kernel⟩
theorem ok_lgo {f C CL fI fL CN CB CE CU CO fP : Addr} {fd : FuncData} (F : Fun K "go" "LivePile.go" sLivePile_Go f fd) (LC : LivC K mg CL fL) (GP : FnR P w K mg base (L2.CX P w) 6 fP (spApplyR K mg C CL fI fL CN CB CE CU CO)) (hP : Meth K CL "apply" fP) :
    FnOk P w K mg base (L2.CX P w) 7 f fd ["self", "name"] (spOne K mg C CL fI fL CN CB CE CU CO argsGo) := by
  refine F.okX scLGo (one_len fun as o ⟨n, e, _⟩ => by rw [e]; rfl) (fun cdv A outer s H vs Q E hr h => ?_)
  obtain ⟨x, L, as, o, ms, k, m, rfl, ⟨n, rfl, rfl⟩, LA, hm, hk, ho, ld⟩ := h
  have pass : Passes (L2.CX P w) (cxOf (L2.CX P w) P w K mg base ["self", "name"] "LivePile.go" (defScope sLivePile_Go) f cdv A outer s H E) E := passes_call (takes_of rfl rfl rfl rfl) fun _ _ _ _ z => z
  obtain ⟨dx, us, h1, h2, h3⟩ := LA.ex
  refine ⟨_, (pss_one (ps_ret (pe_ix ix_list (pe_methR (pv 0) LC.cl hP GP (hr.mono (by decide)) pass (pa_cons (pe_tup (pa_cons pe_str (pa_cons (pv 1) pa_nil))) pa_nil)) pe_int (fun _ _ => rfl)))), ?_⟩
  refine ⟨_, rfl, x, dx, _, rfl, h1, no_liF _ (by decide +kernel) (by decide +kernel), _, rfl, by show 2 ≤ sizeLine; decide, fun p hp => ⟨[.ref x], [.ref p], rfl, rfl, by show 1 ≤ sizeLine; decide, fun t ht => ?_⟩⟩
  have key := one_apply (K := K) (mg := mg) LA hm hk ho ld hp t ht
  refine spApply_mono ?_ key
  rintro v H' ⟨rl, u, rfl, e, qu⟩
  exact ⟨rl, [u], _, u, rfl, rfl, SqL.of e, atI_nat (j := 0) rfl, qu⟩

def argsWait (as : List V) (o : Op) : Prop := ∃ t, as = [.int t] ∧ o = .wait t
theorem scLWait : FnScope ["self", "ticks"] ["self", "ticks"] (defScope sLivePile_Wait) := ⟨rfl, rfl, rfl, by decide +kernel, rfl, by decide +kernel, by decide +kernel⟩
theorem ok_lwait {f C CL fI fL CN CB CE CU CO fP : Addr} {fd : FuncData} (F : Fun K "wait" "LivePile.wait" sLivePile_Wait f fd) (LC : LivC K mg CL fL) (GP : FnR P w K mg base (L2.CX P w) 6 fP (spApplyR K mg C CL fI fL CN CB CE CU CO)) (hP : Meth K CL "apply" fP) :
    FnOk P w K mg base (L2.CX P w) 7 f fd ["self", "ticks"] (spOne K mg C CL fI fL CN CB CE CU CO argsWait) := by
  refine F.okX scLWait (one_len fun as o ⟨t, e, _⟩ => by rw [e]; rfl) (fun cdv A outer s H vs Q E hr h => ?_)
  obtain ⟨x, L, as, o, ms, k, m, rfl, ⟨t, rfl, rfl⟩, LA, hm, hk, ho, ld⟩ := h
  have pass : Passes (L2.CX P w) (cxOf (L2.CX P w) P w K mg base ["self", "ticks"] "LivePile.wait" (defScope sLivePile_Wait) f cdv A outer s H E) E := passes_call (takes_of rfl rfl rfl rfl) fun _ _ _ _ z => z
  obtain ⟨dx, us, h1, h2, h3⟩ := LA.ex
  refine ⟨_, (pss_one (ps_ret (pe_ix ix_list (pe_methR (pv 0) LC.cl hP GP (hr.mono (by decide)) pass (pa_cons (pe_tup (pa_cons pe_str (pa_cons (pv 1) pa_nil))) pa_nil)) pe_int (fun _ _ => rfl)))), ?_⟩
  refine ⟨_, rfl, x, dx, _, rfl, h1, no_liF _ (by decide +kernel) (by decide +kernel), _, rfl, by show 2 ≤ sizeLine; decide, fun p hp => ⟨[.ref x], [.ref p], rfl, rfl, by show 1 ≤ sizeLine; decide, fun t ht => ?_⟩⟩
  have key := one_apply (K := K) (mg := mg) LA hm hk ho ld hp t ht
  refine spApply_mono ?_ key
  rintro v H' ⟨rl, u, rfl, e, qu⟩
  exact ⟨rl, [u], _, u, rfl, rfl, SqL.of e, atI_nat (j := 0) rfl, qu⟩
end
end Lv
set_option Elab.async false
set_option linter.all false
set_option maxRecDepth 100000
set_option maxHeartbeats 4000000
/-! all([lo <= c <= hi for c in z]); [c for c in z if not lo <= c <= hi] != []. -/
namespace Shg
open PySem L2 Sho NdefX
abbrev sgn (c : Nat) : V := .str ⟨#[c]⟩
abbrev rLeS : R2 := fun x y H Q => ∃ i j, x = .str i ∧ y = .str j ∧ Q (.bl (!decide (j.cps.toList < i.cps.toList))) H
theorem one_less (c d : Nat) : ([c] < [d]) ↔ c < d := by
  rw [List.cons_lt_cons_iff]
  simp
/-- between the signs a and b -/
def within (a b c : Nat) : Bool := !decide (c < a) && !decide (b < c)
theorem dpSigns {K : PySem.W.Frag} {H : Hp} : ∀ cs : List Nat, DpAll K H (cs.map sgn) (cs.map fun c => .str ⟨#[c]⟩)
  | [] => .nil
  | c :: cs => .cons (.str _) (dpSigns cs)
theorem laySigns : ∀ {cs : List Nat}, (∀ c ∈ cs, c < 0x110000) → PyData.canLayAll0 (cs.map fun c => .str ⟨#[c]⟩) = true
  | [], _ => rfl
  | c :: cs, h => by
    have h1 := h c List.mem_cons_self
    have h2 := laySigns (cs := cs) fun y hy => h y (List.mem_cons_of_mem _ hy)
    show (PyData.canLay0 (.str ⟨#[c]⟩) && PyData.canLayAll0 (cs.map fun c => .str ⟨#[c]⟩)) = true
    rw [h2, Bool.and_true]
    show (#[c].all fun x => decide (x < 0x110000)) = true
    simpa using h1
theorem depthSigns : ∀ cs : List Nat, PyData.depthAll (cs.map fun c => .str ⟨#[c]⟩) = 0
  | [] => rfl
  | c :: cs => by
    have h := depthSigns cs
    show max (PyData.depth (.str ⟨#[c]⟩)) (PyData.depthAll (cs.map fun c => .str ⟨#[c]⟩)) = 0
    rw [h]
    rfl
theorem shapedSigns {cs : List Nat} (h : ∀ c ∈ cs, c < 0x110000) : SeqAt.shaped (.list (cs.map fun c => .str ⟨#[c]⟩)) = true := by
  unfold SeqAt.shaped
  have h1 : PyData.canLay0 (.list (cs.map fun c => .str ⟨#[c]⟩)) = true := laySigns h
  have h2 : PyData.depth (.list (cs.map fun c => .str ⟨#[c]⟩)) ≤ 64 := by
    show PyData.depthAll (cs.map fun c => .str ⟨#[c]⟩) + 1 ≤ 64
    rw [depthSigns]
    decide
  rw [h1, decide_eq_true h2]
  rfl
/-- lo <= c <= hi of one sign -/
theorem chain_sign {lo up : Str} {a b c i : Nat} {σ : L2.St} {H : Hp} {Q : VK} (ha : lo.cps.toList = [a]) (hb : up.cps.toList = [b]) (hi : σ[i]? = some (some (sgn c))) (h : Q (.bl (within a b c)) H) :
    tChain rLeS rLeS (tC (.str lo)) (tVar i) (tC (.str up)) σ H Q := by
  refine ⟨_, hi, _, _, rfl, rfl, _, rfl, ?_⟩
  have e1 : decide (({ cps := #[c] } : Str).cps.toList < lo.cps.toList) = decide (c < a) := by
    rw [ha]
    exact decide_eq_decide.mpr (one_less c a)
  
  have e2 : decide (up.cps.toList < ({ cps := #[c] } : Str).cps.toList) = decide (b < c) := by
    rw [hb]
    exact decide_eq_decide.mpr (one_less b c)
  rw [e1]
  unfold within at h
  by_cases h3 : c < a
  · rw [decide_eq_true h3] at h ⊢
    exact iteF h
  · rw [decide_eq_false h3] at h ⊢
    refine iteT ⟨_, _, rfl, rfl, ?_⟩
    rw [e2]
    exact h
section
variable {z : Str} {lo up : Str} {a b i : Nat} {σ : L2.St} {vs : List Nat} {H1 : Hp} {D : Addr}
/-- all([lo <= c <= hi for c in z]) -/
theorem lc_all {Q : Addr → VK} {K : PySem.W.Frag} {R : VK} (ha : lo.cps.toList = [a]) (hb : up.cps.toList = [b]) (hz : z.length ≤ sizeLine) (hs : ∀ v, wipe ((wipe σ vs).set i (some v)) vs = wipe σ vs) (hg : ∀ v : V, ((wipe σ vs).set i (some v))[i]? = some (some v))
    {te : TE} (hte : ∀ Q : VK, Q (.str z) H1 → te σ H1 Q) (h : ∀ H', Same H1 H' → R (.bl (z.cps.toList.all (within a b))) H') :
    tCB (rAll K) (tCons (tLc (iStr te) (gName i) tYes (tChain rLeS rLeS (tC (.str lo)) (tVar i) (tC (.str up))) vs) tNil) σ H1 R := by
  refine hte _ ⟨z, rfl, fun D hD => ?_⟩
  refine lc_map (walk_str (z := z)) (fun i => (z.cps.toList[i]?).map fun c => .bl (within a b c)) hD hz (fun _ _ => trivial) (fun j x H2 H' hi s2 y R k1 => ?_) (fun i hi => ⟨_, by rw [List.getElem?_eq_getElem (by simpa using hi)]; rfl⟩) fun H2 s2 e2 => ?_
  · obtain ⟨rfl, c, hc, rfl⟩ := y
    refine ⟨hs _, chain_sign ha hb (hg _) (k1 _ _ (Same.refl _) ?_)⟩
    rw [Array.getElem?_toList, hc]
    rfl
  · refine ⟨D, z.cps.toList.map (within a b), rfl, ?_, ?_⟩
    · have e3 : gather (fun i => (z.cps.toList[i]?).map fun c => V.bl (within a b c)) z.cps.size = (z.cps.toList.map (within a b)).map V.bl := by
        have := gather_map z.cps.toList fun c => V.bl (within a b c)
        rw [Array.length_toList] at this
        rw [this, List.map_map]
        rfl
      rw [← e3]
      exact SqL.of e2
    · have e3 : (z.cps.toList.map (within a b)).all id = z.cps.toList.all (within a b) := by
        rw [List.all_map]
        rfl
      rw [e3]
      exact h _ s2
/-- [c for c in z if not lo <= c <= hi], a new list -/
theorem lc_signs {R : VK} (ha : lo.cps.toList = [a]) (hb : up.cps.toList = [b]) (hz : z.length ≤ sizeLine) (hs : ∀ v, wipe ((wipe σ vs).set i (some v)) vs = wipe σ vs) (hg : ∀ v : V, ((wipe σ vs).set i (some v))[i]? = some (some v))
    {te : TE} (hte : ∀ Q : VK, Q (.str z) H1 → te σ H1 Q) (h : ∀ D H2, Same H1 H2 → H1 D = none → H2 D = some (.lst ((z.cps.toList.filter fun c => !within a b c).map sgn)) → R (.ref D) H2) :
    tLc (iStr te) (gName i) (tNot (tTest (tChain rLeS rLeS (tC (.str lo)) (tVar i) (tC (.str up))))) (tVar i) vs σ H1 R := by
  refine hte _ ⟨z, rfl, fun D hD => ?_⟩
  refine lc_gather (walk_str (z := z)) (fun i => (z.cps.toList[i]?).bind fun c => match within a b c with | true => none | false => some (sgn c)) hD hz (fun _ _ => trivial) (fun j x H2 H' hi s2 y R k1 => ?_) fun H2 s2 e2 => ?_
  · obtain ⟨rfl, c, hc, rfl⟩ := y
    have k2 := k1 _ (Same.refl _)
    have fi : ((z.cps.toList[j]?).bind fun c => match within a b c with | true => none | false => some (sgn c)) = match within a b c with | true => none | false => some (sgn c) := by
      rw [Array.getElem?_toList, hc]
      rfl
    rw [fi] at k2
    refine ⟨hs _, chain_sign ha hb (hg _) ⟨_, rfl, ?_⟩⟩
    cases e : within a b c with
    | true => exact iteF (by rw [e] at k2; exact k2)
    | false => exact iteT ⟨_, hg _, by rw [e] at k2; exact k2⟩
  · refine h D H2 s2 hD ?_
    have e := gather_list z.cps.toList fun c => match within a b c with | true => none | false => some (sgn c)
    rw [Array.length_toList] at e
    rw [e] at e2
    rw [e2]
    congr 1
    generalize z.cps.toList = cs
    induction cs with
    | nil => rfl
    | cons c cs ih =>
      rw [List.filterMap_cons, List.filter_cons]
      cases e : within a b c with
      | true => simpa [e] using ih
      | false => simpa [e] using ih
/-- [c for c in z if not lo <= c <= hi] == [], as a value -/
theorem lc_good {K : PySem.W.Frag} {R : VK} (ha : lo.cps.toList = [a]) (hb : up.cps.toList = [b]) (hz : z.length ≤ sizeLine) (hc : ∀ c ∈ z.cps.toList, c < 0x110000) (hs : ∀ v, wipe ((wipe σ vs).set i (some v)) vs = wipe σ vs) (hg : ∀ v : V, ((wipe σ vs).set i (some v))[i]? = some (some v))
    {te : TE} (hte : ∀ Q : VK, Q (.str z) H1 → te σ H1 Q) (h : ∀ H', Same H1 H' → R (.bl (z.cps.toList.all (within a b))) H') :
    tOp (rEqD K) (tLc (iStr te) (gName i) (tNot (tTest (tChain rLeS rLeS (tC (.str lo)) (tVar i) (tC (.str up))))) (tVar i) vs) (tLst tNil) σ H1 R := by
  refine lc_signs ha hb hz hs hg hte fun D H2 s2 hD e2 => ⟨Nat.zero_le _, fun L hL => ⟨_, .list [], .lst (SqL.of (by rw [upd_ne (ne_of_none e2 hL)]; exact e2)) (dpSigns (z.cps.toList.filter fun c => !within a b c)), .lst (SqL.of upd_same) .nil, shapedSigns (cs := z.cps.toList.filter fun c => !within a b c) fun c hc' => hc c (List.mem_filter.mp hc').1, rfl, ?_⟩⟩
  have e5 : z.cps.toList.all (within a b) = PyData.eqv (.list ((z.cps.toList.filter fun c => !within a b c).map fun c => .str ⟨#[c]⟩)) (.list []) := by
    generalize z.cps.toList = cs
    show cs.all _ = PyData.eqvAll _ []
    induction cs with
    | nil => rfl
    | cons c cs ih =>
      rw [List.all_cons, List.filter_cons]
      cases within a b c with
      | true => simpa using ih
      | false => rfl
  rw [← e5]
  exact h _ (s2.trans (same_upd hL))
/-- [c for c in z if not lo <= c <= hi] != [] -/
theorem lc_bad {K : PySem.W.Frag} {R : Bool → Hp → Prop} (ha : lo.cps.toList = [a]) (hb : up.cps.toList = [b]) (hz : z.length ≤ sizeLine) (hc : ∀ c ∈ z.cps.toList, c < 0x110000) (hs : ∀ v, wipe ((wipe σ vs).set i (some v)) vs = wipe σ vs) (hg : ∀ v : V, ((wipe σ vs).set i (some v))[i]? = some (some v))
    {te : TE} (hte : ∀ Q : VK, Q (.str z) H1 → te σ H1 Q) (h : ∀ H', Same H1 H' → R (!z.cps.toList.all (within a b)) H') :
    tTest (tOp (rNeD K) (tLc (iStr te) (gName i) (tNot (tTest (tChain rLeS rLeS (tC (.str lo)) (tVar i) (tC (.str up))))) (tVar i) vs) (tLst tNil)) σ H1 R := by
  refine hte _ ⟨z, rfl, fun D hD => ?_⟩
  refine lc_gather (walk_str (z := z)) (fun i => (z.cps.toList[i]?).bind fun c => if within a b c = true then none else some (sgn c)) hD hz (fun _ _ => trivial) (fun j x H2 H' hi s2 y R k1 => ?_) fun H2 s2 e2 => ?_
  · obtain ⟨rfl, c, hc, rfl⟩ := y
    have k2 := k1 _ (Same.refl _)
    have fi : ((z.cps.toList[j]?).bind fun c => if within a b c = true then none else some (sgn c)) = if within a b c = true then none else some (sgn c) := by
      rw [Array.getElem?_toList, hc]
      rfl
    rw [fi] at k2
    refine ⟨hs _, chain_sign ha hb (hg _) ⟨_, rfl, ?_⟩⟩
    cases e : within a b c with
    | true =>
      rw [e, if_pos rfl] at k2
      exact iteF k2
    | false =>
      rw [e, if_neg Bool.false_ne_true] at k2
      exact iteT ⟨_, hg _, k2⟩
  · have e4 : gather (fun i => (z.cps.toList[i]?).bind fun c => if within a b c = true then none else some (sgn c)) z.cps.size = (z.cps.toList.filter fun c => !within a b c).map sgn := by
      have e := gather_list z.cps.toList fun c => if within a b c = true then none else some (sgn c)
      rw [Array.length_toList] at e
      rw [e]
      generalize z.cps.toList = cs
      induction cs with
      | nil => rfl
      | cons c cs ih =>
        rw [List.filterMap_cons, List.filter_cons, ih]
        cases within a b c <;> rfl
    rw [e4] at e2
    refine ⟨Nat.zero_le _, fun L hL => ⟨_, .list [], .lst (SqL.of ?_) (dpSigns (z.cps.toList.filter fun c => !within a b c)), .lst (SqL.of upd_same) .nil, shapedSigns (cs := z.cps.toList.filter fun c => !within a b c) fun c hc' => hc c (List.mem_filter.mp hc').1, rfl, _, rfl, ?_⟩⟩
    · rw [upd_ne (ne_of_none e2 hL)]
      exact e2
    · have e5 : z.cps.toList.all (within a b) = PyData.eqv (.list ((z.cps.toList.filter fun c => !within a b c).map fun c => .str ⟨#[c]⟩)) (.list []) := by
        generalize z.cps.toList = cs
        show cs.all _ = PyData.eqvAll _ []
        induction cs with
        | nil => rfl
        | cons c cs ih =>
          rw [List.all_cons, List.filter_cons]
          cases within a b c with
          | true => simpa using ih
          | false => rfl
      rw [← e5]
      exact h _ (s2.trans (same_upd hL))
end
end Shg
set_option Elab.async false
set_option linter.all false
set_option maxRecDepth 100000
set_option maxHeartbeats 2000000
/-! a op b op c op d as a test -/
namespace Sho
open PySem PySem.Spec PyProof.Rows L2 StX
section
variable {X : Cx} {a b c d : Expr} {ta tb tc td : TE} {pos : Pos}
def tChain3 (r1 r2 r3 : R2) (ta tb tc td : TE) : TT := fun σ H Q => ta σ H fun x H1 => tb σ H1 fun y H2 => r1 x y H2 fun z H3 => ∃ k, z = .bl k ∧
  (if k = true then tc σ H3 fun w H4 => r2 y w H4 fun z2 H5 => ∃ k2, z2 = .bl k2 ∧ (if k2 = true then td σ H5 fun u H6 => r3 w u H6 fun z3 H7 => ∃ k3, z3 = .bl k3 ∧ Q k3 H7 else Q false H5) else Q false H3)
theorem pt_chain3 {op1 op2 op3 : CmpOp} {r1 r2 r3 : R2} (h1 : OpR X (compareOp op1) r1) (h2 : OpR X (compareOp op2) r2) (h3 : OpR X (compareOp op3) r3) (ha : PE X a ta) (hb : PE X b tb) (hc : PE X c tc) (hd : PE X d td)
    (hm : lastMarks [op1, op2, op3] [b, c, d] = false := by with_unfolding_all rfl) : PT X (.Compare a [op1, op2, op3] [b, c, d] pos) (tChain3 r1 r2 r3 ta tb tc td) := by
  refine ⟨fun pins s σ H Q I h => ?_⟩
  refine isTrue_chain (thn (ha.run pins s σ H _ I h) fun v s1 ⟨x, H1, I1, rx, q1⟩ => test_link (thn (hb.run pins s1 σ H1 _ I1 q1) fun u s2 ⟨y, H2, I2, ry, q2⟩ =>
    thn (h1 pins s2 σ H2 x y v u _ I2 rx ry q2) fun e s3 ⟨z, H3, I3, rz, k, ez, q3⟩ => ?_)) hm
  subst ez
  cases rz
  refine wpAny_truthy_bool ?_
  cases k with
  | false => exact ite_ff ⟨H3, I3, q3⟩
  | true =>
    refine ite_tt (test_link (thn (hc.run pins s3 σ H3 _ I3 q3) fun v' s4 ⟨w, H4, I4, rw, q4⟩ => thn (h2 pins s4 σ H4 y w u v' _ I4 ry rw q4) fun e2 s5 ⟨z2, H5, I5, rz2, k2, ez2, q5⟩ => ?_))
    subst ez2
    cases rz2
    refine wpAny_truthy_bool ?_
    cases k2 with
    | false => exact ite_ff ⟨H5, I5, q5⟩
    | true =>
      refine ite_tt (test_last (thn (hd.run pins s5 σ H5 _ I5 q5) fun u' s6 ⟨w2, H6, I6, rw2, q6⟩ => thn (h3 pins s6 σ H6 w w2 v' u' _ I6 rw rw2 q6) fun e3 s7 ⟨z3, H7, I7, rz3, k3, ez3, q7⟩ => ?_))
      subst ez3
      cases rz3
      exact wpAny_truthy_bool ⟨H7, I7, q7⟩
end
end Sho
set_option Elab.async false
set_option linter.all false
set_option maxRecDepth 100000
set_option maxHeartbeats 8000000
set_option autoImplicit false
/-! Laws of live piles: what they share (what changes and what stays, what is told). -/
namespace Lv
open PySem L2 Sho NdefX Shg Sh1 Sh4
def Only (S : List Addr) (H H' : Hp) : Prop := ∀ b o, H b = some o → b ∉ S → H' b = some o
theorem Only.of {S : List Addr} {H H' : Hp} (s : Same H H') : Only S H H' := fun b o e _ => s b o e
theorem Only.trans {S : List Addr} {H H1 H2 : Hp} (a : Only S H H1) (b : Only S H1 H2) : Only S H H2 := fun c o e n => b c o (a c o e n) n
theorem Only.upd {S : List Addr} {H : Hp} {p : Addr} {o : HO} (h : p ∈ S) : Only S H (upd H p o) := fun b u e n => by rw [upd_ne fun z => n (by rw [z]; exact h)]; exact e
theorem OpV.keep {H H' : Hp} {v : V} {o : Option Op} (k : KeepF H H') (h : OpV H v o) : OpV H' v o := by
  obtain ⟨p, e, h⟩ := h
  exact ⟨p, e, k _ _ h trivial⟩
theorem StayV.keepF {H H' : Hp} {v : V} {x : Stay} (k : KeepF H H') (h : StayV H v x) : StayV H' v x := by
  obtain ⟨p, e, h⟩ := h
  exact ⟨p, e, k _ _ h trivial⟩
theorem pair_mem {α β : Type} {R : α → β → Prop} {as : List α} {bs : List β} {a : α} (h : PySem.Paired R as bs) (ha : a ∈ as) : ∃ b, b ∈ bs ∧ R a b := by
  induction h with
  | nil => cases ha
  | cons q t ih =>
    rcases List.mem_cons.mp ha with rfl | ha
    · exact ⟨_, List.mem_cons_self, q⟩
    · obtain ⟨b, hb, r⟩ := ih ha
      exact ⟨b, List.mem_cons_of_mem _ hb, r⟩
def TellsV (H : Hp) (p : Addr) (m : Mo) (gone : List Stay) (hist : List (Option Op)) : Prop := ∃ ls ld lh us gs hs, H p = some (.lst [.int m.tick, .int m.lifted, .ref ls, .ref ld, .ref lh]) ∧ H ls = some (.lst us) ∧ PySem.Paired (NmT H) us (namesOf m) ∧ H ld = some (.lst gs) ∧ PySem.Paired (StayV H) gs gone ∧ H lh = some (.lst hs) ∧ PySem.Paired (OpV H) hs hist
theorem alike_pair {α : Type} {H : Hp} {n : Nat} {R : V → α → Prop} (k : ∀ u v x, R u x → R v x → Alike H n u v) : ∀ {us vs : List V} {xs : List α}, PySem.Paired R us xs → PySem.Paired R vs xs → PySem.Paired (fun u v => Alike H n u v) us vs
  | _, _, _, .nil, .nil => .nil
  | _, _, _, .cons a r, .cons b t => .cons (k _ _ _ a b) (alike_pair k r t)
theorem leaf_pair {H : Hp} {n : Nat} : ∀ {us : List V}, (∀ u ∈ us, LeafV u) → PySem.Paired (fun u v => Alike H n u v) us us
  | [], _ => .nil
  | u :: us, h => .cons (by cases n with
    | zero => exact ⟨h u List.mem_cons_self, rfl⟩
    | succ n => exact .inl ⟨h u List.mem_cons_self, rfl⟩) (leaf_pair fun v hv => h v (List.mem_cons_of_mem _ hv))
theorem alike_tup {H : Hp} {n : Nat} {a b : Addr} {vs : List V} (h : ∀ v ∈ vs, LeafV v) (l : vs.length ≤ 1000) (e : H a = some (.tup vs)) (f : H b = some (.tup vs)) : Alike H (n + 1) (.ref a) (.ref b) := .inr ⟨a, b, vs, vs, rfl, rfl, .inr ⟨e, f⟩, l, leaf_pair h⟩
theorem leaf_strs (xs : List Str) : ∀ v ∈ xs.map V.str, LeafV v := fun v hv => by
  obtain ⟨z, _, rfl⟩ := List.mem_map.mp hv
  trivial
theorem leaf_op (o : Option Op) : (∀ v ∈ opVs o, LeafV v) ∧ (opVs o).length ≤ 1000 := by
  cases o with
  | none => exact ⟨fun v hv => (nomatch hv), by show 0 ≤ 1000; decide⟩
  | some o =>
    cases o with
    | come n k =>
      refine ⟨fun v hv => ?_, by show 3 ≤ 1000; decide⟩
      simp only [opVs, List.mem_cons, List.not_mem_nil, or_false] at hv
      rcases hv with rfl | rfl | rfl <;> trivial
    | go n =>
      refine ⟨fun v hv => ?_, by show 2 ≤ 1000; decide⟩
      simp only [opVs, List.mem_cons, List.not_mem_nil, or_false] at hv
      rcases hv with rfl | rfl <;> trivial
    | wait n =>
      refine ⟨fun v hv => ?_, by show 2 ≤ 1000; decide⟩
      simp only [opVs, List.mem_cons, List.not_mem_nil, or_false] at hv
      rcases hv with rfl | rfl <;> trivial
theorem alike_tells {H : Hp} {p q : Addr} {m : Mo} {gone : List Stay} {hist : List (Option Op)} (fit : Fit 1000 m) (g9 : gone.length ≤ 1000) (h9 : hist.length ≤ 1000) (a : TellsV H p m gone hist) (b : TellsV H q m gone hist) : Alike H 3 (.ref p) (.ref q) := by
  obtain ⟨ls, ld, lh, us, gs, hs, a1, a2, a3, a4, a5, a6, a7⟩ := a
  obtain ⟨ks, kd, kh, vs, is, js, b1, b2, b3, b4, b5, b6, b7⟩ := b
  have ln : (namesOf m).length ≤ 9 := by
    unfold namesOf
    rw [List.length_map]
    exact fit.few
  refine .inr ⟨p, q, _, _, rfl, rfl, .inl ⟨a1, b1⟩, by show 5 ≤ 1000; decide, .cons (.inl ⟨trivial, rfl⟩) (.cons (.inl ⟨trivial, rfl⟩) (.cons (.inr ⟨ls, ks, us, vs, rfl, rfl, .inl ⟨a2, b2⟩, by rw [pair_len a3]; omega, ?_⟩) (.cons (.inr ⟨ld, kd, gs, is, rfl, rfl, .inl ⟨a4, b4⟩, by rw [pair_len a5]; exact g9, ?_⟩) (.cons (.inr ⟨lh, kh, hs, js, rfl, rfl, .inl ⟨a6, b6⟩, by rw [pair_len a7]; exact h9, ?_⟩) .nil))))⟩
  · have small : ∀ xs ∈ namesOf m, xs.length ≤ 1000 := fun xs hx => by
      unfold namesOf at hx
      obtain ⟨p, hp, rfl⟩ := List.mem_map.mp hx
      rw [List.length_map]
      exact fit.low p hp
    have : ∀ {us vs : List V} {xs : List (List Str)}, PySem.Paired (NmT H) us xs → PySem.Paired (NmT H) vs xs → (∀ x ∈ xs, x.length ≤ 1000) → PySem.Paired (fun u v => Alike H 1 u v) us vs := fun {us vs xs} h => by
      induction h generalizing vs with
      | nil => intro k _; cases k; exact .nil
      | cons q t ih =>
        intro k hx
        cases k with
        | cons q2 t2 =>
          obtain ⟨a, rfl, ea⟩ := q
          obtain ⟨b, rfl, eb⟩ := q2
          exact .cons (alike_tup (leaf_strs _) (by rw [List.length_map]; exact hx _ List.mem_cons_self) ea eb) (ih t2 fun x hx' => hx x (List.mem_cons_of_mem _ hx'))
    exact this a3 b3 small
  · refine alike_pair (fun u v x h k => ?_) a5 b5
    obtain ⟨a, rfl, ea⟩ := h
    obtain ⟨b, rfl, eb⟩ := k
    refine alike_tup (fun v hv => ?_) (by show 3 ≤ 1000; decide) ea eb
    simp only [List.mem_cons, List.not_mem_nil, or_false] at hv
    rcases hv with rfl | rfl | rfl <;> trivial
  · refine alike_pair (fun u v x h k => ?_) a7 b7
    obtain ⟨a, rfl, ea⟩ := h
    obtain ⟨b, rfl, eb⟩ := k
    obtain ⟨l1, l2⟩ := leaf_op x
    exact alike_tup l1 l2 ea eb
abbrev clN (nn : List (Str × NameKind)) (sc : Scope) (n : Nat) : List (Str × Addr) := cloFrom (cellsFrom (n + 1) sc.names []) nn []
def Pln : HO → Prop
  | .lst _ => True
  | .dK _ => True
  | .ins _ _ fs => fs.length = 2
  | _ => False
theorem pln_nz {o : HO} (h : Pln o) : ¬ Fz o := fun z => by
  cases o <;> first | exact h | exact z | skip
  have h1 := (show _ = 2 from h)
  have h2 := (show _ = 5 from z)
  omega
theorem only_keepF {A : List Addr} {H H' : Hp} (h : Only A H H') (p : ∀ b ∈ A, ∃ o, H b = some o ∧ Pln o) : KeepF H H' := fun b o e z => h b o e fun m => by
  obtain ⟨u, e2, pu⟩ := p b m
  rw [e] at e2
  cases e2
  exact pln_nz pu z
theorem only_tabs {A : List Addr} {T : List (Addr × Str)} {H H' : Hp} (h : Only A H H') (p : ∀ b ∈ A, ∃ o, H b = some o ∧ Pln o) (t : LamX.Tabs T H) : LamX.Tabs T H' := fun q hq => by
  obtain ⟨qs, q1, q2, q3⟩ := t q hq
  have no : ∀ b o, H b = some o → ¬ Pln o → H' b = some o := fun b o e n => h b o e fun m => by
    obtain ⟨u, e2, pu⟩ := p b m
    rw [e] at e2
    cases e2
    exact n pu
  refine ⟨qs, no _ _ q1 (fun z => z), q2, fun p' cv hc => ?_⟩
  obtain ⟨c, e1, e2⟩ := q3 p' cv hc
  exact ⟨c, e1, no _ _ e2 fun z => z⟩
theorem only_at {A : List Addr} {H H' : Hp} (h : Only A H H') {b : Addr} (p : ∃ o, H b = some o ∧ Pln o) (n : b ∉ A) : H' b = H b := by
  obtain ⟨o, e, _⟩ := p
  rw [h b o e n, e]
theorem nextSt_at {H H' : Hp} {l S : Addr} (d : NextSt H l S) (e1 : H' l = H l) (e2 : H' S = H S) : NextSt H' l S := by
  obtain ⟨⟨mm, p, cells, h1, h2, h3⟩, n⟩ := d
  exact ⟨⟨mm, p, cells, e1.trans h1, e2.trans h2, h3⟩, n⟩
theorem effect_next {ms : List Mo} {k : Nat} {m' : Mo} (h : ms.length = k + 1) : effect (ms.take (k + 1) ++ [m']) (k + 1) = effect ms k ++ [m'] := by
  unfold effect
  have e : ms.take (k + 1) = ms := List.take_of_length_le (by omega)
  rw [e, List.take_of_length_le (by rw [List.length_append, h]; exact Nat.le_refl _), List.drop_append_of_le_length (by omega)]
theorem TellsV.same {H H' : Hp} {p : Addr} {m : Mo} {gone : List Stay} {hist : List (Option Op)} (h : TellsV H p m gone hist) (s : Same H H') : TellsV H' p m gone hist := by
  obtain ⟨ls, ld, lh, us, gs, hs, a1, a2, a3, a4, a5, a6, a7⟩ := h
  exact ⟨ls, ld, lh, us, gs, hs, s _ _ a1, s _ _ a2, pair_mono (fun v xs ⟨t, e, h⟩ => ⟨t, e, s _ _ h⟩) a3, s _ _ a4, pair_mono (fun _ _ z => StayV.keepF (.of s) z) a5, s _ _ a6, pair_mono (fun _ _ z => OpV.keep (.of s) z) a7⟩
theorem seq_rel {t u : TS} {D : Ends} {σ : L2.St} {H : Hp} (Pn : L2.St → Hp → Prop) (h1 : ∀ D' : Ends, (∀ σ' H', Pn σ' H' → D'.nx σ' H') → t D' σ H) (h2 : ∀ σ' H', Pn σ' H' → u D σ' H') : tSeq t u D σ H := h1 _ h2
theorem dp_const {K : PySem.W.Frag} {H : Hp} {vs : List V} {ds : List PyData} (hd : ∀ H, DpAll K H vs ds) : ∀ {ys : List V}, (∀ y ∈ ys, ∃ t, y = .ref t ∧ H t = some (.tup vs)) → DpAll K H ys (List.replicate ys.length (.tuple ds))
  | [], _ => .nil
  | y :: ys, h => by
    obtain ⟨t, rfl, ht⟩ := h y List.mem_cons_self
    exact .cons (.tup (SqT.of ht) (hd H)) (dp_const hd fun z hz => h z (List.mem_cons_of_mem _ hz))
theorem flat_rep (v : V) : ∀ n, (List.replicate n [v]).flatten = List.replicate n v
  | 0 => rfl
  | n + 1 => by rw [List.replicate_succ, List.flatten_cons, flat_rep v n, List.replicate_succ]; rfl
theorem eqvAll_self {d : PyData} (h : PyData.eqv d d = true) : ∀ n, PyData.eqvAll (List.replicate n d) (List.replicate n d) = true
  | 0 => rfl
  | n + 1 => by
    show (PyData.eqv d d && PyData.eqvAll (List.replicate n d) (List.replicate n d)) = true
    rw [h, eqvAll_self h n]
    rfl
theorem outs_eq {K : PySem.W.Frag} {D u l r : Addr} {n : Nat} {es ys : List V} {ds : List PyData} {H7 : Hp} {Q : VK} (hd : ∀ H, DpAll K H es ds) (he : PyData.eqv (.tuple ds) (.tuple ds) = true) (hsh : SeqAt.shaped (.list (List.replicate n (.tuple ds))) = true)
    (e7 : H7 D = some (.lst ys)) (len : ys.length = n) (mem : ∀ y ∈ ys, ∃ t, y = .ref t ∧ H7 t = some (.tup es)) (hu : H7 u = none) (hl : (upd H7 u (.tup es)) l = none) (hr : (upd (upd H7 u (.tup es)) l (.lst [.ref u])) r = none)
    (q : ∀ H8, Same H7 H8 → Q (.bl true) H8) : rEqD K (.ref D) (.ref r) (upd (upd (upd H7 u (.tup es)) l (.lst [.ref u])) r (.lst (List.replicate n [.ref u]).flatten)) Q := by
  have s8 : Same H7 (upd (upd (upd H7 u (.tup es)) l (.lst [.ref u])) r (.lst (List.replicate n [.ref u]).flatten)) := ((same_upd hu).trans (same_upd hl)).trans (same_upd hr)
  have u8 : (upd (upd (upd H7 u (.tup es)) l (.lst [.ref u])) r (.lst (List.replicate n [.ref u]).flatten)) u = some (.tup es) := ((same_upd hl).trans (same_upd hr)) _ _ upd_same
  have r8 : (upd (upd (upd H7 u (.tup es)) l (.lst [.ref u])) r (.lst (List.replicate n [.ref u]).flatten)) r = some (.lst (List.replicate n (V.ref u))) := by
    rw [upd_same]
    rw [flat_rep]
  generalize upd (upd (upd H7 u (.tup es)) l (.lst [.ref u])) r (.lst (List.replicate n [.ref u]).flatten) = H8 at *
  have q1 : DpAll K H8 ys (List.replicate n (.tuple ds)) := by
    have q := dp_const (K := K) (H := H8) (ds := ds) hd (ys := ys) fun y hy => by
      obtain ⟨t, e, ht⟩ := mem y hy
      exact ⟨t, e, s8 _ _ ht⟩
    rw [len] at q
    exact q
  have q2 : DpAll K H8 (List.replicate n (V.ref u)) (List.replicate n (.tuple ds)) := by
    have q := dp_const (K := K) (H := H8) (ds := ds) hd (ys := List.replicate n (V.ref u)) fun y hy => ⟨u, List.eq_of_mem_replicate hy, u8⟩
    rw [List.length_replicate] at q
    exact q
  refine ⟨.list (List.replicate n (.tuple ds)), .list (List.replicate n (.tuple ds)), .lst (SqL.of (s8 _ _ e7)) q1, .lst (SqL.of r8) q2, hsh, hsh, ?_⟩
  have ee : PyData.eqv (.list (List.replicate n (.tuple ds))) (.list (List.replicate n (.tuple ds))) = true := eqvAll_self he n
  rw [ee]
  exact q H8 s8
theorem pickS (zs : List Str) {r : Int} (h0 : 0 ≤ r) (h1 : r < zs.length) : ∃ z, z ∈ zs ∧ atI (zs.map V.str) r = some (.str z) := by
  obtain ⟨k, rfl⟩ : ∃ k : Nat, r = (k : Int) := ⟨r.toNat, by omega⟩
  have hk : k < zs.length := by omega
  exact ⟨zs[k], List.getElem_mem hk, atI_nat (by rw [List.getElem?_map, List.getElem?_eq_getElem hk]; rfl)⟩
theorem pickI (zs : List Int) {r : Int} (h0 : 0 ≤ r) (h1 : r < zs.length) : ∃ z, z ∈ zs ∧ atI (zs.map V.int) r = some (.int z) := by
  obtain ⟨k, rfl⟩ : ∃ k : Nat, r = (k : Int) := ⟨r.toNat, by omega⟩
  have hk : k < zs.length := by omega
  exact ⟨zs[k], List.getElem_mem hk, atI_nat (by rw [List.getElem?_map, List.getElem?_eq_getElem hk]; rfl)⟩
/-- .. all of whose lists are new since H0 -/
def TellsF (H0 H : Hp) (p : Addr) (m : Mo) (gone : List Stay) (hist : List (Option Op)) : Prop := ∃ ls ld lh us gs hs, (H0 p = none ∧ H0 ls = none ∧ H0 ld = none ∧ H0 lh = none) ∧ H p = some (.lst [.int m.tick, .int m.lifted, .ref ls, .ref ld, .ref lh]) ∧ H ls = some (.lst us) ∧ PySem.Paired (NmT H) us (namesOf m) ∧ H ld = some (.lst gs) ∧ PySem.Paired (StayV H) gs gone ∧ H lh = some (.lst hs) ∧ PySem.Paired (OpV H) hs hist
theorem TellsF.tells {H0 H : Hp} {p : Addr} {m : Mo} {gone : List Stay} {hist : List (Option Op)} (h : TellsF H0 H p m gone hist) : TellsV H p m gone hist := by
  obtain ⟨ls, ld, lh, us, gs, hs, _, h⟩ := h
  exact ⟨ls, ld, lh, us, gs, hs, h⟩
section
variable {P : Program} {w : World} {K : PySem.W.Frag} {mg : Str → Option Value} {base : Heap}
def spTold (K : PySem.W.Frag) (mg : Str → Option Value) (C CL fI fL : Addr) : Sp := fun vs H Q _ => ∃ (x L : Addr) (ms : List Mo) (k : Nat) (m : Mo), vs = [.ref x] ∧ MomC K mg C fI ∧ LivC K mg CL fL ∧ LiveAt C CL H x L ms k ∧ ms[k]? = some m ∧
  ∀ p H', Same H H' → TellsF H H' p m ((effect ms k).filterMap fun m => m.ended) ((effect ms k).map fun m => m.op) → Q (.ref p) H'
theorem scTold : FnScope ["_law_live"] ["_law_live"] (defScope sLawTold) := ⟨rfl, rfl, rfl, by decide +kernel, rfl, by decide +kernel, by decide +kernel⟩
theorem ok_told {f C CL fI fL qN qL qS qD qH fN fLp fS fD fH : Addr} {fd fdN fdLp fdS fdD fdH : FuncData} (F : Fun K "_law_told" "_law_told" sLawTold f fd) (LC : LivC K mg CL fL)
    (GN : FnOk P w K mg base CX0 2 fN fdN ["self"] (spMoF K mg C CL fI fL fun m => .int m.tick)) (pN : PropOf K CL "now" qN fN) (bN : Binds K fdN ["self"] []) (GL : FnOk P w K mg base CX0 2 fLp fdLp ["self"] (spMoF K mg C CL fI fL fun m => .int m.lifted)) (pL : PropOf K CL "lifted_pairs" qL fLp) (bL : Binds K fdLp ["self"] [])
    (GS : FnOk P w K mg base CX0 2 fS fdS ["self"] (spStand K mg C CL fI fL)) (pS : PropOf K CL "standing" qS fS) (bS : Binds K fdS ["self"] []) (GD : FnOk P w K mg base CX0 2 fD fdD ["self"] (spDep K mg C CL fI fL)) (pD : PropOf K CL "departed" qD fD) (bD : Binds K fdD ["self"] []) (GH : FnOk P w K mg base CX0 2 fH fdH ["self"] (spHis K mg C CL fI fL)) (pH : PropOf K CL "history" qH fH) (bH : Binds K fdH ["self"] []) :
    FnOk P w K mg base CX0 4 f fd ["_law_live"] (spTold K mg C CL fI fL) := by
  refine F.ok scTold (fun vs H Q E h => ?_) (fun cdv A outer s H vs Q E hr h => ?_)
  · obtain ⟨x, L, ms, k, m, rfl, _⟩ := h
    rfl
  · obtain ⟨x, L, ms, k, m, rfl, MC, LC', LA, hm, kk⟩ := h
    obtain ⟨dx, ws, h1, h2, h3⟩ := LA.ex
    refine ⟨_, (pss_one (ps_ret (pe_lst (pa_cons (pe_prop (pv 0) LC.cl pN GN (hr.mono (by decide)) bN .nil pass0 rfl) (pa_cons (pe_prop (pv 0) LC.cl pL GL (hr.mono (by decide)) bL .nil pass0 rfl) (pa_cons (pe_prop (pv 0) LC.cl pS GS (hr.mono (by decide)) bS .nil pass0 rfl) (pa_cons (pe_prop (pv 0) LC.cl pD GD (hr.mono (by decide)) bD .nil pass0 rfl) (pa_cons (pe_prop (pv 0) LC.cl pH GH (hr.mono (by decide)) bH .nil pass0 rfl) pa_nil)))))))), ?_⟩
    refine ⟨_, rfl, x, dx, _, rfl, h1, x, L, ms, k, m, rfl, MC, LC, LA, hm, _, rfl, x, dx, _, rfl, h1, x, L, ms, k, m, rfl, MC, LC, LA, hm, _, rfl, x, dx, _, rfl, h1, x, L, ms, k, m, rfl, MC, LC, LA, hm, fun ls H1 us s1 hls e1 p1 => ?_⟩
    refine ⟨_, rfl, x, dx, _, rfl, s1 _ _ h1, x, L, ms, k, rfl, MC, LC, LA.same s1, fun ld H2 gs s2 hld e2 p2 => ?_⟩
    have s02 := s1.trans s2
    refine ⟨_, rfl, x, dx, _, rfl, s02 _ _ h1, x, L, ms, k, rfl, MC, LC, LA.same s02, fun lh H3 hs s3 hlh e3 p3 => ⟨by show 5 ≤ sizeLine; decide, fun p hp => ?_⟩⟩
    have s4 := same_upd (o := .lst [.int m.tick, .int m.lifted, .ref ls, .ref ld, .ref lh]) hp
    have s24 := s3.trans s4
    have s14 := s2.trans s24
    refine kk p _ (s1.trans s14) ⟨ls, ld, lh, us, gs, hs, ⟨((s1.trans s2).trans s3).free hp, hls, s1.free hld, s02.free hlh⟩, upd_same, s14 _ _ e1, pair_mono (fun v xs ⟨t, e, h⟩ => ⟨t, e, s14 _ _ h⟩) p1, s24 _ _ e2, pair_mono (fun _ _ z => StayV.keepF (.of s24) z) p2, s4 _ _ e3, pair_mono (fun _ _ z => OpV.keep (.of s4) z) p3⟩
end
end Lv
set_option Elab.async false
set_option linter.all false
set_option maxRecDepth 100000
set_option maxHeartbeats 4000000
set_option autoImplicit false
/-! Operations that are possible, told lists as data. -/
namespace Lv
open PySem L2 Sho NdefX Shg Sh1 Sh4
/-! ### data that is compared -/
structure Nice (n : Nat) (d : PyData) : Prop where
  lay : d.canLay0 = true
  deep : d.depth ≤ n
  same : PyData.eqv d d = true
theorem Nice.mono {n m : Nat} {d : PyData} (h : Nice n d) (l : n ≤ m) : Nice m d := ⟨h.lay, Nat.le_trans h.deep l, h.same⟩
theorem nice_int (i : Int) : Nice 0 (.int i) := ⟨rfl, Nat.le_refl _, by show (i == i) = true; exact beq_self_eq_true i⟩
theorem nice_str {z : Str} (h : z.cps.all (· < 0x110000) = true) : Nice 0 (.str z) := ⟨h, Nat.le_refl _, by show (z == z) = true; exact beq_self_eq_true z⟩
theorem nice_all {n : Nat} : ∀ {ds : List PyData}, (∀ d ∈ ds, Nice n d) → PyData.canLayAll0 ds = true ∧ PyData.depthAll ds ≤ n ∧ PyData.eqvAll ds ds = true
  | [], _ => ⟨rfl, Nat.zero_le _, rfl⟩
  | d :: ds, h => by
    obtain ⟨h1, h2, h3⟩ := nice_all (ds := ds) fun x hx => h x (List.mem_cons_of_mem _ hx)
    obtain ⟨k1, k2, k3⟩ := h d List.mem_cons_self
    refine ⟨?_, ?_, ?_⟩
    · show (PyData.canLay0 d && PyData.canLayAll0 ds) = true
      rw [k1, h1]
      rfl
    · show max (PyData.depth d) (PyData.depthAll ds) ≤ n
      exact Nat.max_le.mpr ⟨k2, h2⟩
    · show (PyData.eqv d d && PyData.eqvAll ds ds) = true
      rw [k3, h3]
      rfl
theorem nice_tup {n : Nat} {ds : List PyData} (h : ∀ d ∈ ds, Nice n d) : Nice (n + 1) (.tuple ds) := ⟨(nice_all h).1, Nat.succ_le_succ (nice_all h).2.1, (nice_all h).2.2⟩
theorem nice_lst {n : Nat} {ds : List PyData} (h : ∀ d ∈ ds, Nice n d) : Nice (n + 1) (.list ds) := ⟨(nice_all h).1, Nat.succ_le_succ (nice_all h).2.1, (nice_all h).2.2⟩
theorem Nice.shaped {d : PyData} (h : Nice 64 d) : SeqAt.shaped d = true := by
  unfold SeqAt.shaped
  rw [h.lay, decide_eq_true h.deep]
  rfl
theorem ne_nice {K : PySem.W.Frag} {H : Hp} {x y : V} {d : PyData} {Q : VK} (hx : Dp K H x d) (hy : Dp K H y d) (n : Nice 64 d) (q : Q (.bl false) H) : rNeD K x y H Q := ⟨d, d, hx, hy, n.shaped, n.shaped, by rw [n.same]; exact q⟩
theorem eq_nice {K : PySem.W.Frag} {H : Hp} {x y : V} {d : PyData} {Q : VK} (hx : Dp K H x d) (hy : Dp K H y d) (n : Nice 64 d) (q : Q (.bl true) H) : rEqD K x y H Q := ⟨d, d, hx, hy, n.shaped, n.shaped, by rw [n.same]; exact q⟩
theorem dp_pair {α : Type} {K : PySem.W.Frag} {H : Hp} {R : V → α → Prop} {f : α → PyData} (k : ∀ v x, R v x → Dp K H v (f x)) {ws : List V} {xs : List α} (h : PySem.Paired R ws xs) : DpAll K H ws (xs.map f) := by
  induction h with
  | nil => exact .nil
  | cons q t ih => exact .cons (k _ _ q) ih
theorem dp_strs {K : PySem.W.Frag} {H : Hp} : ∀ xs : List Str, DpAll K H (xs.map V.str) (xs.map PyData.str)
  | [] => .nil
  | x :: xs => .cons (.str _) (dp_strs xs)
def nmD (xs : List Str) : PyData := .tuple (xs.map .str)
def stD (x : Stay) : PyData := .tuple [.str x.1, .int x.2.1, .int x.2.2]
def opD : Option Op → PyData
  | none => .tuple []
  | some (.come n k) => .tuple [.str "come", .str n, .int k]
  | some (.go n) => .tuple [.str "go", .str n]
  | some (.wait t) => .tuple [.str "wait", .int t]
theorem dp_nm {K : PySem.W.Frag} {H : Hp} {v : V} {xs : List Str} (h : NmT H v xs) : Dp K H v (nmD xs) := by
  obtain ⟨t, rfl, e⟩ := h
  exact .tup (SqT.of e) (dp_strs xs)
theorem dp_st {K : PySem.W.Frag} {H : Hp} {v : V} {x : Stay} (h : StayV H v x) : Dp K H v (stD x) := by
  obtain ⟨t, rfl, e⟩ := h
  exact .tup (SqT.of e) (.cons (.str _) (.cons (.int _) (.cons (.int _) .nil)))
theorem dp_op {K : PySem.W.Frag} {H : Hp} {v : V} {o : Option Op} (h : OpV H v o) : Dp K H v (opD o) := by
  obtain ⟨t, rfl, e⟩ := h
  cases o with
  | none => exact .tup (SqT.of e) .nil
  | some o =>
    cases o with
    | come n k => exact .tup (SqT.of e) (.cons (.str _) (.cons (.str _) (.cons (.int _) .nil)))
    | go n => exact .tup (SqT.of e) (.cons (.str _) (.cons (.str _) .nil))
    | wait t => exact .tup (SqT.of e) (.cons (.str _) (.cons (.int _) .nil))
def toldD (m : Mo) (g : List Stay) (h : List (Option Op)) : PyData := .list [.int m.tick, .int m.lifted, .list ((namesOf m).map nmD), .list (g.map stD), .list (h.map opD)]
theorem dp_told {K : PySem.W.Frag} {H : Hp} {p : Addr} {m : Mo} {g : List Stay} {h : List (Option Op)} (t : TellsV H p m g h) : Dp K H (.ref p) (toldD m g h) := by
  obtain ⟨ls, ld, lh, us, gs, hs, a1, a2, a3, a4, a5, a6, a7⟩ := t
  exact .lst (SqL.of a1) (.cons (.int _) (.cons (.int _) (.cons (.lst (SqL.of a2) (dp_pair (fun _ _ q => dp_nm q) a3)) (.cons (.lst (SqL.of a4) (dp_pair (fun _ _ q => dp_st q) a5)) (.cons (.lst (SqL.of a6) (dp_pair (fun _ _ q => dp_op q) a7)) .nil)))))
/-! ### possible operations -/
def five : List Str := ["ann", "bob", "cid", "dee", "eva"]
theorem five_ok : ∀ z ∈ five, okName z = true ∧ z.cps.all (· < 0x110000) = true ∧ z.length ≤ 1000 := by decide +kernel
def OpIn : Op → Prop
  | .come n _ => n ∈ five
  | .go n => n ∈ five
  | .wait _ => True
theorem nice_op {o : Option Op} (h : ∀ x, o = some x → OpIn x) : Nice 1 (opD o) := by
  have w : ∀ z : Str, z ∈ (["come", "go", "wait"] : List Str) → z.cps.all (· < 0x110000) = true := by decide +kernel
  cases o with
  | none => exact nice_tup fun d hd => nomatch hd
  | some o =>
    have k := h o rfl
    cases o with
    | come n i =>
      refine nice_tup fun d hd => ?_
      simp only [List.mem_cons, List.not_mem_nil, or_false] at hd
      rcases hd with rfl | rfl | rfl
      · exact nice_str (w _ (by simp))
      · exact nice_str (five_ok n k).2.1
      · exact nice_int _
    | go n =>
      refine nice_tup fun d hd => ?_
      simp only [List.mem_cons, List.not_mem_nil, or_false] at hd
      rcases hd with rfl | rfl
      · exact nice_str (w _ (by simp))
      · exact nice_str (five_ok n k).2.1
    | wait t =>
      refine nice_tup fun d hd => ?_
      simp only [List.mem_cons, List.not_mem_nil, or_false] at hd
      rcases hd with rfl | rfl
      · exact nice_str (w _ (by simp))
      · exact nice_int _
theorem nice_told {m : Mo} {g : List Stay} {h : List (Option Op)} (hn : ∀ p ∈ m.lying, ∀ x ∈ p, x.1 ∈ five) (hg : ∀ x ∈ g, x.1 ∈ five) (hh : ∀ o ∈ h, ∀ x, o = some x → OpIn x) : Nice 64 (toldD m g h) := by
  refine Nice.mono (n := 3) (nice_lst fun d hd => ?_) (by decide)
  simp only [List.mem_cons, List.not_mem_nil, or_false] at hd
  rcases hd with rfl | rfl | rfl | rfl | rfl
  · exact (nice_int _).mono (by decide)
  · exact (nice_int _).mono (by decide)
  · refine nice_lst fun d hd => ?_
    obtain ⟨xs, hx, rfl⟩ := List.mem_map.mp hd
    unfold namesOf at hx
    obtain ⟨p, hp, rfl⟩ := List.mem_map.mp hx
    refine nice_tup fun d hd => ?_
    obtain ⟨z, hz, rfl⟩ := List.mem_map.mp hd
    obtain ⟨x, hx, rfl⟩ := List.mem_map.mp hz
    exact nice_str (five_ok _ (hn p hp x hx)).2.1
  · refine nice_lst fun d hd => ?_
    obtain ⟨x, hx, rfl⟩ := List.mem_map.mp hd
    refine nice_tup fun d hd => ?_
    simp only [List.mem_cons, List.not_mem_nil, or_false] at hd
    rcases hd with rfl | rfl | rfl
    · exact nice_str (five_ok _ (hg x hx)).2.1
    · exact nice_int _
    · exact nice_int _
  · refine nice_lst fun d hd => ?_
    obtain ⟨o, ho, rfl⟩ := List.mem_map.mp hd
    exact nice_op (hh o ho)
structure Iv (b : Nat) (m : Mo) : Prop where
  two : m.lying.length = 2
  nam : ∀ p ∈ m.lying, ∀ x ∈ p, x.1 ∈ five
  old : ∀ p ∈ m.lying, ∀ x ∈ p, x.2 ≤ m.tick
  new : (∃ t, m.op = some (.wait t)) → ∀ p ∈ m.lying, ∀ x ∈ p, x.2 < m.tick
  slow : 0 ≤ m.tick ∧ m.tick ≤ 9 * (b : Int)
  ops : ∀ o, m.op = some o → OpIn o
  fin : ∀ x, m.ended = some x → x.1 ∈ five
inductive Deed (m : Mo) : Op → Prop
  | come {n : Str} {k : Int} : n ∈ five → there m.lying n = false → 0 ≤ k → k < 2 → Deed m (.come n k)
  | go {n : Str} : there m.lying n = true → n ∈ five → (∃ t, m.op = some (.wait t)) → Deed m (.go n)
  | wait {t : Int} : 1 ≤ t → t ≤ 9 → Deed m (.wait t)
theorem mem_getD {α : Type} {l : List (List α)} {i : Nat} {x : α} (h : x ∈ l.getD i []) : ∃ p ∈ l, x ∈ p := by
  by_cases hi : i < l.length
  · rw [getD_of (List.getElem?_eq_getElem hi)] at h
    exact ⟨_, List.getElem_mem hi, h⟩
  · rw [List.getD_eq_getElem?_getD, List.getElem?_eq_none (by omega)] at h
    cases h
theorem mem_set_pile {l : List Pile} {i : Nat} {q p : Pile} (h : p ∈ l.set i q) : p = q ∨ p ∈ l := mem_set_or h
theorem Deed.ok {b : Nat} {m : Mo} {o : Op} (v : Iv b m) (d : Deed m o) (hb : b ≤ 1000) : ∃ m' r, stepM m o = .ok (m', r) ∧ Iv (b + 1) m' ∧ m'.op = some o := by
  have sl : 0 ≤ m.tick ∧ m.tick ≤ 9 * ((b + 1 : Nat) : Int) := ⟨v.slow.1, by have := v.slow.2; omega⟩
  cases d with
  | @come n k hn ht k0 k2 =>
    have c1 : (okName n && !there m.lying n) = true := by rw [(five_ok n hn).1, ht]; rfl
    have c2 : (decide (0 ≤ k) && decide (k < (m.lying.length : Nat))) = true := by
      rw [v.two, Bool.and_eq_true, decide_eq_true_eq, decide_eq_true_eq]
      exact ⟨k0, k2⟩
    have es : stepM m (.come n k) = .ok (⟨some (.come n k), m.tick, m.lying.set k.toNat (m.lying.getD k.toNat [] ++ [(n, m.tick)]), m.lifted, none⟩, .num ((m.lying.getD k.toNat [] ++ [(n, m.tick)]).length : Nat)) := by
      unfold stepM
      simp only [c1, c2]
    refine ⟨_, _, es, ⟨by show (m.lying.set _ _).length = 2; rw [List.length_set]; exact v.two, fun p hp x hx => ?_, fun p hp x hx => ?_, (fun ⟨t, e⟩ => by cases e), sl, (fun o e => by cases e; exact hn), (fun x e => by cases e)⟩, rfl⟩
    · rcases mem_set_pile hp with rfl | hp
      · rcases List.mem_append.mp hx with hx | hx
        · obtain ⟨p, hp, hx⟩ := mem_getD hx
          exact v.nam p hp x hx
        · rw [List.mem_singleton.mp hx]
          exact hn
      · exact v.nam p hp x hx
    · rcases mem_set_pile hp with rfl | hp
      · rcases List.mem_append.mp hx with hx | hx
        · obtain ⟨p, hp, hx⟩ := mem_getD hx
          exact v.old p hp x hx
        · rw [List.mem_singleton.mp hx]
          exact Int.le_refl _
      · exact v.old p hp x hx
  | @go n ht hn hw =>
    rw [← placeFrom_any (i := 0)] at ht
    obtain ⟨⟨i, j⟩, ep⟩ := Option.isSome_iff_exists.mp ht
    have ep' : placeOf m.lying n = some (i, j) := ep
    obtain ⟨p, x, hp, hx, hxn⟩ := placeOf_at ep'
    have e1 : m.lying.getD i [] = p := getD_of hp
    have e2 : p.getD j (n, 0) = x := getD_of hx
    have lt := v.new hw p (List.mem_of_getElem? hp) x (List.mem_of_getElem? hx)
    have c : decide (((m.lying.getD i []).getD j (n, 0)).2 = m.tick) = false := by
      rw [e1, e2]
      exact decide_eq_false (by omega)
    have sub : ∀ q ∈ m.lying.set i ((m.lying.getD i []).take j ++ (m.lying.getD i []).drop (j + 1)), ∀ y ∈ q, ∃ q' ∈ m.lying, y ∈ q' := fun q hq y hy => by
      rcases mem_set_pile hq with rfl | hq
      · rcases List.mem_append.mp hy with hy | hy
        · exact mem_getD (List.mem_of_mem_take hy)
        · exact mem_getD (List.mem_of_mem_drop hy)
      · exact ⟨q, hq, hy⟩
    have es : stepM m (.go n) = .ok (⟨some (.go n), m.tick, m.lying.set i ((m.lying.getD i []).take j ++ (m.lying.getD i []).drop (j + 1)), m.lifted + (((m.lying.getD i []).drop (j + 1)).length : Nat), some (n, ((m.lying.getD i []).getD j (n, 0)).2, m.tick)⟩, .gone (((m.lying.getD i []).drop (j + 1)).reverse.map fun x => x.1)) := by
      unfold stepM
      simp only [ep', c]
    refine ⟨_, _, es, ⟨by show (m.lying.set _ _).length = 2; rw [List.length_set]; exact v.two, fun q hq y hy => ?_, fun q hq y hy => ?_, (fun ⟨t, e⟩ => by cases e), sl, (fun o e => by cases e; exact hn), (fun y e => by cases e; exact hn)⟩, rfl⟩
    · obtain ⟨q', hq', hy'⟩ := sub q hq y hy
      exact v.nam q' hq' y hy'
    · obtain ⟨q', hq', hy'⟩ := sub q hq y hy
      exact v.old q' hq' y hy'
  | @wait t t1 t9 =>
    have c : (decide (1 ≤ t) && decide (t ≤ LAST - m.tick)) = true := by
      rw [Bool.and_eq_true, decide_eq_true_eq, decide_eq_true_eq]
      refine ⟨t1, ?_⟩
      have := v.slow.2
      show t ≤ 1000000000 - m.tick
      omega
    have es : stepM m (.wait t) = .ok (⟨some (.wait t), m.tick + t, m.lying, m.lifted, none⟩, .num (m.tick + t)) := by
      unfold stepM
      simp only [c]
    refine ⟨_, _, es, ⟨v.two, v.nam, fun p hp x hx => ?_, fun _ p hp x hx => ?_, ⟨?_, ?_⟩, (fun o e => by cases e; trivial), (fun x e => by cases e)⟩, rfl⟩
    · have := v.old p hp x hx
      show x.2 ≤ m.tick + t
      omega
    · have := v.old p hp x hx
      show x.2 < m.tick + t
      omega
    · have := v.slow.1
      show 0 ≤ m.tick + t
      omega
    · have := v.slow.2
      show m.tick + t ≤ 9 * ((b + 1 : Nat) : Int)
      omega
theorem Deed.size {m : Mo} {o : Op} (d : Deed m o) : OpOk o := by
  cases d with
  | come hn _ k0 k2 => exact ⟨(five_ok _ hn).2.2, log_of (by omega) (by omega)⟩
  | go _ hn _ => exact (five_ok _ hn).2.2
  | wait t1 t9 => exact log_of (by omega) (by omega)
/-- all moments: each behind the one before -/
structure Lw (ms : List Mo) : Prop where
  z : ms[0]? = some (mo0 2)
  iv : ∀ i m, ms[i]? = some m → Iv i m
  st : ∀ i m m', ms[i]? = some m → ms[i + 1]? = some m' → ∃ o r, m'.op = some o ∧ stepM m o = .ok (m', r) ∧ OpOk o
theorem iv0 : Iv 0 (mo0 2) := by
  refine ⟨rfl, fun p hp x hx => ?_, fun p hp x hx => ?_, (fun ⟨t, e⟩ => by cases e), ⟨Int.le_refl _, by show (0 : Int) ≤ 9 * ((0 : Nat) : Int); decide⟩, (fun o e => by cases e), (fun x e => by cases e)⟩
  · rw [(List.mem_replicate.mp hp).2] at hx
    cases hx
  · rw [(List.mem_replicate.mp hp).2] at hx
    cases hx
theorem lw0 : Lw [mo0 2] := by
  refine ⟨rfl, fun i m e => ?_, fun i m m' e e2 => ?_⟩
  · cases i with
    | zero => cases e; exact iv0
    | succ i => simp at e
  · simp at e2
theorem Lw.snoc {ms : List Mo} {k : Nat} {m m' : Mo} {o : Op} {r : Rs} (h : Lw ms) (l : ms.length = k + 1) (hm : ms[k]? = some m) (e : stepM m o = .ok (m', r)) (v : Iv (k + 1) m') (eo : m'.op = some o) (so : OpOk o) : Lw (ms ++ [m']) := by
  refine ⟨?_, fun i x ex => ?_, fun i x x' e1 e2 => ?_⟩
  · rw [List.getElem?_append_left (by omega)]
    exact h.z
  · by_cases hi : i < ms.length
    · rw [List.getElem?_append_left hi] at ex
      exact h.iv i x ex
    · rw [List.getElem?_append_right (by omega)] at ex
      obtain rfl : i = k + 1 := by
        have : i - ms.length < 1 := by
          have := (List.getElem?_eq_some_iff.mp ex).1
          simpa using this
        omega
      rw [l, Nat.sub_self] at ex
      cases ex
      exact v
  · by_cases hi : i + 1 < ms.length
    · rw [List.getElem?_append_left hi] at e2
      rw [List.getElem?_append_left (by omega)] at e1
      exact h.st i x x' e1 e2
    · have hik : i = k := by
        have : i + 1 < (ms ++ [m']).length := (List.getElem?_eq_some_iff.mp e2).1
        rw [List.length_append, List.length_singleton] at this
        omega
      subst hik
      rw [List.getElem?_append_left (by omega), hm] at e1
      cases e1
      rw [List.getElem?_append_right (by omega), l, Nat.sub_self] at e2
      cases e2
      exact ⟨o, r, eo, e, so⟩
/-- what a moment of it tells -/
theorem Lw.nice {ms : List Mo} (h : Lw ms) {k : Nat} {m : Mo} (hm : ms[k]? = some m) : Nice 64 (toldD m ((effect ms k).filterMap fun m => m.ended) ((effect ms k).map fun m => m.op)) := by
  have mem : ∀ x ∈ effect ms k, ∃ i : Nat, Iv i x := fun x hx => by
    unfold effect at hx
    obtain ⟨i, hi, e⟩ := List.mem_iff_getElem.mp (List.mem_of_mem_take (List.mem_of_mem_drop hx))
    exact ⟨i, h.iv i x (by rw [List.getElem?_eq_getElem hi, e])⟩
  refine nice_told (h.iv k m hm).nam (fun x hx => ?_) fun o ho x e => ?_
  · obtain ⟨y, hy, e⟩ := List.mem_filterMap.mp hx
    obtain ⟨i, v⟩ := mem y hy
    exact v.fin x e
  · obtain ⟨y, hy, e2⟩ := List.mem_map.mp ho
    obtain ⟨i, v⟩ := mem y hy
    exact v.ops x (e2.trans e)
theorem effect_app {ms zs : List Mo} {k : Nat} (h : k < ms.length) : effect (ms ++ zs) k = effect ms k := by
  unfold effect
  rw [List.take_append_of_le_length (by omega)]
theorem effect_take {ms : List Mo} {k j : Nat} (h : j ≤ k) : effect (ms.take (k + 1)) j = effect ms j := by
  unfold effect
  rw [List.take_take, Nat.min_eq_left (by omega)]
end Lv
set_option Elab.async false
set_option linter.all false
set_option maxRecDepth 100000
set_option maxHeartbeats 4000000
set_option autoImplicit false
/-! x(k = v, ..), x a local name that holds a class. -/
namespace Sho
open PySem L2 PyProof.Rows
def tMakeKV (i : Nat) (C : Addr) (m : Nat) (sp : Sp) (gV : List V → List V → List V) (E : XK) (tk : L2.TA) : TE := fun σ H Q => σ[i]? = some (some (.ref C)) ∧ tMakeK C 0 m sp gV E tNil tk σ H Q
section
variable {X : Cx} {CX : CXT} {k i : Nat} {f C : Addr} {fd : FuncData} {ps ks : List Str} {sp : Sp} {E : XK} {x : Str} {p pos : Pos} {kws : List Keyword} {tk : L2.TA} {g : List Value → List Value → List Value} {gV : List V → List V → List V}
theorem pe_makeKV (M : Mk X.K C f) (F : FnOk X.prog X.w X.K X.mg X.base CX k f fd ps sp) (hr : Room (k + 1) X.A) (hN : X.N[i]? = some x) (hv : Vis X.env.scope x) (hb : KBn X.K fd ps 1 ks g gV) (hx : Passes CX X E) (hkw : PK X kws tk)
    (hall : (backToKw pos (keywordEach kws X.env)).all (·.1.isSome) = true := by rfl) (hks : (backToKw pos (keywordEach kws X.env)).filterMap (·.1) = ks := by rfl) (hd : (x == ("__debug__" : Str)) = false := by decide) (hcd : (x == ("__classdict__" : Str)) = false := by decide)
    (hpl : ((backTo pos (starEach [] X.env)).any (·.1) || (backToKw pos (keywordEach kws X.env)).any (·.1.isNone)) = false := by rfl) :
    PE X (.Call (.Name x p) [] kws pos) (tMakeKV i C ks.length sp gV E tk) := by
  refine ⟨fun pins s σ H Q I h => ?_⟩
  obtain ⟨hs, h⟩ := h
  refine wpAny_Call_Name_kw (thn ((pe_var (pos := p) (i := i) hN hv hd hcd).run pins s σ H (fun v H1 => v = .ref C ∧ H1 = H) I ⟨.ref C, hs, rfl, rfl⟩) fun u s1 ⟨v, H1, I1, r1, ev, eH⟩ => ?_)
  subst ev
  rw [eH] at I1
  cases r1
  refine PySem.W.callWith_KW0 (h₀ := X.base) I.ok.mod.kin M.kp hall ?_ hpl
  refine thn (hkw.run pos pins s1 σ H _ I1 h) fun ws s2 ⟨zs, H2, I2, rz, l1, l2, q2⟩ => ⟨I2.kIn, ?_⟩
  rw [hks]
  exact run_makeK (us := []) (vs := []) M F hr hb hx I2 .nil rz rfl l2 q2
end
end Sho
set_option Elab.async false
set_option linter.all false
set_option maxRecDepth 100000
set_option maxHeartbeats 8000000
set_option autoImplicit false
/-! LivePile: undo, redo, replay; apply from outside. -/
namespace Lv
open PySem L2 Sho NdefX Shg Sh1 Sh4
section
variable {P : Program} {w : World} {K : PySem.W.Frag} {mg : Str → Option Value} {base : Heap}
/-- apply, asked from outside -/
theorem apply_at {C CL fI fL CN CB CE CU CO x L : Addr} {H : Hp} {Q : VK} {E : XK} {ms : List Mo} {k : Nat} {m : Mo} {ws : List V} {xs : List Arg} (LA : LiveAt C CL H x L ms k) (hm : ms[k]? = some m) (pw : PySem.Paired (ArgAt H) ws xs) (hk : k + xs.length + 1 ≤ 900) (hok : ∀ o, .op o ∈ xs → OpOk o)
    (kBad : ∀ i, badFrom 0 xs = some i → ∀ (H' : Hp) (d : Addr), Same H H' → H' d = some (.xd [(("index" : Str), .int (i : Nat))]) → E (.ref CO) (some d) H')
    (kOk : ∀ os : List Op, xs = os.map Arg.op → (∀ new rs, runM m os = .ok (new, rs) → ∀ (H' : Hp) (rl : Addr) (us : List V), But2 x L H H' → LiveAt C CL H' x L (nextMs ms k new) (k + new.length) → H rl = none → H' rl = some (.lst us) → PySem.Paired (RsV H') us rs → Q (.ref rl) H') ∧ ∀ e, runM m os = .error e → Fails CN CB CE CU H E e) :
    spApplyR K mg C CL fI fL CN CB CE CU CO ([.ref x] ++ ws) H Q E := by
  refine ⟨[.ref x], ws, rfl, rfl, by rw [pair_len pw]; exact Nat.le_trans (by omega : xs.length ≤ 900) (by decide), fun t ht => ?_⟩
  have s := same_upd (o := .tup ws) ht
  refine ⟨x, t, L, ws, xs, ms, k, m, rfl, LA.same s, hm, upd_same, pair_mono (fun _ _ z => z.keep (.of s)) pw, hk, hok, fun i e H' d s' ed => kBad i e H' d (s.trans s') ed, fun os e => ⟨fun new rs run H' rl us b l f er ps _ => ?_, fun er run => fails_same s ((kOk os e).2 er run)⟩⟩
  exact (kOk os e).1 new rs run H' rl us (fun c u e n1 n2 => b c u (s _ _ e) n1 n2) l (s.free f) er ps
theorem live_upd {C CL x L dx : Addr} {H : Hp} {ms : List Mo} {k j : Nat} (LA : LiveAt C CL H x L ms k) (hx : H x = some (.ins CL dx (liF L k))) (hj : j < ms.length) : LiveAt C CL (upd H x (.ins CL dx (liF L j))) x L ms j ∧ But2 x L H (upd H x (.ins CL dx (liF L j))) := by
  obtain ⟨dy, ws, h1, h2, h3⟩ := LA.ex
  have nLx : L ≠ x := fun z => by rw [z, h1] at h2; cases h2
  have kf := KeepF.upd (o' := .ins CL dx (liF L j)) hx nfz_ins
  exact ⟨⟨⟨dx, ws, upd_same, by rw [upd_ne nLx]; exact h2, pair_mono (fun _ _ z => z.keep kf) h3⟩, hj, LA.few, LA.fit⟩, fun c u e n1 _ => by rw [upd_ne n1]; exact e⟩
def spUndo (K : PySem.W.Frag) (mg : Str → Option Value) (C CL fL : Addr) : Sp := fun vs H Q _ => ∃ (x L : Addr) (ms : List Mo) (k : Nat), vs = [.ref x] ∧ LivC K mg CL fL ∧ LiveAt C CL H x L ms k ∧ (k = 0 → Q (.bl false) H) ∧ ∀ j, k = j + 1 → ∀ H', But2 x L H H' → LiveAt C CL H' x L ms j → Q (.bl true) H'
theorem scUndo : FnScope ["self"] ["self"] (defScope sLivePile_Undo) := ⟨rfl, rfl, rfl, by decide +kernel, rfl, by decide +kernel, by decide +kernel⟩
theorem ok_undo {f C CL fL : Addr} {fd : FuncData} (F : Fun K "undo" "LivePile.undo" sLivePile_Undo f fd) : FnOk P w K mg base CX0 1 f fd ["self"] (spUndo K mg C CL fL) := by
  refine F.ok scUndo (fun vs H Q E h => ?_) (fun cdv A outer s H vs Q E hr h => ?_)
  · obtain ⟨x, L, ms, k, rfl, _⟩ := h
    rfl
  · obtain ⟨x, L, ms, k, rfl, LC, LA, k0, k1⟩ := h
    obtain ⟨dx, ws, h1, h2, h3⟩ := LA.ex
    refine ⟨_, (pss_cons (ps_if (pt_cmpR op_eq (pe_fld (pv 0) rfl) pe_int (nomark _)) (pss_one (ps_ret pe_bl)) pss_nil)
      (pss_cons (ps_fldaug (pv 0) pe_int in_sub) (pss_one (ps_ret pe_bl)))), ?_⟩
    refine ⟨_, rfl, x, CL, dx, _, _, rfl, h1, LC.cl, LC.n2, lk_pre .., rfl, _, rfl, ?_⟩
    by_cases e : k = 0
    · subst e
      exact iteT (k0 rfl)
    · have e2 : decide (V.int (k : Nat) = V.int 0) = false := decide_eq_false fun z => by injection z with z; omega
      rw [e2]
      obtain ⟨j, rfl⟩ : ∃ j, k = j + 1 := ⟨k - 1, by omega⟩
      refine iteF (nx_of ⟨_, rfl, x, CL, dx, _, _, rfl, h1, LC.cl, LC.n2, lk_pre .., _, _, rfl, rfl, dx, _, h1, by show 2 < 1000; decide, ?_⟩)
      have lt := LA.lt
      obtain ⟨l2, b2⟩ := live_upd (j := j) LA h1 (by omega)
      have ep : putF "_present" (V.int (((j + 1 : Nat) : Int) - 1)) (liF L (j + 1)) = liF L j := by
        rw [show (((j + 1 : Nat) : Int) - 1) = ((j : Nat) : Int) by omega]
        rfl
      rw [ep]
      exact k1 j rfl _ b2 l2
def spRedo (K : PySem.W.Frag) (mg : Str → Option Value) (C CL fL : Addr) : Sp := fun vs H Q _ => ∃ (x L : Addr) (ms : List Mo) (k : Nat), vs = [.ref x] ∧ LivC K mg CL fL ∧ LiveAt C CL H x L ms k ∧ (k + 1 = ms.length → Q (.bl false) H) ∧ (k + 1 < ms.length → ∀ H', But2 x L H H' → LiveAt C CL H' x L ms (k + 1) → Q (.bl true) H')
theorem scRedo : FnScope ["self"] ["self"] (defScope sLivePile_Redo) := ⟨rfl, rfl, rfl, by decide +kernel, rfl, by decide +kernel, by decide +kernel⟩
theorem ok_redo {f C CL fL : Addr} {fd : FuncData} (F : Fun K "redo" "LivePile.redo" sLivePile_Redo f fd) (B : Shg.Blt mg) : FnOk P w K mg base CX0 1 f fd ["self"] (spRedo K mg C CL fL) := by
  refine F.ok scRedo (fun vs H Q E h => ?_) (fun cdv A outer s H vs Q E hr h => ?_)
  · obtain ⟨x, L, ms, k, rfl, _⟩ := h
    rfl
  · obtain ⟨x, L, ms, k, rfl, LC, LA, k0, k1⟩ := h
    obtain ⟨dx, ws, h1, h2, h3⟩ := LA.ex
    have lw := pair_len h3
    refine ⟨_, (pss_cons (ps_if (pt_cmpR op_eq (pe_fld (pv 0) rfl) (pe_op op_sub (pe_callB call_len_seq (by rfl) B.len PySem.boot_len (pa_cons (pe_fld (pv 0) rfl) pa_nil)) pe_int) (nomark _)) (pss_one (ps_ret pe_bl)) pss_nil)
      (pss_cons (ps_fldaug (pv 0) pe_int in_add) (pss_one (ps_ret pe_bl)))), ?_⟩
    refine ⟨_, rfl, x, CL, dx, _, _, rfl, h1, LC.cl, LC.n2, lk_pre .., _, rfl, x, CL, dx, _, .ref L, rfl, h1, LC.cl, LC.n1, lk_mom .., L, ws, rfl, .inl (SqL.of h2), _, _, rfl, rfl, rfl, _, rfl, ?_⟩
    have lt := LA.lt
    by_cases e : k + 1 = ms.length
    · have e2 : decide (V.int (k : Nat) = V.int ((ws.length : Nat) - 1)) = true := decide_eq_true (by congr 1; omega)
      rw [e2]
      exact iteT (k0 e)
    · have e2 : decide (V.int (k : Nat) = V.int ((ws.length : Nat) - 1)) = false := decide_eq_false fun z => by injection z with z; omega
      rw [e2]
      refine iteF (nx_of ⟨_, rfl, x, CL, dx, _, _, rfl, h1, LC.cl, LC.n2, lk_pre .., _, _, rfl, rfl, dx, _, h1, by show 2 < 1000; decide, ?_⟩)
      obtain ⟨l2, b2⟩ := live_upd (j := k + 1) LA h1 (by omega)
      have ep : putF "_present" (V.int (((k : Nat) : Int) + 1)) (liF L k) = liF L (k + 1) := by
        rw [show (((k : Nat) : Int) + 1) = ((k + 1 : Nat) : Int) by omega]
        rfl
      rw [ep]
      exact k1 (by omega) _ b2 l2
abbrev NRP : List Str := ["cls", "piles", "operations", "live"]
/-- the live pile that is made again: n piles, then operations -/
def spReplay (K : PySem.W.Frag) (mg : Str → Option Value) (C CL fL CB : Addr) : Sp := fun vs H Q E => ∃ (t : Addr) (n : Int) (ws : List V) (xs : List Arg), vs = [.ref CL, .int n, .ref t] ∧ LivC K mg CL fL ∧ H t = some (.tup ws) ∧ PySem.Paired (ArgAt H) ws xs ∧ n.natAbs.log2 < 1920 ∧
  (1 ≤ n ∧ n ≤ 9 → xs.length + 1 ≤ 900 ∧ (∀ o, .op o ∈ xs → OpOk o) ∧ ∃ os new rs, xs = os.map Arg.op ∧ runM (mo0 n.toNat) os = .ok (new, rs) ∧ ∀ x L H', Same H H' → H x = none → H L = none → LiveAt C CL H' x L (nextMs [mo0 n.toNat] 0 new) (0 + new.length) → Q (.ref x) H') ∧
  (¬ (1 ≤ n ∧ n ≤ 9) → ∀ H', Same H H' → E (.ref CB) none H')
theorem scReplay : FnScope NRP ["cls", "piles", "operations"] (defScope sLivePile_Replay) := ⟨rfl, rfl, rfl, by decide +kernel, rfl, by decide +kernel, by decide +kernel⟩
theorem inj_ops : ∀ {os qs : List Op}, os.map Arg.op = qs.map Arg.op → os = qs
  | [], [], _ => rfl
  | o :: os, q :: qs, h => by
    injection h with h1 h2
    injection h1 with h1
    rw [h1, inj_ops h2]
  | [], _ :: _, h => nomatch h
  | _ :: _, [], h => nomatch h
theorem badFrom_op (os : List Op) {i : Nat} (h : badFrom 0 (os.map Arg.op) = some i) : False := by
  rw [badFrom_ops] at h
  cases h
theorem replay_body {f C CL fI fL CN CB CE CU CO fA : Addr} {fdI : FuncData} {g : List Value → List Value → List Value} {cdv : Value} {A : Around} {outer : List Env} {s : Shared} {H : Hp} {vs : List V} {Q : VK} {E : XK} (LC : LivC K mg CL fL)
    (GI : FnOk P w K mg base (L2.CX P w) 4 fL fdI ["self", "piles"] (spLInit K mg C CL CB fL)) (bIk : KBn K fdI ["self", "piles"] 1 ["piles"] g (fun vs zs => vs ++ zs))
    (GP : FnR P w K mg base (L2.CX P w) 6 fA (spApplyR K mg C CL fI fL CN CB CE CU CO)) (hP : BMeth K CL "apply" fA)
    (hr : Room 6 (A.deeper (PyProof.Rows.envOfC "LivePile.replay" (defScope sLivePile_Replay) s.heap.objs.size f cdv))) (h : spReplay K mg C CL fL CB vs H Q E) :
    ∃ t, PSs (cxOf (L2.CX P w) P w K mg base NRP "LivePile.replay" (defScope sLivePile_Replay) f cdv A outer s H E) (defBody sLivePile_Replay) t ∧ t { nx := fun _ H' => Q .non H', rt := Q } (L2.start NRP vs) H := by
  obtain ⟨t, n, ws, xs, rfl, _, ht, pw, hl, good, bad⟩ := h
  have nd := scReplay.nd
  have pass : Passes (L2.CX P w) (cxOf (L2.CX P w) P w K mg base NRP "LivePile.replay" (defScope sLivePile_Replay) f cdv A outer s H E) E := passes_call (takes_of rfl rfl rfl rfl) fun _ _ _ _ z => z
  refine ⟨_, (pss_cons (ps_set (i := 3) nd rfl (Or.inl rfl) (pe_makeKV (i := 0) LC.mkr GI (hr.mono (by decide)) rfl (Or.inl rfl) bIk pass (pk_cons (pv 1) pk_nil)))
      (pss_cons (ps_expr (pe_methS (pv 3) LC.cl hP GP (hr.mono (by decide)) pass (pv 2)))
      (pss_one (ps_ret (pv 3))))), ?_⟩
  refine ⟨rfl, _, rfl, rfl, rfl, fun x dx hx hdx ne => ?_⟩
  refine ⟨x, dx, n, rfl, LC, upd_same, hl, fun hn H1 L LA hL0 keep => ⟨rfl, name_of ?_⟩, fun hn => bad hn _ fun b o e => by rw [upd_ne (ne_of_none e hx), upd_ne (ne_of_none e hdx)]; exact e⟩
  obtain ⟨lx, ok, os, new, rs, rfl, run, kk⟩ := good hn
  have s1 : Same H H1 := fun b o e => keep b o (by rw [upd_ne (ne_of_none e hx), upd_ne (ne_of_none e hdx)]; exact e) (ne_of_none e hx)
  have hL : H L = none := by
    cases e : H L with
    | none => rfl
    | some o => rw [upd_ne (ne_of_none e hx), upd_ne (ne_of_none e hdx), e] at hL0; cases hL0
  obtain ⟨dy, us, h1, h2, h3⟩ := id LA.ex
  refine ⟨_, rfl, x, dy, _, rfl, h1, no_liF _ (by decide +kernel) (by decide +kernel), fun q hq => ⟨_, rfl, t, ws, rfl, ?_⟩⟩
  have s2 := same_upd (o := .met fA x) hq
  have s12 := s1.trans s2
  refine ⟨SqT.of (s12 _ _ ht), upd_same, ?_⟩
  refine apply_at (LA.same s2) (m := mo0 n.toNat) rfl (pair_mono (fun _ _ z => z.keep (.of s12)) pw) (by omega) ok (fun i e => (badFrom_op os e).elim) fun os' e => ?_
  obtain rfl := inj_ops e
  refine ⟨fun new' rs' run' H' rl us' b l _ _ _ => ?_, fun er run' => by rw [run] at run'; cases run'⟩
  rw [run] at run'
  cases run'
  refine ⟨_, rfl, kk x L H' (fun b' o e => b b' o (s12 _ _ e) (ne_of_none e hx) (ne_of_none e hL)) hx hL l⟩
theorem ok_replay {f C CL fI fL CN CB CE CU CO fA : Addr} {fdI : FuncData} {g : List Value → List Value → List Value} (F : FunK1 K "replay" "LivePile.replay" sLivePile_Replay f) (LC : LivC K mg CL fL)
    (GI : FnOk P w K mg base (L2.CX P w) 4 fL fdI ["self", "piles"] (spLInit K mg C CL CB fL)) (bIk : KBn K fdI ["self", "piles"] 1 ["piles"] g (fun vs zs => vs ++ zs))
    (GP : FnR P w K mg base (L2.CX P w) 6 fA (spApplyR K mg C CL fI fL CN CB CE CU CO)) (hP : BMeth K CL "apply" fA) :
    FnR P w K mg base (L2.CX P w) 7 f (fun vs H Q E => ∃ ws rest, vs = ws ++ rest ∧ ws.length = (["cls", "piles"] : List Str).length ∧ rest.length ≤ sizeLine ∧ ∀ p, H p = Option.none → spReplay K mg C CL fL CB (ws ++ [V.ref p]) (upd H p (.tup rest)) Q E) := by
  obtain ⟨oc, od, doc, pm, an, cdv, ct, osl, lk, hcd⟩ := F.ex
  refine StX.fn_star (ps := ["cls", "piles"]) (pv := "operations") lk hcd scReplay StX.cxUp (StX.bind_star2 (B := fun us => bindArgs (PySem.W.fnOf "replay" "LivePile.replay" (defArgs sLivePile_Replay) (defBody sLivePile_Replay) (defScope sLivePile_Replay) .none .none doc pm an cdv ct) ⟨us, []⟩) (p1 := "cls") (p2 := "piles") (pv := "operations") (fun a b => rfl) fun a b r rs => rfl) fun A outer s H vs Q E hr h => ?_
  exact replay_body LC GI bIk GP hP hr h
end
end Lv
set_option Elab.async false
set_option linter.all false
set_option maxRecDepth 100000
set_option maxHeartbeats 8000000
set_option autoImplicit false
/-! The law's deeds at a live pile. -/
namespace Lv
open PySem L2 Sho NdefX Shg Sh1 Sh4
abbrev NDE : List Str := ["_law_h", "_law_live", "_law_there", "_law_free", "_law_name"]
theorem any_name : forall (p : Pile) (n : Str), (p.any fun x => decide (n = x.1)) = decide (n ∈ p.map fun x => x.1)
  | [], n => by simp
  | x :: p, n => by
    rw [List.any_cons, any_name p n, List.map_cons, Bool.eq_iff_iff]
    simp
theorem there_two (p0 p1 : Pile) (n : Str) : there [p0, p1] n = decide (n ∈ (p0.map fun x => x.1) ++ p1.map fun x => x.1) := by
  unfold there
  rw [List.any_cons, List.any_cons, List.any_nil, Bool.or_false, any_name, any_name, Bool.eq_iff_iff]
  simp
theorem flat_strs (xs : List Str) : (xs.map V.str).all flatV = true := by
  rw [List.all_eq_true]
  intro v hv
  obtain ⟨z, _, rfl⟩ := List.mem_map.mp hv
  rfl
theorem inV_strs (z : Str) (xs : List Str) : inV (.str z) (xs.map V.str) = decide (z ∈ xs) := by
  unfold inV
  induction xs with
  | nil => rfl
  | cons x xs ih =>
    rw [List.map_cons, List.any_cons, ih, Bool.eq_iff_iff]
    have e : eqV (.str x) (.str z) = decide (x = z) := rfl
    rw [e, Bool.or_eq_true, decide_eq_true_eq, decide_eq_true_eq, decide_eq_true_eq, List.mem_cons]
    exact ⟨fun h => h.imp Eq.symm id, fun h => h.imp Eq.symm id⟩
theorem nice_strs {xs : List Str} (h : ∀ z ∈ xs, z.cps.all (· < 0x110000) = true) : Nice 1 (.list (xs.map PyData.str)) := nice_lst fun d hd => by
  obtain ⟨z, hz, rfl⟩ := List.mem_map.mp hd
  exact nice_str (h z hz)
theorem ne_empty {K : PySem.W.Frag} {H : Hp} {a b : Addr} {xs : List Str} {Q : VK} (ha : H a = some (.lst (xs.map V.str))) (hb : H b = some (.lst [])) (ok : ∀ z ∈ xs, z.cps.all (· < 0x110000) = true) (q : Q (.bl (!xs.isEmpty)) H) : rNeD K (.ref a) (.ref b) H Q := by
  refine ⟨_, .list [], .lst (SqL.of ha) (dp_strs xs), .lst (SqL.of hb) .nil, ((nice_strs ok).mono (by decide)).shaped, by decide +kernel, ?_⟩
  have e : PyData.eqv (.list (xs.map PyData.str)) (.list []) = xs.isEmpty := by
    cases xs with
    | nil => rfl
    | cons x xs => rfl
  rw [e]
  exact q
theorem ifs_two {c : TT} {A B u : TS} {D : Ends} {σ : L2.St} {H : Hp} (Pt Pf : Hp → Prop) (hc : ∀ R : Bool → Hp → Prop, (∀ H', Pt H' → R true H') → (∀ H', Pf H' → R false H') → c σ H R) (hA : ∀ H', Pt H' → A { D with nx := u D } σ H') (hB : ∀ H', Pf H' → B { D with nx := u D } σ H') : tSeq (tIfS c A B) u D σ H :=
  hc _ (fun H' p => iteT (hA H' p)) fun H' p => iteF (hB H' p)
theorem atI_m1 {xs : List V} {x : V} (h : 1 ≤ xs.length) (e : xs[xs.length - 1]? = some x) : atI xs (-1) = some x := by
  have hne : xs ≠ [] := fun z => by rw [z] at h; exact absurd h (by decide)
  have e2 : xs.getLast hne = x := by
    rw [List.getElem?_eq_getElem (by omega)] at e
    rw [List.getLast_eq_getElem]
    exact Option.some.inj e
  have e3 := List.dropLast_concat_getLast hne
  rw [e2] at e3
  rw [← e3]
  exact atI_last _ _
section
variable {P : Program} {w : World} {K : PySem.W.Frag} {mg : Str → Option Value} {base : Heap}
def spDeed (K : PySem.W.Frag) (mg : Str → Option Value) (C CL fI fL : Addr) : Sp := fun vs H Q _ => ∃ (l S x L : Addr) (ms : List Mo) (k : Nat) (m : Mo), vs = [.ref l, .ref x] ∧ MomC K mg C fI ∧ LivC K mg CL fL ∧ NextSt H l S ∧ LiveAt C CL H x L ms k ∧ ms[k]? = some m ∧ Lw ms ∧ [l, S, x, L].Nodup ∧
  ∀ (p : Addr) (o : Op) H', But2 l S H H' → NextSt H' l S → Deed m o → H' p = some (.tup (opVs (some o))) → Q (.ref p) H'
theorem scDeed : FnScope NDE ["_law_h", "_law_live"] (defScope sLawDeed) := ⟨rfl, rfl, rfl, by decide +kernel, rfl, by decide +kernel, by decide +kernel⟩
theorem live_draw {C CL l S x L : Addr} {H H' : Hp} {ms : List Mo} {k : Nat} (LA : LiveAt C CL H x L ms k) (d : NextSt H l S) (b : But2 l S H H') (nd : [l, S, x, L].Nodup) : LiveAt C CL H' x L ms k ∧ KeepF H H' := by
  obtain ⟨⟨mm, p, cells, h1, h2, h3⟩, n⟩ := d
  simp only [List.nodup_cons, List.mem_cons, not_or, List.not_mem_nil, not_false_eq_true, and_true, List.nodup_nil] at nd
  obtain ⟨⟨a1, a2, a3⟩, ⟨b1, b2⟩, c1⟩ := nd
  have kf := KeepF.but b h1 (fun z => z) h2 (fun z => z)
  obtain ⟨dx, ws, e1, e2, e3⟩ := id LA.ex
  exact ⟨LA.keep kf (by rw [b _ _ e1 (Ne.symm a2) (Ne.symm b1), e1]) (by rw [b _ _ e2 (Ne.symm a3) (Ne.symm b2), e2]), kf⟩
theorem ok_deed {f C CL fI fL f2 qS fS qH fH : Addr} {fd fd2 fdS fdH : FuncData} (F : Fun K "_law_deed" "_law_deed" sLawDeed f fd) (B : Shg.Blt mg) (LC : LivC K mg CL fL)
    (G2 : FnOk P w K mg base CX0 1 f2 fd2 ["_law_h", "_law_limit"] spNext) (m2 : mg "_law_next" = some (.ref f2)) (k2 : PySem.W.keepIn K (.ref f2) = true) (b2 : Binds K fd2 ["_law_h", "_law_limit"] [])
    (GS : FnOk P w K mg base CX0 2 fS fdS ["self"] (spStand K mg C CL fI fL)) (pS : PropOf K CL "standing" qS fS) (bS : Binds K fdS ["self"] []) (GH : FnOk P w K mg base CX0 2 fH fdH ["self"] (spHis K mg C CL fI fL)) (pH : PropOf K CL "history" qH fH) (bH : Binds K fdH ["self"] []) :
    FnOk P w K mg base CX0 4 f fd ["_law_h", "_law_live"] (spDeed K mg C CL fI fL) := by
  refine F.ok scDeed (fun vs H Q E h => ?_) (fun cdv A outer s H vs Q E hr h => ?_)
  · obtain ⟨l, S, x, L, ms, k, m, rfl, _⟩ := h
    rfl
  · obtain ⟨l, S, x, L, ms, k, m, rfl, MC, LC', D, LA, hm, W, nn, kk⟩ := h
    have nd := scDeed.nd
    obtain ⟨dx, wsL, h1, h2, h3⟩ := id LA.ex
    have v := W.iv k m hm
    have few := LA.few
    have lt := LA.lt
    have fit := (LA.fit k m hm).mono (show k ≤ 900 by omega)
    obtain ⟨p0, p1, ely⟩ : ∃ p0 p1, m.lying = [p0, p1] := by
      have := v.two
      match m.lying, this with
      | [a, b], _ => exact ⟨a, b, rfl⟩
    have enm : namesOf m = [p0.map fun x => x.1, p1.map fun x => x.1] := by unfold namesOf; rw [ely]; rfl
    have lp0 : p0.length ≤ 900 := fit.low p0 (by rw [ely]; simp)
    have lp1 : p1.length ≤ 900 := fit.low p1 (by rw [ely]; simp)
    refine ⟨_, (pss_cons (ps_set (i := 2) nd rfl (Or.inr rfl) (pe_op op_cat (pe_lc (own := [("_law_name", 4)]) (g := gName 4) (tt := tYes) rfl nd (pi_tup (pe_ix ix_list (pe_prop (pv 1) LC.cl pS GS (hr.mono (by decide)) bS .nil pass0 rfl) pe_int (fun _ _ => rfl))) (blkOk_by (own := [("_law_name", 4)]) (N := NDE) (sc := defScope sLawDeed) (by decide +kernel))
        (fun _ _ _ _ _ => (pg_name (i := 4) nd rfl (Or.inl rfl))) (fun _ _ _ _ _ => pts_nil) (fun _ _ _ _ _ => (pv 4))) (pe_lc (own := [("_law_name", 4)]) (g := gName 4) (tt := tYes) rfl nd (pi_tup (pe_ix ix_list (pe_prop (pv 1) LC.cl pS GS (hr.mono (by decide)) bS .nil pass0 rfl) pe_int (fun _ _ => rfl))) (blkOk_by (own := [("_law_name", 4)]) (N := NDE) (sc := defScope sLawDeed) (by decide +kernel))
        (fun _ _ _ _ _ => (pg_name (i := 4) nd rfl (Or.inl rfl))) (fun _ _ _ _ _ => pts_nil) (fun _ _ _ _ _ => (pv 4)))))
      (pss_cons (ps_setLc (i := 3) (own := [("_law_name", 4)]) (g := gName 4) (tt := tTest (tOp (rIn K true) (tVar 4) (tVar 2))) (te := tVar 4) rfl nd rfl rfl (sw_true rfl rfl rfl (by decide +kernel)) (pi_tup (pe_tup (pa_cons pe_str (pa_cons pe_str (pa_cons pe_str (pa_cons pe_str (pa_cons pe_str pa_nil))))))) (blkOk_by (own := [("_law_name", 4)]) (N := NDE) (sc := defScope sLawDeed) (by decide +kernel))
        (fun _ _ _ _ _ => (pg_name (i := 4) nd rfl (Or.inl rfl))) (fun _ _ _ _ _ => pts_one (pt_cmpR op_notIn_seq (pv 4) (pv 2) rfl)) (fun _ _ _ _ _ => (pv 4)))
      (pss_cons (ps_if (PW.pt (pw_and (pt_cmpR (op_neD hr.units) (pv 3) (pe_lst pa_nil) (nomark _)) (pw_and1 (pt_cmpR op_eq (pe_call G2 (hr.mono (by decide)) rfl m2 k2 b2 .nil pass0 (pa_cons (pv 0) (pa_cons pe_int pa_nil))) pe_int (nomark _))))) (pss_one (ps_ret (pe_tup (pa_cons pe_str (pa_cons (pe_ix ix_list (pv 3) (pe_call G2 (hr.mono (by decide)) rfl m2 k2 b2 .nil pass0 (pa_cons (pv 0) (pa_cons (pe_callB call_len_seq (by rfl) B.len PySem.boot_len (pa_cons (pv 3) pa_nil)) pa_nil))) (fun _ _ => rfl)) (pa_cons (pe_call G2 (hr.mono (by decide)) rfl m2 k2 b2 .nil pass0 (pa_cons (pv 0) (pa_cons pe_int pa_nil))) pa_nil)))))) pss_nil)
      (pss_cons (ps_if (PW.pt (pw_and (pt_cmpR (op_neD hr.units) (pv 2) (pe_lst pa_nil) (nomark _)) (pw_and1 (pt_cmpR op_eq (pe_ix ix_tup (pe_ix ix_list (pe_prop (pv 1) LC.cl pH GH (hr.mono (by decide)) bH .nil pass0 rfl) (pe_un un_neg pe_int) (fun _ _ => rfl)) pe_int (fun _ _ => rfl)) pe_str (nomark _))))) (pss_one (ps_ret (pe_tup (pa_cons pe_str (pa_cons (pe_ix ix_list (pv 2) (pe_call G2 (hr.mono (by decide)) rfl m2 k2 b2 .nil pass0 (pa_cons (pv 0) (pa_cons (pe_callB call_len_seq (by rfl) B.len PySem.boot_len (pa_cons (pv 2) pa_nil)) pa_nil))) (fun _ _ => rfl)) pa_nil))))) pss_nil)
      (pss_one (ps_ret (pe_tup (pa_cons pe_str (pa_cons (pe_op op_add pe_int (pe_call G2 (hr.mono (by decide)) rfl m2 k2 b2 .nil pass0 (pa_cons (pv 0) (pa_cons pe_int pa_nil)))) pa_nil))))))))), ?_⟩
    generalize en0 : (p0.map fun x => x.1) = n0 at enm
    generalize en1 : (p1.map fun x => x.1) = n1 at enm
    have l0 : n0.length ≤ 900 := by rw [← en0, List.length_map]; exact lp0
    have l1 : n1.length ≤ 900 := by rw [← en1, List.length_map]; exact lp1
    have eth : ∀ n, there m.lying n = decide (n ∈ n0 ++ n1) := fun n => by rw [ely, there_two, en0, en1]
    have five_n : ∀ z ∈ n0 ++ n1, z ∈ five := fun z hz => by
      rcases List.mem_append.mp hz with hz | hz
      · rw [← en0] at hz
        obtain ⟨y, hy, rfl⟩ := List.mem_map.mp hz
        exact v.nam p0 (by rw [ely]; simp) y hy
      · rw [← en1] at hz
        obtain ⟨y, hy, rfl⟩ := List.mem_map.mp hz
        exact v.nam p1 (by rw [ely]; simp) y hy
    have two_of : ∀ {Hx : Hp} {us : List V}, PySem.Paired (NmT Hx) us (namesOf m) → ∃ t0 t1, us = [.ref t0, .ref t1] ∧ Hx t0 = some (.tup (n0.map V.str)) ∧ Hx t1 = some (.tup (n1.map V.str)) := fun {Hx us} h => by
      rw [enm] at h
      cases h with
      | cons a r =>
        cases r with
        | cons b r =>
          cases r
          obtain ⟨t0, rfl, e0⟩ := a
          obtain ⟨t1, rfl, e1⟩ := b
          exact ⟨t0, t1, rfl, e0, e1⟩
    have gl : ∀ xs : List Str, gather (fun i => (xs[i]?).map V.str) (xs.map V.str).length = xs.map V.str := fun xs => by rw [List.length_map, gather_map]
    have elt : ∀ {xs : List Str} {j : Nat} {u : V}, (xs.map V.str)[j]? = some u → ((xs[j]?).map V.str) = some u := fun {xs j u} h => by rw [List.getElem?_map] at h; exact h
    -- the names there
    refine ⟨_, rfl, x, dx, _, rfl, h1, x, L, ms, k, m, rfl, MC, LC, LA, hm, fun a H1 us s1 ha e1 pu => ?_⟩
    obtain ⟨t0, t1, rfl, et0, et1⟩ := two_of pu
    refine ⟨a, _, 0, .ref t0, rfl, rfl, SqL.of e1, atI_nat (j := 0) rfl, t0, rfl, ⟨_, SqT.of et0⟩, fun D0 hD0 => ?_⟩
    refine lc_map (walk_tup (xs := n0.map V.str)) (fun i => (n0[i]?).map V.str) hD0 (by rw [List.length_map]; exact Nat.le_trans l0 (by decide)) (fun H s => SqT.of (s _ _ et0)) (fun j u H3 H4 hj s3 vv R k1 => ?_) (fun j hj => ⟨_, elt (List.getElem?_eq_getElem hj)⟩) fun H2 s2 e2 => ?_
    · obtain ⟨rfl, ev⟩ := vv
      exact ⟨rfl, _, rfl, k1 _ _ (Same.refl _) (elt ev)⟩
    rw [gl] at e2
    have s02 := s1.trans s2
    refine ⟨_, rfl, x, dx, _, rfl, s02 _ _ h1, x, L, ms, k, m, rfl, MC, LC, LA.same s02, hm, fun a2 H3 us2 s3 ha2 e3 pu2 => ?_⟩
    obtain ⟨q0, q1, rfl, eq0, eq1⟩ := two_of pu2
    refine ⟨a2, _, 1, .ref q1, rfl, rfl, SqL.of e3, atI_nat (j := 1) rfl, q1, rfl, ⟨_, SqT.of eq1⟩, fun D1 hD1 => ?_⟩
    refine lc_map (walk_tup (xs := n1.map V.str)) (fun i => (n1[i]?).map V.str) hD1 (by rw [List.length_map]; exact Nat.le_trans l1 (by decide)) (fun H s => SqT.of (s _ _ eq1)) (fun j u H5 H4 hj s5 vv R k1 => ?_) (fun j hj => ⟨_, elt (List.getElem?_eq_getElem hj)⟩) fun H4 s4 e4 => ?_
    · obtain ⟨rfl, ev⟩ := vv
      exact ⟨rfl, _, rfl, k1 _ _ (Same.refl _) (elt ev)⟩
    rw [gl] at e4
    have s24 := s3.trans s4
    refine ⟨D0, D1, _, _, rfl, rfl, s24 _ _ e2, e4, by rw [List.length_map, List.length_map]; exact Nat.le_trans (by omega : n0.length + n1.length ≤ 1800) (by decide), fun Pt hPt => name_of ?_⟩
    have s5 := same_upd (o := .lst (n0.map V.str ++ n1.map V.str)) hPt
    have ePt : (upd H4 Pt (.lst (n0.map V.str ++ n1.map V.str))) Pt = some (.lst ((n0 ++ n1).map V.str)) := by rw [upd_same, List.map_append]
    have s05 := (s02.trans s24).trans s5
    have fPt : H Pt = none := (s02.trans s24).free hPt
    generalize upd H4 Pt (.lst (n0.map V.str ++ n1.map V.str)) = H5 at *
    -- the free ones
    refine ⟨by show 5 ≤ sizeLine; decide, fun T5 hT5 => ⟨T5, rfl, ⟨_, SqT.of upd_same⟩, fun D2 hD2 => ?_⟩⟩
    have s6 := same_upd (o := .tup (five.map V.str)) hT5
    have eT5 : (upd H5 T5 (.tup (five.map V.str))) T5 = some (.tup (five.map V.str)) := upd_same
    refine lc_gather (walk_tup (xs := five.map V.str)) (fun i => (five[i]?).bind fun z => if (!decide (z ∈ n0 ++ n1)) = true then some (.str z) else none) hD2 (by show 5 ≤ sizeLine; decide) (fun H s => SqT.of (s _ _ eT5)) (fun j u H7 H8 hj s7 vv R k1 => ?_) fun H7 s7 e7 => name_of ?_
    · obtain ⟨rfl, ev⟩ := vv
      rw [List.getElem?_map] at ev
      cases e : five[j]? with
      | none => rw [e] at ev; cases ev
      | some z =>
        rw [e] at ev
        cases ev
        refine ⟨rfl, _, rfl, _, rfl, Pt, _, rfl, .inl (SqL.of (s7 _ _ (s6 _ _ ePt))), rfl, flat_strs _, _, rfl, ?_⟩
        rw [if_pos rfl, inV_strs]
        have k3 := k1 _ (Same.refl _)
        rw [e] at k3
        have k4 : R (if (!decide (z ∈ n0 ++ n1)) = true then some (V.str z) else none) _ := k3
        refine ite2 (fun q => ?_) (fun q => ?_)
        · rw [if_pos q] at k4
          exact ⟨_, rfl, k4⟩
        · rw [if_neg q] at k4
          exact k4
    have e6 : gather (fun i => (five[i]?).bind fun z => if (!decide (z ∈ n0 ++ n1)) = true then some (V.str z) else none) (five.map V.str).length = (five.filter fun z => !decide (z ∈ n0 ++ n1)).map V.str := by
      rw [List.length_map]
      exact gather_filter five (fun z => !decide (z ∈ n0 ++ n1)) V.str
    rw [e6] at e7
    have s57 := s6.trans s7
    have s07 := s05.trans s57
    have ePt7 := s57 _ _ ePt
    have D7 := D.same s07
    have LA7 := LA.same s07
    have fD2 : H D2 = none := (s05.trans s6).free hD2
    have free_ok : ∀ z ∈ five.filter (fun z => !decide (z ∈ n0 ++ n1)), z ∈ five ∧ there m.lying z = false := fun z hz => by
      rw [List.mem_filter] at hz
      refine ⟨hz.1, ?_⟩
      rw [eth]
      have := hz.2
      simpa using this
    have lfree : (five.filter fun z => !decide (z ∈ n0 ++ n1)).length ≤ 5 := List.length_filter_le _ _
    generalize (five.filter fun z => !decide (z ∈ n0 ++ n1)) = fr at e7 free_ok lfree
    -- the ways out
    obtain ⟨nPl, nPS⟩ := D.fresh fPt
    obtain ⟨nDl, nDS⟩ := D.fresh fD2
    have of_same : ∀ {Ha Hb Hc : Hp}, But2 l S Ha Hb → Same Hb Hc → But2 l S Ha Hc := fun b s c u e n1 n2 => s _ _ (b c u e n1 n2)
    have of_but : ∀ {Ha Hb Hc : Hp}, But2 l S Ha Hb → But2 l S Hb Hc → But2 l S Ha Hc := fun b s c u e n1 n2 => s _ _ (b c u e n1 n2) n1 n2
    have b07 : But2 l S H H7 := But2.of s07
    have out : ∀ {H9 : Hp} {p : Addr} {o : Op}, But2 l S H7 H9 → NextSt H9 l S → Deed m o → H9 p = some (.tup (opVs (some o))) → Q (.ref p) H9 := fun b d de e => kk _ _ _ (of_but b07 b) d de e
    refine ifs_two (fun H9 => (But2 l S H7 H9 ∧ NextSt H9 l S) ∧ fr ≠ []) (fun H9 => But2 l S H7 H9 ∧ NextSt H9 l S) (fun R ht hf => ?_) (fun H8 ⟨⟨b8, d8⟩, hfr⟩ => ?_) (fun H8 ⟨b8, d8⟩ => nx_of ?_)
    · refine ⟨_, rfl, Nat.zero_le _, fun b hb => ne_empty (xs := fr) ((same_upd hb) _ _ e7) upd_same (fun z hz => (five_ok z (free_ok z hz).1).2.1) ⟨_, rfl, ite2 (fun c => ?_) (fun c => ?_)⟩⟩
      · refine ⟨_, rfl, l, S, 2, rfl, D7.same (same_upd hb), by decide, by decide, fun r H9 r0 r1 b9 d9 => ⟨rfl, _, rfl, ?_⟩⟩
        have b79 : But2 l S H7 H9 := of_but (But2.of (same_upd hb)) b9
        by_cases e : (V.int r = V.int 0)
        · rw [decide_eq_true e]
          exact ht _ ⟨⟨b79, d9⟩, fun z => by rw [z] at c; cases c⟩
        · rw [decide_eq_false e]
          exact hf _ ⟨b79, d9⟩
      · exact hf _ ⟨But2.of (same_upd hb), D7.same (same_upd hb)⟩
    · have e8 := b8 _ _ e7 nDl nDS
      have hpos : 0 < fr.length := List.length_pos_iff.mpr hfr
      refine ⟨_, rfl, _, rfl, _, rfl, D2, _, rfl, .inl (SqL.of e8), l, S, _, rfl, d8, ?_, ?_, fun r H9 r0 r1 b9 d9 => ?_⟩
      · rw [List.length_map]
        omega
      · rw [List.length_map]
        omega
      · have e9 := b9 _ _ e8 nDl nDS
        rw [List.length_map] at r1
        obtain ⟨z, hz, hat⟩ := pickS fr r0 r1
        refine ⟨D2, _, r, .str z, rfl, rfl, SqL.of e9, hat, _, rfl, l, S, 2, rfl, d9, by decide, by decide, fun r2 HA q0 q1 bA dA => ⟨by show 3 ≤ sizeLine; decide, fun p hp => ?_⟩⟩
        exact out (of_same (of_but (of_but b8 b9) bA) (same_upd hp)) (dA.same (same_upd hp)) (.come (free_ok z hz).1 (free_ok z hz).2 q0 q1) upd_same
    have LA8 := live_draw LA7 D7 b8 nn
    have eP8 := b8 _ _ ePt7 nPl nPS
    refine ifs_two (fun H9 => (But2 l S H7 H9 ∧ NextSt H9 l S) ∧ n0 ++ n1 ≠ [] ∧ ∃ t, m.op = some (.wait t)) (fun H9 => But2 l S H7 H9 ∧ NextSt H9 l S) (fun R ht hf => ?_) (fun H9 ⟨⟨b9, d9⟩, hth, hw⟩ => ?_) (fun H9 ⟨b9, d9⟩ => nx_of ?_)
    · refine ⟨_, rfl, Nat.zero_le _, fun b hb => ne_empty (xs := n0 ++ n1) ((same_upd hb) _ _ eP8) upd_same (fun z hz => (five_ok z (five_n z hz)).2.1) ⟨_, rfl, ite2 (fun c => ?_) (fun c => ?_)⟩⟩
      · have sb := same_upd (o := .lst []) hb
        have LA9 := LA8.1.same sb
        obtain ⟨dx9, ws9, f1, f2, f3⟩ := id LA9.ex
        refine ⟨_, rfl, x, dx9, _, rfl, f1, x, L, ms, k, rfl, MC, LC, LA9, fun hl Hc us sc hhl ehl pu => ?_⟩
        have hk : 1 ≤ k := by
          by_cases e0 : k = 0
          · subst e0
            have : m = mo0 2 := by
              have := W.z
              rw [hm] at this
              exact Option.some.inj this
            rw [this] at ely
            have e : [p0, p1] = [[], []] := ely.symm
            injection e with a1 a2
            injection a2 with a2 _
            rw [← en0, ← en1, a1, a2] at c
            cases c
          · omega
        obtain ⟨mp, hmp⟩ : ∃ mp, ms[k - 1]? = some mp := ⟨_, List.getElem?_eq_getElem (by omega)⟩
        obtain ⟨o, r, eo, es, _⟩ := W.st (k - 1) mp m hmp (by rw [show k - 1 + 1 = k by omega]; exact hm)
        have elen : (effect ms k).length = k := by
          unfold effect
          rw [List.length_drop, List.length_take]
          omega
        have lus : us.length = k := by rw [pair_len pu, List.length_map, elen]
        have elast : ((effect ms k).map fun m => m.op)[k - 1]? = some (some o) := by
          rw [List.getElem?_map]
          unfold effect
          rw [List.getElem?_drop, List.getElem?_take_of_lt (by omega), show 1 + (k - 1) = k by omega, hm]
          show some m.op = _
          rw [eo]
        obtain ⟨y, hy, q, ey, hq⟩ := pair_get pu (List.getElem?_eq_getElem (by omega : k - 1 < us.length))
        rw [elast] at hy
        cases hy
        have hlast : us[k - 1]? = some (.ref q) := by rw [← ey]; exact List.getElem?_eq_getElem (by omega)
        refine ⟨_, rfl, hl, us, -1, .ref q, rfl, rfl, SqL.of ehl, atI_m1 (by omega) (by rw [lus]; exact hlast), ?_⟩
        have bc : But2 l S H7 Hc := of_same (of_same b8 sb) sc
        have dc : NextSt Hc l S := (d8.same sb).same sc
        cases o with
        | come nm i =>
          refine ⟨q, _, 0, .str "come", rfl, rfl, SqT.of hq, atI_nat (j := 0) rfl, rfl, _, rfl, ?_⟩
          rw [show decide (V.str "come" = V.str "wait") = false by decide +kernel]
          exact hf _ ⟨bc, dc⟩
        | go nm =>
          refine ⟨q, _, 0, .str "go", rfl, rfl, SqT.of hq, atI_nat (j := 0) rfl, rfl, _, rfl, ?_⟩
          rw [show decide (V.str "go" = V.str "wait") = false by decide +kernel]
          exact hf _ ⟨bc, dc⟩
        | wait t =>
          refine ⟨q, _, 0, .str "wait", rfl, rfl, SqT.of hq, atI_nat (j := 0) rfl, rfl, _, rfl, ?_⟩
          rw [show decide (V.str "wait" = V.str "wait") = true by decide +kernel]
          exact ht _ ⟨⟨bc, dc⟩, (fun z => by rw [z] at c; cases c), t, eo⟩
      · exact hf _ ⟨of_same b8 (same_upd hb), d8.same (same_upd hb)⟩
    · have e9 := b9 _ _ ePt7 nPl nPS
      have hpos : 0 < (n0 ++ n1).length := List.length_pos_iff.mpr hth
      have hle : (n0 ++ n1).length ≤ 1800 := by rw [List.length_append]; omega
      refine ⟨_, rfl, _, rfl, _, rfl, Pt, _, rfl, .inl (SqL.of e9), l, S, _, rfl, d9, ?_, ?_, fun r HA r0 r1 bA dA => ?_⟩
      · rw [List.length_map]
        omega
      · rw [List.length_map]
        omega
      · have eA := bA _ _ e9 nPl nPS
        rw [List.length_map] at r1
        obtain ⟨z, hz, hat⟩ := pickS (n0 ++ n1) r0 r1
        refine ⟨Pt, _, r, .str z, rfl, rfl, SqL.of eA, hat, by show 2 ≤ sizeLine; decide, fun p hp => ?_⟩
        exact out (of_same (of_but b9 bA) (same_upd hp)) (dA.same (same_upd hp)) (.go (by rw [eth]; exact decide_eq_true hz) (five_n z hz) hw) upd_same
    · refine ⟨_, rfl, l, S, 9, rfl, d9, by decide, by decide, fun r HA r0 r1 bA dA => ⟨_, _, rfl, rfl, by show 2 ≤ sizeLine; decide, fun p hp => ?_⟩⟩
      exact out (of_same (of_but b9 bA) (same_upd hp)) (dA.same (same_upd hp)) (.wait (by omega) (by omega)) upd_same
end
end Lv
set_option Elab.async false
set_option linter.all false
set_option maxRecDepth 100000
set_option maxHeartbeats 16000000
set_option autoImplicit false
/-! The law of operations reverted. -/
namespace Lv
open PySem L2 Sho NdefX Shg Sh1 Sh4
abbrev qLam44 : Str := "law.<locals>.<lambda>"
abbrev NL44 : List Str := ["_law_script", "_law_h", "_law_live", "_law_seen", "_law_time", "_law_many", "_law_back", "_law_k", "_law_left", "_law_odd", "_law_twin", "_law_deed_here", "_law_first"]
/-- a told list none of whose lists stands at A -/
def TellsO (A : List Addr) (H : Hp) (p : Addr) (m : Mo) (gone : List Stay) (hist : List (Option Op)) : Prop := ∃ ls ld lh us gs hs, (p ∉ A ∧ ls ∉ A ∧ ld ∉ A ∧ lh ∉ A) ∧ H p = some (.lst [.int m.tick, .int m.lifted, .ref ls, .ref ld, .ref lh]) ∧ H ls = some (.lst us) ∧ PySem.Paired (NmT H) us (namesOf m) ∧ H ld = some (.lst gs) ∧ PySem.Paired (StayV H) gs gone ∧ H lh = some (.lst hs) ∧ PySem.Paired (OpV H) hs hist
theorem TellsO.tells {A : List Addr} {H : Hp} {p : Addr} {m : Mo} {g : List Stay} {h : List (Option Op)} (t : TellsO A H p m g h) : TellsV H p m g h := by
  obtain ⟨ls, ld, lh, us, gs, hs, _, t⟩ := t
  exact ⟨ls, ld, lh, us, gs, hs, t⟩
theorem NmT.keep {H H' : Hp} {v : V} {xs : List Str} (k : KeepF H H') (h : NmT H v xs) : NmT H' v xs := by
  obtain ⟨t, e, h⟩ := h
  exact ⟨t, e, k _ _ h trivial⟩
theorem TellsO.only {A : List Addr} {H H' : Hp} {p : Addr} {m : Mo} {g : List Stay} {h : List (Option Op)} (t : TellsO A H p m g h) (o : ∀ b xs, H b = some (.lst xs) → b ∉ A → H' b = some (.lst xs)) (k : KeepF H H') : TellsO A H' p m g h := by
  obtain ⟨ls, ld, lh, us, gs, hs, ⟨n1, n2, n3, n4⟩, a1, a2, a3, a4, a5, a6, a7⟩ := t
  exact ⟨ls, ld, lh, us, gs, hs, ⟨n1, n2, n3, n4⟩, o _ _ a1 n1, o _ _ a2 n2, pair_mono (fun _ _ z => z.keep k) a3, o _ _ a4 n3, pair_mono (fun _ _ z => StayV.keepF k z) a5, o _ _ a6 n4, pair_mono (fun _ _ z => OpV.keep k z) a7⟩
theorem TellsF.o {A : List Addr} {H0 H : Hp} {p : Addr} {m : Mo} {g : List Stay} {h : List (Option Op)} (t : TellsF H0 H p m g h) (k : ∀ b ∈ A, ∃ o, H0 b = some o) : TellsO A H p m g h := by
  obtain ⟨ls, ld, lh, us, gs, hs, ⟨n1, n2, n3, n4⟩, t⟩ := t
  have f : ∀ b, H0 b = none → b ∉ A := fun b e h => by
    obtain ⟨o, e2⟩ := k b h
    rw [e] at e2
    cases e2
  exact ⟨ls, ld, lh, us, gs, hs, ⟨f _ n1, f _ n2, f _ n3, f _ n4⟩, t⟩
abbrev gon (ms : List Mo) (k : Nat) : List Stay := (effect ms k).filterMap fun m => m.ended
abbrev his (ms : List Mo) (k : Nat) : List (Option Op) := (effect ms k).map fun m => m.op
/-- the state of the law: what was seen (of ms0), the live pile -/
structure St44 (T : List (Addr × Str)) (C CL l S x L W : Addr) (ps : List Addr) (ms0 : List Mo) (H : Hp) (ms : List Mo) (k : Nat) (m : Mo) : Prop where
  d : NextSt H l S
  t : LamX.Tabs T H
  lv : LiveAt C CL H x L ms k
  hm : ms[k]? = some m
  w : H W = some (.lst (ps.map V.ref))
  sn : ∀ (j : Nat) (mj : Mo), ms0[j]? = some mj → ∃ p, ps[j]? = some p ∧ TellsO [l, S, x, L, W] H p mj (gon ms0 j) (his ms0 j)
  nd : [l, S, x, L, W].Nodup
  len : ps.length = ms0.length
section
variable {T : List (Addr × Str)} {C CL l S x L W : Addr} {ps : List Addr} {ms0 : List Mo} {H H' : Hp} {ms : List Mo} {k : Nat} {m : Mo}
theorem St44.pln (s : St44 T C CL l S x L W ps ms0 H ms k m) : ∀ b ∈ [l, S, x, L, W], ∃ o, H b = some o ∧ Pln o := fun b hb => by
  obtain ⟨⟨mm, p, cells, h1, h2, _⟩, _⟩ := s.d
  obtain ⟨dx, ws, h3, h4, _⟩ := s.lv.ex
  simp only [List.mem_cons, List.not_mem_nil, or_false] at hb
  rcases hb with rfl | rfl | rfl | rfl | rfl
  · exact ⟨_, h1, trivial⟩
  · exact ⟨_, h2, trivial⟩
  · exact ⟨_, h3, rfl⟩
  · exact ⟨_, h4, trivial⟩
  · exact ⟨_, s.w, trivial⟩
theorem St44.there_ (s : St44 T C CL l S x L W ps ms0 H ms k m) : ∀ b ∈ [l, S, x, L, W], ∃ o, H b = some o := fun b hb => by
  obtain ⟨o, e, _⟩ := s.pln b hb
  exact ⟨o, e⟩
theorem St44.same (s : St44 T C CL l S x L W ps ms0 H ms k m) (e : Same H H') : St44 T C CL l S x L W ps ms0 H' ms k m :=
  ⟨s.d.same e, LamX.Tabs.ext s.t e, s.lv.same e, s.hm, e _ _ s.w, fun j mj h => by
    obtain ⟨p, hp, t⟩ := s.sn j mj h
    exact ⟨p, hp, t.only (fun b xs q _ => e _ _ q) (.of e)⟩, s.nd, s.len⟩
/-- what stays where only some of the five change -/
theorem St44.seen {A : List Addr} (s : St44 T C CL l S x L W ps ms0 H ms k m) (o : Only A H H') (hA : ∀ b ∈ A, b ∈ [l, S, x, L, W]) : KeepF H H' ∧ LamX.Tabs T H' ∧ (∀ (j : Nat) (mj : Mo), ms0[j]? = some mj → ∃ p, ps[j]? = some p ∧ TellsO [l, S, x, L, W] H' p mj (gon ms0 j) (his ms0 j)) ∧ ∀ b ∈ [l, S, x, L, W], b ∉ A → H' b = H b := by
  have pl : ∀ b ∈ A, ∃ o, H b = some o ∧ Pln o := fun b hb => s.pln b (hA b hb)
  have kf := only_keepF o pl
  refine ⟨kf, only_tabs o pl s.t, fun j mj h => ?_, fun b hb nb => only_at o (s.pln b hb) nb⟩
  obtain ⟨p, hp, t⟩ := s.sn j mj h
  exact ⟨p, hp, t.only (fun b xs e nb => o b _ e fun h => nb (hA b h)) kf⟩
theorem St44.draw (s : St44 T C CL l S x L W ps ms0 H ms k m) (b : But2 l S H H') (d : NextSt H' l S) : St44 T C CL l S x L W ps ms0 H' ms k m := by
  have o : Only [l, S] H H' := fun c u e n => b c u e (fun z => n (by simp [z])) fun z => n (by simp [z])
  obtain ⟨kf, t, sn, at_⟩ := s.seen o (fun b hb => by simp only [List.mem_cons, List.not_mem_nil, or_false] at hb; rcases hb with rfl | rfl <;> simp)
  have nd := s.nd
  simp only [List.nodup_cons, List.mem_cons, not_or, List.not_mem_nil, not_false_eq_true, and_true, List.nodup_nil] at nd
  obtain ⟨⟨a1, a2, a3, a4⟩, ⟨b1, b2, b3⟩, ⟨c1, c2⟩, e1⟩ := nd
  have nin : ∀ b, b ≠ l → b ≠ S → b ∉ [l, S] := fun b h1 h2 h => by
    simp only [List.mem_cons, List.not_mem_nil, or_false] at h
    exact h.elim h1 h2
  exact ⟨d, t, s.lv.keep kf (at_ x (by simp) (nin x (Ne.symm a2) (Ne.symm b1))) (at_ L (by simp) (nin L (Ne.symm a3) (Ne.symm b2))), s.hm, (at_ W (by simp) (nin W (Ne.symm a4) (Ne.symm b3))).trans s.w, sn, s.nd, s.len⟩
theorem St44.grow (s : St44 T C CL l S x L W ps ms0 H ms k m) (g : Grows T H H') : St44 T C CL l S x L W ps ms0 H' ms k m := by
  have kf : KeepF H H' := fun b o e z => g.ext b o e fun ps q => by rw [q] at z; exact z
  have at_ : ∀ b, (∃ o, H b = some o ∧ Pln o) → H' b = H b := fun b ⟨o, e, p⟩ => by rw [e, g.ext b o e fun ps q => by rw [q] at p; exact p]
  refine ⟨nextSt_at s.d (at_ _ (s.pln l (by simp))) (at_ _ (s.pln S (by simp))), g.tab s.t, s.lv.keep kf (at_ _ (s.pln x (by simp))) (at_ _ (s.pln L (by simp))), s.hm, (at_ W (s.pln W (by simp))).trans s.w, fun j mj h => ?_, s.nd, s.len⟩
  obtain ⟨p, hp, t⟩ := s.sn j mj h
  exact ⟨p, hp, t.only (fun b xs e _ => g.ext b _ e fun ps q => by cases q) kf⟩
/-- the live pile moves -/
theorem St44.act {ms2 : List Mo} {k2 : Nat} {m2 : Mo} (s : St44 T C CL l S x L W ps ms0 H ms k m) (b : But2 x L H H') (LA : LiveAt C CL H' x L ms2 k2) (hm : ms2[k2]? = some m2) : St44 T C CL l S x L W ps ms0 H' ms2 k2 m2 := by
  have o : Only [x, L] H H' := fun c u e n => b c u e (fun z => n (by simp [z])) fun z => n (by simp [z])
  obtain ⟨kf, t, sn, at_⟩ := s.seen o (fun b hb => by simp only [List.mem_cons, List.not_mem_nil, or_false] at hb; rcases hb with rfl | rfl <;> simp)
  have nd := s.nd
  simp only [List.nodup_cons, List.mem_cons, not_or, List.not_mem_nil, not_false_eq_true, and_true, List.nodup_nil] at nd
  obtain ⟨⟨a1, a2, a3, a4⟩, ⟨b1, b2, b3⟩, ⟨c1, c2⟩, e1⟩ := nd
  have nin : ∀ b, b ≠ x → b ≠ L → b ∉ [x, L] := fun b h1 h2 h => by
    simp only [List.mem_cons, List.not_mem_nil, or_false] at h
    exact h.elim h1 h2
  exact ⟨nextSt_at s.d (at_ l (by simp) (nin l a2 a3)) (at_ S (by simp) (nin S b1 b2)), t, LA, hm, (at_ W (by simp) (nin W (Ne.symm c2) (Ne.symm e1))).trans s.w, sn, s.nd, s.len⟩
/-- one more is seen -/
theorem St44.saw {p : Addr} {m' : Mo} (s : St44 T C CL l S x L W ps ms0 H (ms0 ++ [m']) (k + 1) m') (lk : ms0.length = k + 1) (tl : TellsO [l, S, x, L, W] H p m' (gon (ms0 ++ [m']) (k + 1)) (his (ms0 ++ [m']) (k + 1))) :
    St44 T C CL l S x L W (ps ++ [p]) (ms0 ++ [m']) (upd H W (.lst (ps.map V.ref ++ [.ref p]))) (ms0 ++ [m']) (k + 1) m' := by
  have o : Only [W] H (upd H W (.lst (ps.map V.ref ++ [.ref p]))) := Only.upd (by simp)
  obtain ⟨kf, t, sn, at_⟩ := s.seen o (fun b hb => by rw [List.mem_singleton.mp hb]; simp)
  have nd := s.nd
  simp only [List.nodup_cons, List.mem_cons, not_or, List.not_mem_nil, not_false_eq_true, and_true, List.nodup_nil] at nd
  obtain ⟨⟨a1, a2, a3, a4⟩, ⟨b1, b2, b3⟩, ⟨c1, c2⟩, e1⟩ := nd
  have nin : ∀ b, b ≠ W → b ∉ [W] := fun b h1 h => h1 (List.mem_singleton.mp h)
  refine ⟨nextSt_at s.d (at_ l (by simp) (nin l a4)) (at_ S (by simp) (nin S b3)), t, s.lv.keep kf (at_ x (by simp) (nin x c2)) (at_ L (by simp) (nin L e1)), s.hm, by rw [upd_same, List.map_append]; rfl, fun j mj h => ?_, s.nd, by rw [List.length_append, List.length_append, s.len]; rfl⟩
  by_cases hj : j < ms0.length
  · rw [List.getElem?_append_left hj] at h
    obtain ⟨q, hq, tq⟩ := sn j mj h
    refine ⟨q, by rw [List.getElem?_append_left (by rw [s.len]; exact hj)]; exact hq, ?_⟩
    unfold gon his at tq ⊢
    rw [effect_app hj]
    exact tq
  · have ej : j = k + 1 := by
      have : j < (ms0 ++ [m']).length := (List.getElem?_eq_some_iff.mp h).1
      rw [List.length_append, List.length_singleton] at this
      omega
    subst ej
    rw [List.getElem?_append_right (by omega), lk, Nat.sub_self] at h
    cases h
    refine ⟨p, by rw [List.getElem?_append_right (by rw [s.len, lk]; exact Nat.le_refl _), s.len, lk, Nat.sub_self]; rfl, ?_⟩
    exact tl.only (fun b xs e nb => by rw [upd_ne fun z => nb (by rw [z]; simp)]; exact e) kf
end
theorem ifs_no {c : TT} {A B u : TS} {D : Ends} {σ : L2.St} {H : Hp} (Pf : Hp → Prop) (hc : ∀ R : Bool → Hp → Prop, (∀ H', Pf H' → R false H') → c σ H R) (hB : ∀ H', Pf H' → B { D with nx := u D } σ H') : tSeq (tIfS c A B) u D σ H :=
  hc _ fun H' p => iteF (hB H' p)
theorem if1_no {c : TT} {A B : TS} {D : Ends} {σ : L2.St} {H : Hp} (Pf : Hp → Prop) (hc : ∀ R : Bool → Hp → Prop, (∀ H', Pf H' → R false H') → c σ H R) (hB : ∀ H', Pf H' → B D σ H') : tIfS c A B D σ H :=
  hc _ fun H' p => iteF (hB H' p)
theorem or_two {A B : TT} {σ : L2.St} {H : Hp} {Q : Bool → Hp → Prop} (P1 P2 : Hp → Prop) (hA : ∀ R : Bool → Hp → Prop, (∀ H', P1 H' → R false H') → A σ H R) (hB : ∀ H1, P1 H1 → ∀ R : Bool → Hp → Prop, (∀ H', P2 H' → R false H') → B σ H1 R) (hQ : ∀ H', P2 H' → Q false H') : tOr A B σ H Q :=
  hA _ fun H1 p1 => iteF (hB H1 p1 _ hQ)
theorem take_one {ms : List Mo} {m : Mo} (h : ms[0]? = some m) : ms.take 1 = [m] := by
  cases ms with
  | nil => cases h
  | cons a r => cases h; rfl
theorem effect_len {ms : List Mo} {k : Nat} (h : k < ms.length) : (effect ms k).length = k := by
  unfold effect
  rw [List.length_drop, List.length_take]
  omega
theorem effect_at {ms : List Mo} {k t : Nat} (h : t < k) : (effect ms k)[t]? = ms[t + 1]? := by
  unfold effect
  rw [List.getElem?_drop, List.getElem?_take_of_lt (by omega), Nat.add_comm]
theorem or_rel {A B : TT} {σ : L2.St} {H : Hp} {Q : Bool → Hp → Prop} (Pn : Hp → Prop) (hA : ∀ R : Bool → Hp → Prop, (∀ H', Pn H' → R false H') → A σ H R) (hB : ∀ H1, Pn H1 → ∀ R : Bool → Hp → Prop, (∀ H', Pn H' → R false H') → B σ H1 R) (hQ : ∀ H', Pn H' → Q false H') : tOr A B σ H Q :=
  hA _ fun H1 p1 => iteF (hB H1 p1 _ hQ)
section
variable {P : Program} {w : World} {K : PySem.W.Frag} {mg : Str → Option Value} {base : Heap}
def spReplayR (K : PySem.W.Frag) (mg : Str → Option Value) (C CL fL CB : Addr) : Sp := fun vs H Q E => ∃ ws rest, vs = ws ++ rest ∧ ws.length = (["cls", "piles"] : List Str).length ∧ rest.length ≤ sizeLine ∧ ∀ p, H p = Option.none → spReplay K mg C CL fL CB (ws ++ [V.ref p]) (upd H p (.tup rest)) Q E
theorem zoe_gone {b : Nat} {m : Mo} (v : Iv b m) (hb : b ≤ 1000) : runM m [.wait 1, .go "zoe"] = .error (.guest "zoe") := by
  obtain ⟨m', r, es, v', eo⟩ := (Deed.wait (m := m) (t := 1) (by decide) (by decide)).ok v hb
  have nf : ("zoe" : Str) ∉ five := by decide +kernel
  have nz : placeOf m'.lying "zoe" = none := by
    have h : there m'.lying "zoe" = false := by
      unfold there
      rw [List.any_eq_false]
      intro p hp h2
      obtain ⟨x, hx, e⟩ := List.any_eq_true.mp h2
      have e2 : ("zoe" : Str) = x.1 := of_decide_eq_true e
      exact nf (by rw [e2]; exact v'.nam p hp x hx)
    rw [← placeFrom_any (i := 0)] at h
    cases e : placeOf m'.lying "zoe" with
    | none => rfl
    | some y =>
      have : (placeFrom "zoe" 0 m'.lying).isSome = true := by
        rw [show placeFrom "zoe" 0 m'.lying = some y from e]
        rfl
      rw [h] at this
      cases this
  have e2 : stepM m' (.go "zoe") = .error (.guest "zoe") := by
    unfold stepM
    simp only [nz]
  rw [runM_cons, es]
  simp only
  rw [runM_err e2]
theorem no_ops {o : Op} {vs : List V} {os : List Op} (e : [Arg.op o, Arg.bad vs] = os.map Arg.op) : False := by
  match os, e with
  | [_, _], e =>
    injection e with _ e
    injection e with e _
    cases e
/-- apply(("wait", 1), what is no operation) -/
def spLamA (C CL : Addr) (CO : Addr) : SpL := fun ws H _ E => ∃ (x u L : Addr) (ms : List Mo) (k : Nat) (m : Mo) (vs : List V), ws = [some (.ref x), some (.ref u)] ∧ LiveAt C CL H x L ms k ∧ ms[k]? = some m ∧ k + 3 ≤ 900 ∧ H u = some (.tup vs) ∧ BadVs vs ∧ ∀ H' d, Same H H' → H' d = some (.xd [(("index" : Str), .int 1)]) → E (.ref CO) (some d) H'
/-- apply(("wait", 1), ("go", "zoe")) -/
def spLamB (C CL : Addr) (CU : Addr) : SpL := fun ws H _ E => ∃ (x L : Addr) (ms : List Mo) (k : Nat) (m : Mo), ws = [some (.ref x)] ∧ LiveAt C CL H x L ms k ∧ ms[k]? = some m ∧ k + 3 ≤ 900 ∧ Iv k m ∧ ∀ H' d, Same H H' → H' d = some (.xd [(("name" : Str), .str "zoe")]) → E (.ref CU) (some d) H'
/-- replay(0, ("jump",)) -/
def spLamC (CB : Addr) : SpL := fun ws H _ E => ws = [] ∧ ∀ H', Same H H' → E (.ref CB) none H'
def spLaw44 (K : PySem.W.Frag) (T : List (Addr × Str)) : Sp := fun vs H Q _ => ∃ (a : Addr) (ns : List Int), vs = [.ref a] ∧ SqL K H a (ns.map V.int) ∧ ns.length ≤ 63 ∧ LamX.Tabs T H ∧ ∀ H', Q (.bl true) H'
theorem scLaw44 : FnScope NL44 ["_law_script"] (defScope sLaw) := ⟨rfl, rfl, rfl, by decide +kernel, rfl, by decide +kernel, by decide +kernel⟩
structure Defs44 (P : Program) (w : World) (K : PySem.W.Frag) (mg : Str → Option Value) (base : Heap) (C CL fI fL P0 : Addr) (E10 : Fin 10 → Addr) : Prop where
  B : Shg.Blt mg
  EE : Ten K mg P0 E10
  MC : MomC K mg C fI
  LC : LivC K mg CL fL
  mix : ∃ f fd, FnOk P w K mg base CX0 1 f fd ["_law_script", "_law_seed"] (spMix K) ∧ mg "_law_mix" = some (.ref f) ∧ PySem.W.keepIn K (.ref f) = true ∧ Binds K fd ["_law_script", "_law_seed"] []
  next : ∃ f fd, FnOk P w K mg base CX0 1 f fd ["_law_h", "_law_limit"] (spNext) ∧ mg "_law_next" = some (.ref f) ∧ PySem.W.keepIn K (.ref f) = true ∧ Binds K fd ["_law_h", "_law_limit"] []
  alike : ∃ f fd, (∀ n, FnOk P w K mg base CX0 (n + 1) f fd ["_law_found", nDue] (spAlike n)) ∧ mg "_law_alike" = some (.ref f) ∧ PySem.W.keepIn K (.ref f) = true ∧ Binds K fd ["_law_found", nDue] []
  outcome : ∃ f fd, Fun K "_law_outcome" "_law_outcome" sOut f fd ∧ mg "_law_outcome" = some (.ref f) ∧ PySem.W.keepIn K (.ref f) = true ∧ Binds K fd ["_law_call"] []
  told : ∃ f fd, FnOk P w K mg base CX0 4 f fd ["_law_live"] (spTold K mg C CL fI fL) ∧ mg "_law_told" = some (.ref f) ∧ PySem.W.keepIn K (.ref f) = true ∧ Binds K fd ["_law_live"] []
  deed : ∃ f fd, FnOk P w K mg base CX0 4 f fd ["_law_h", "_law_live"] (spDeed K mg C CL fI fL) ∧ mg "_law_deed" = some (.ref f) ∧ PySem.W.keepIn K (.ref f) = true ∧ Binds K fd ["_law_h", "_law_live"] []
  lapply : ∃ f, FnR P w K mg base (L2.CX P w) 6 f (spApplyR K mg C CL fI fL (E10 2) (E10 3) (E10 7) (E10 9) (E10 4)) ∧ Meth K CL "apply" f
  lundo : ∃ f fd, FnOk P w K mg base CX0 1 f fd ["self"] (spUndo K mg C CL fL) ∧ Meth K CL "undo" f ∧ Binds K fd ["self"] []
  lredo : ∃ f fd, FnOk P w K mg base CX0 1 f fd ["self"] (spRedo K mg C CL fL) ∧ Meth K CL "redo" f ∧ Binds K fd ["self"] []
  lwait : ∃ f fd, FnOk P w K mg base (L2.CX P w) 7 f fd ["self", "ticks"] (spOne K mg C CL fI fL (E10 2) (E10 3) (E10 7) (E10 9) (E10 4) argsWait) ∧ Meth K CL "wait" f ∧ Binds K fd ["self", "ticks"] []
  init : ∃ fd, FnOk P w K mg base (L2.CX P w) 4 fL fd ["self", "piles"] (spLInit K mg C CL (E10 3) fL) ∧ ∃ g, KBn K fd ["self", "piles"] 1 ["piles"] g (fun vs zs => vs ++ zs)
  hist : ∃ p f fd, FnOk P w K mg base CX0 2 f fd ["self"] (spHis K mg C CL fI fL) ∧ PropOf K CL "history" p f ∧ Binds K fd ["self"] []
  rep : ∃ p f, FnR P w K mg base (L2.CX P w) 7 f (spReplayR K mg C CL fL (E10 3)) ∧ ClX.CMet K CL (.type "type") "replay" p f
  cr : ClX.CRead K CL (.type "type")
theorem ok_law44 {f c TP P0 C CL fI fL : Addr} {E10 : Fin 10 → Addr} {fd : FuncData} {T : List (Addr × Str)} (F : FunL K "law" "law" sLaw f c fd) (DD : Defs44 P w K mg base C CL fI fL P0 E10) (TB : LamX.TabB base mg c TP) (hm : (TP, qLam44) ∈ T) (hu : ∀ p ∈ T, p.1 = TP → p.2 = qLam44) :
    FnOk P w K mg base (L2.CX P w) 11 f fd ["_law_script"] (spLaw44 K T) := by
  obtain ⟨B, EE, MC, LC, ⟨f1, fd1, G1, m1, k1, b1⟩, ⟨f2, fd2, G2, m2, k2, b2⟩, ⟨fA, fdA, GA, mA, kA_, bA⟩, ⟨fO, fdO, FO, mO, kO, bO⟩, ⟨fT, fdT, GT, mT, kT, bT⟩, ⟨fD, fdD, GD, mD, kD, bD⟩, ⟨fP, GP, hP⟩, ⟨fU, fdU, GU, hU, bU⟩, ⟨fY, fdY, GY, hY, bY⟩, ⟨fW, fdW, GW, hW, bW⟩, ⟨fdI, GI, ⟨gk, bIk⟩⟩, ⟨qH, fH, fdH, GH, pH, bH⟩, ⟨qR, fR, GR, CM⟩, CR⟩ := DD
  refine F.okX scLaw44 (fun vs H Q E h => ?_) (fun A outer s H vs Q E hr h => ?_)
  · obtain ⟨a, ns, rfl, _⟩ := h
    rfl
  · obtain ⟨a, ns, rfl, ha, hl, hT, kk⟩ := h
    have nd := scLaw44.nd
    have pass : Passes (L2.CX P w) (cxOf (L2.CX P w) P w K mg base NL44 "law" (defScope sLaw) f (.ref c) A outer s H E) E := passes_call (takes_of rfl rfl rfl rfl) fun _ _ _ _ z => z
    refine ⟨_, (pss_cons (ps_set (i := 1) nd rfl (Or.inl rfl) (pe_call G1 (hr.mono (by decide)) rfl m1 k1 b1 .nil pass0 (pa_cons (pv 0) (pa_cons pe_int pa_nil))))
      (pss_cons (ps_set (i := 2) nd rfl (Or.inr rfl) (pe_makeK0 LC.mkr GI (hr.mono (by decide)) rfl LC.gm bIk pass (pk_cons pe_int pk_nil)))
      (pss_cons (ps_set (i := 3) nd rfl (Or.inl rfl) (pe_lst (pa_cons (pe_call GT (hr.mono (by decide)) rfl mT kT bT .nil pass0 (pa_cons (pv 2) pa_nil)) pa_nil)))
      (pss_cons (ps_for (passes_of rfl) rfl (pi_range1 (by rfl) B.range (pa_cons (pe_op op_add pe_int (pe_call G2 (hr.mono (by decide)) rfl m2 k2 b2 .nil pass0 (pa_cons (pv 1) (pa_cons pe_int pa_nil)))) pa_nil)) (pg_name (i := 4) nd rfl (Or.inl rfl)) (pss_cons (ps_expr (pe_methR (pv 2) LC.cl hP GP (hr.mono (by decide)) pass (pa_cons (pe_call GD (hr.mono (by decide)) rfl mD kD bD .nil pass0 (pa_cons (pv 1) (pa_cons (pv 2) pa_nil))) pa_nil)))
      (pss_one (ps_expr (pe_bm PySem.F.plainAttrs_list PySem.F.slot_list_append PySem.F.type_list_append mt_append (pv 3) (pa_cons (pe_call GT (hr.mono (by decide)) rfl mT kT bT .nil pass0 (pa_cons (pv 2) pa_nil)) pa_nil))))))
      (pss_cons (ps_set (i := 5) nd rfl (Or.inl rfl) (pe_op op_sub (pe_callB call_len_seq (by rfl) B.len PySem.boot_len (pa_cons (pv 3) pa_nil)) pe_int))
      (pss_cons (ps_set (i := 6) nd rfl (Or.inl rfl) (pe_call G2 (hr.mono (by decide)) rfl m2 k2 b2 .nil pass0 (pa_cons (pv 1) (pa_cons (pe_op op_add (pv 5) pe_int) pa_nil))))
      (pss_cons (ps_for (passes_of rfl) rfl (pi_range1 (by rfl) B.range (pa_cons (pv 6) pa_nil)) (pg_name (i := 7) nd rfl (Or.inl rfl)) (pss_one (ps_if (pt_not (pt_val (pe_call (GA 0) (hr.mono (by decide)) rfl mA kA_ bA .nil pass0 (pa_cons (pe_meth0 (pv 2) LC.cl hU GU (hr.mono (by decide)) bU .nil pass0) (pa_cons (pe_cmpR op_lt (pv 7) (pv 5) (nomark _)) pa_nil))))) (pss_one (ps_ret pe_bl)) pss_nil)))
      (pss_cons (ps_set (i := 8) nd rfl (Or.inl rfl) (pe_callB (call_max2 rfl) (by rfl) B.max (by decide +kernel) (pa_cons pe_int (pa_cons (pe_op op_sub (pv 5) (pv 6)) pa_nil))))
      (pss_cons (ps_set (i := 9) nd rfl (Or.inr rfl) (pe_ix ix_list (pe_lst (pa_cons (pe_tup (pa_cons pe_str pa_nil)) (pa_cons (pe_tup (pa_cons pe_str pa_nil)) (pa_cons (pe_tup (pa_cons pe_str (pa_cons pe_int (pa_cons pe_int pa_nil)))) (pa_cons (pe_tup pa_nil) (pa_cons (pe_tup (pa_cons pe_str (pa_cons pe_str pa_nil))) (pa_cons (pe_tup (pa_cons pe_str pa_nil)) pa_nil))))))) (pe_call G2 (hr.mono (by decide)) rfl m2 k2 b2 .nil pass0 (pa_cons (pv 1) (pa_cons pe_int pa_nil))) (fun _ _ => rfl)))
      (pss_cons (ps_if (PW.pt (pw_or (pt_cmpR (op_neD hr.units) (pe_callAt (CX := L2.CX P w) (E := fun _ _ _ => False) (know := fun σ s2 H2 => CellsAt (clN [("_law_live", .free), ("_law_odd", .free)] (defScope sLaw) s.heap.objs.size) ["_law_live", "_law_odd"] [slotAt σ 2, slotAt σ 9] s2.heap H2)
            (sp := fun σ v H1 Q' => ∃ f sp, v = .ref f ∧ Sho.Act P w K mg base (L2.CX P w) 8 (clN [("_law_live", .free), ("_law_odd", .free)] (defScope sLaw) s.heap.objs.size) ["_law_live", "_law_odd"] sp f H1 ∧ ∀ (R : VK) (E' : XK), (∀ v H2, OutV Q' v H2 → R v H2) → (∀ cls d H2, Out10 E10 Q' cls d H2 → E' cls d H2) → sp [slotAt σ 2, slotAt σ 9] H1 R E')
            (by rfl) mO kO passL (fun pins σ H' s' I => cells_of (js := [2, 9]) (fr := ["_law_live", "_law_odd"]) I (Caps.made (scope := scL [("_law_live", .free), ("_law_odd", .free)]) I.ok (free_by (os := (defScope sLaw).names) (by decide +kernel)) (by decide +kernel) rfl))
            (pa_cons (pe_lam TB rfl hm hu (free_by (os := (defScope sLaw).names) (by decide +kernel))) pa_nil) (fun σ2 s2 H2 u v Q2 e0 kn rv h => by
              obtain ⟨f2', sp2, rfl, ac, q⟩ := h
              cases rv
              exact outcome_run FO bO B EE (hr.mono (by decide)) e0 kn ac q)) (pe_tup (pa_cons pe_str (pa_cons pe_int pa_nil))) (nomark _)) (pw_or1 (pt_cmpR (op_neD hr.units) (pe_call GT (hr.mono (by decide)) rfl mT kT bT .nil pass0 (pa_cons (pv 2) pa_nil)) (pe_ix ix_list (pv 3) (pv 8) (fun _ _ => rfl)) (nomark _))))) (pss_one (ps_ret pe_bl)) pss_nil)
      (pss_cons (ps_if (PW.pt (pw_or (pt_cmpR (op_neD hr.units) (pe_callAt (CX := L2.CX P w) (E := fun _ _ _ => False) (know := fun σ s2 H2 => CellsAt (clN [("_law_live", .free)] (defScope sLaw) s.heap.objs.size) ["_law_live"] [slotAt σ 2] s2.heap H2)
            (sp := fun σ v H1 Q' => ∃ f sp, v = .ref f ∧ Sho.Act P w K mg base (L2.CX P w) 8 (clN [("_law_live", .free)] (defScope sLaw) s.heap.objs.size) ["_law_live"] sp f H1 ∧ ∀ (R : VK) (E' : XK), (∀ v H2, OutV Q' v H2 → R v H2) → (∀ cls d H2, Out10 E10 Q' cls d H2 → E' cls d H2) → sp [slotAt σ 2] H1 R E')
            (by rfl) mO kO passL (fun pins σ H' s' I => cells_of (js := [2]) (fr := ["_law_live"]) I (Caps.made (scope := scL [("_law_live", .free)]) I.ok (free_by (os := (defScope sLaw).names) (by decide +kernel)) (by decide +kernel) rfl))
            (pa_cons (pe_lam TB rfl hm hu (free_by (os := (defScope sLaw).names) (by decide +kernel))) pa_nil) (fun σ2 s2 H2 u v Q2 e0 kn rv h => by
              obtain ⟨f2', sp2, rfl, ac, q⟩ := h
              cases rv
              exact outcome_run FO bO B EE (hr.mono (by decide)) e0 kn ac q)) (pe_tup (pa_cons pe_str (pa_cons pe_str pa_nil))) (nomark _)) (pw_or1 (pt_cmpR (op_neD hr.units) (pe_call GT (hr.mono (by decide)) rfl mT kT bT .nil pass0 (pa_cons (pv 2) pa_nil)) (pe_ix ix_list (pv 3) (pv 8) (fun _ _ => rfl)) (nomark _))))) (pss_one (ps_ret pe_bl)) pss_nil)
      (pss_cons (ps_if (pt_not (pt_val (pe_call (GA 0) (hr.mono (by decide)) rfl mA kA_ bA .nil pass0 (pa_cons (pe_meth0 (pv 2) LC.cl hY GY (hr.mono (by decide)) bY .nil pass0) (pa_cons (pe_cmpR op_lt (pv 8) (pv 5) (nomark _)) pa_nil))))) (pss_one (ps_ret pe_bl)) pss_nil)
      (pss_cons (ps_set (i := 8) nd rfl (Or.inl rfl) (pe_callB (call_min2 rfl) (by rfl) B.min (by decide +kernel) (pa_cons (pv 5) (pa_cons (pe_op op_add (pv 8) pe_int) pa_nil))))
      (pss_cons (ps_if (pt_not (pt_val (pe_call (GA 3) (hr.mono (by decide)) rfl mA kA_ bA .nil pass0 (pa_cons (pe_call GT (hr.mono (by decide)) rfl mT kT bT .nil pass0 (pa_cons (pv 2) pa_nil)) (pa_cons (pe_ix ix_list (pv 3) (pv 8) (fun _ _ => rfl)) pa_nil))))) (pss_one (ps_ret pe_bl)) pss_nil)
      (pss_cons (ps_set (i := 10) nd rfl (Or.inl rfl) (ClX.pe_cmeth (pe_glob (v := .ref CL) (by rfl) LC.gm rfl) CR CM GR (hr.mono (by decide)) pass (pa_cons pe_int pa_nil)))
      (pss_cons (ps_for (passes_of rfl) rfl (pi_list (pe_prop (pv 2) LC.cl pH GH (hr.mono (by decide)) bH .nil pass0 rfl)) (pg_name (i := 11) nd rfl (Or.inl rfl)) (pss_one (ps_expr (pe_methR (pv 10) LC.cl hP GP (hr.mono (by decide)) pass (pa_cons (pv 11) pa_nil)))))
      (pss_cons (ps_if (PW.pt (pw_or (pt_cmpR (op_neD hr.units) (pe_call GT (hr.mono (by decide)) rfl mT kT bT .nil pass0 (pa_cons (pv 10) pa_nil)) (pe_ix ix_list (pv 3) (pv 8) (fun _ _ => rfl)) (nomark _)) (pw_or1 (pt_cmpR (op_neD hr.units) (pe_methRz (pv 2) LC.cl hP GP (hr.mono (by decide)) pass) (pe_lst pa_nil) (nomark _))))) (pss_one (ps_ret pe_bl)) pss_nil)
      (pss_cons (ps_expr (pe_meth (pv 2) LC.cl hW GW (hr.mono (by decide)) bW .nil pass (pa_cons pe_int pa_nil)))
      (pss_cons (ps_if (PW.pt (pw_or (pt_val (pe_meth0 (pv 2) LC.cl hY GY (hr.mono (by decide)) bY .nil pass0)) (pw_or (pt_cmpR op_notBl (pe_meth0 (pv 2) LC.cl hU GU (hr.mono (by decide)) bU .nil pass0) pe_bl (nomark _)) (pw_or1 (pt_cmpR (op_neD hr.units) (pe_call GT (hr.mono (by decide)) rfl mT kT bT .nil pass0 (pa_cons (pv 2) pa_nil)) (pe_ix ix_list (pv 3) (pv 8) (fun _ _ => rfl)) (nomark _)))))) (pss_one (ps_ret pe_bl)) pss_nil)
      (pss_cons (ps_if (pt_cmpR (op_neD hr.units) (pe_callAt (CX := L2.CX P w) (E := fun _ _ _ => False) (know := fun σ s2 H2 => CellsAt (clN [] (defScope sLaw) s.heap.objs.size) [] [] s2.heap H2)
            (sp := fun σ v H1 Q' => ∃ f sp, v = .ref f ∧ Sho.Act P w K mg base (L2.CX P w) 8 (clN [] (defScope sLaw) s.heap.objs.size) [] sp f H1 ∧ ∀ (R : VK) (E' : XK), (∀ v H2, OutV Q' v H2 → R v H2) → (∀ cls d H2, Out10 E10 Q' cls d H2 → E' cls d H2) → sp [] H1 R E')
            (by rfl) mO kO passL (fun pins σ H' s' I => cells_of (js := []) (fr := []) I (Caps.made (scope := scL []) I.ok (free_by (os := (defScope sLaw).names) (by decide +kernel)) (by decide +kernel) rfl))
            (pa_cons (pe_lam TB rfl hm hu (free_by (os := (defScope sLaw).names) (by decide +kernel))) pa_nil) (fun σ2 s2 H2 u v Q2 e0 kn rv h => by
              obtain ⟨f2', sp2, rfl, ac, q⟩ := h
              cases rv
              exact outcome_run FO bO B EE (hr.mono (by decide)) e0 kn ac q)) (pe_tup (pa_cons pe_str pa_nil)) (nomark _)) (pss_one (ps_ret pe_bl)) pss_nil)
      (pss_cons (ps_set (i := 12) nd rfl (Or.inl rfl) (pe_ix ix_list (pe_ix ix_list (pe_ix ix_list (pv 3) (pe_un un_neg pe_int) (fun _ _ => rfl)) pe_int (fun _ _ => rfl)) pe_int (fun _ _ => rfl)))
      (pss_one (ps_ret (pe_cmpR (op_eqD hr.units) (pe_call GT (hr.mono (by decide)) rfl mT kT bT .nil pass0 (pa_cons (ClX.pe_cmeth (pe_glob (v := .ref CL) (by rfl) LC.gm rfl) CR CM GR (hr.mono (by decide)) pass (pa_cons pe_int (pa_cons (pv 12) pa_nil))) pa_nil)) (pe_ix ix_list (pv 3) pe_int (fun _ _ => rfl)) (nomark _))))))))))))))))))))))))), ?_⟩
    refine ⟨_, rfl, a, ns, 44, rfl, ha, hl, fun H1 l S s1 _ _ D1 => ?_⟩
    have T1 := LamX.Tabs.ext hT s1
    -- the live pile
    refine ⟨rfl, rfl, fun x dx hx hdx ne => ?_⟩
    refine ⟨x, dx, 2, rfl, LC, upd_same, by decide, fun hn H3 L LA0 hL0 keep => ⟨rfl, name_of ?_⟩, fun h => absurd (show (1 : Int) ≤ 2 ∧ (2 : Int) ≤ 9 by decide) h⟩
    have LA : LiveAt C CL H3 x L [mo0 2] 0 := LA0
    have s3 : Same H1 H3 := fun b o e => keep b o (by rw [upd_ne (ne_of_none e hx), upd_ne (ne_of_none e hdx)]; exact e) (ne_of_none e hx)
    have hL1 : H1 L = none := by
      cases e : H1 L with
      | none => rfl
      | some o => rw [upd_ne (ne_of_none e hx), upd_ne (ne_of_none e hdx), e] at hL0; cases hL0
    have nLx : L ≠ x := fun z => by
      obtain ⟨dx', ws, e1, e2, _⟩ := LA.ex
      rw [z, e1] at e2
      cases e2
    have D3 := D1.same s3
    have T3 := LamX.Tabs.ext T1 s3
    -- the first told list
    refine ⟨_, rfl, x, L, _, 0, mo0 2, rfl, MC, LC, LA, rfl, fun p H4 s4 tl => ⟨by show 1 ≤ sizeLine; decide, fun W hWn => name_of ?_⟩⟩
    have st0 : St44 T C CL l S x L W [p] [mo0 2] (upd H4 W (.lst [.ref p])) [mo0 2] 0 (mo0 2) := by
      have sW := same_upd (o := .lst [.ref p]) hWn
      have s34 := s4.trans sW
      have fW : H3 W = none := s4.free hWn
      obtain ⟨fl1, fl2⟩ := D1.fresh hx
      obtain ⟨fL1, fL2⟩ := D1.fresh hL1
      obtain ⟨fW1, fW2⟩ := D3.fresh fW
      obtain ⟨⟨mm, q, cells, h1, h2, h3⟩, nSl⟩ := id D3
      obtain ⟨dx', ws, e1, e2, _⟩ := id LA.ex
      have nd5 : [l, S, x, L, W].Nodup := by
        have a1 : l ≠ S := fun z => nSl z.symm
        have a2 : x ≠ W := ne_of_none e1 fW
        have a3 : L ≠ W := ne_of_none e2 fW
        simp [a1, Ne.symm fl1, Ne.symm fL1, Ne.symm fW1, Ne.symm fl2, Ne.symm fL2, Ne.symm fW2, Ne.symm nLx, a2, a3]
      refine ⟨D3.same s34, LamX.Tabs.ext T3 s34, LA.same s34, rfl, upd_same, fun j mj h => ?_, nd5, rfl⟩
      cases j with
      | zero =>
        cases h
        have t5 : TellsO [l, S, x, L] H4 p (mo0 2) (gon [mo0 2] 0) (his [mo0 2] 0) := tl.o fun b hb => by
          simp only [List.mem_cons, List.not_mem_nil, or_false] at hb
          rcases hb with rfl | rfl | rfl | rfl
          · exact ⟨_, h1⟩
          · exact ⟨_, h2⟩
          · exact ⟨_, e1⟩
          · exact ⟨_, e2⟩
        obtain ⟨ls, ld, lh, us, gs, hs, ⟨n1, n2, n3, n4⟩, a1, a2, a3, a4, a5, a6, a7⟩ := t5
        have more : ∀ b, b ∉ [l, S, x, L] → (∃ o, H4 b = some o) → b ∉ [l, S, x, L, W] := fun b h1 ⟨o, e⟩ h2 => by
          have : b = W ∨ b ∈ [l, S, x, L] := by
            simp only [List.mem_cons, List.not_mem_nil, or_false] at h2 ⊢
            rcases h2 with h | h | h | h | h
            · exact .inr (.inl h)
            · exact .inr (.inr (.inl h))
            · exact .inr (.inr (.inr (.inl h)))
            · exact .inr (.inr (.inr (.inr h)))
            · exact .inl h
          rcases this with rfl | h
          · rw [hWn] at e
            cases e
          · exact h1 h
        have t6 : TellsO [l, S, x, L, W] H4 p (mo0 2) (gon [mo0 2] 0) (his [mo0 2] 0) := ⟨ls, ld, lh, us, gs, hs, ⟨more _ n1 ⟨_, a1⟩, more _ n2 ⟨_, a2⟩, more _ n3 ⟨_, a4⟩, more _ n4 ⟨_, a6⟩⟩, a1, a2, a3, a4, a5, a6, a7⟩
        exact ⟨p, rfl, t6.only (fun b xs e _ => sW _ _ e) (.of sW)⟩
      | succ j => simp at h
    generalize upd H4 W (.lst [.ref p]) = H5 at *
    clear hWn s4 tl T3 D3 hL1 s3 LA LA0 keep hL0 D1 T1 s1
    -- the deeds
    refine ⟨_, rfl, l, S, 12, rfl, st0.d, by decide, by decide, fun n H9 n0 n1 b9 d9 => ⟨_, _, rfl, rfl, 1 + n, rfl, by omega, by omega, for_it walk_range (fun i σ H => ∃ (o4 : Option V) (ps : List Addr) (ms : List Mo) (k : Nat) (m : Mo), σ = [some (.ref a), some (.ref l), some (.ref x), some (.ref W), o4, none, none, none, none, none, none, none, none] ∧ St44 T C CL l S x L W ps ms H ms k m ∧ Lw ms ∧ ms.length = k + 1 ∧ k = i)
      ⟨none, [p], [mo0 2], 0, mo0 2, rfl, st0.draw b9 d9, lw0, rfl, rfl⟩ (fun _ _ _ _ _ => trivial) ?_ ?_⟩⟩
    · rintro turn v σ H3' H0 hi ⟨o4, ps, ms, k, m, rfl, st, lw, lk, rfl⟩ ⟨rfl, rfl⟩
      have k40 : k < 13 := by omega
      obtain ⟨dx', wsL, h1, h2, h3⟩ := id st.lv.ex
      have nd4 : [l, S, x, L].Nodup := by
        have := st.nd
        simp only [List.nodup_cons, List.mem_cons, not_or, List.not_mem_nil, not_false_eq_true, and_true, List.nodup_nil] at this ⊢
        obtain ⟨⟨a1, a2, a3, a4⟩, ⟨b1, b2, b3⟩, ⟨c1, c2⟩, e1⟩ := this
        exact ⟨⟨a1, a2, a3⟩, ⟨b1, b2⟩, c1⟩
      refine ⟨_, rfl, x, dx', _, rfl, h1, no_liF _ (by decide +kernel) (by decide +kernel), _, rfl, _, rfl, l, S, x, L, ms, k, m, rfl, MC, LC, st.d, st.lv, st.hm, lw, nd4, fun qa o Ha ba da de eq => ?_⟩
      have sta := st.draw ba da
      obtain ⟨m', r, es, v', eo⟩ := de.ok (lw.iv k m st.hm) (by omega)
      have run : runM m [o] = .ok ([m'], [r]) := by rw [runM_cons, es]; rfl
      refine apply_at (ws := [.ref qa]) (xs := [.op o]) sta.lv sta.hm (.cons ⟨qa, rfl, eq, fun ws e => by cases e⟩ .nil) (by show k + 1 + 1 ≤ 900; omega) (fun o' h => by cases (List.mem_singleton.mp h); exact de.size) (fun i e => (badFrom_op [o] e).elim) fun os e => ?_
      obtain rfl : [o] = os := inj_ops (show [o].map Arg.op = os.map Arg.op from e)
      refine ⟨fun new rs run' Hb rl us bb LAb _ _ _ => ?_, fun er run' => by rw [run] at run'; cases run'⟩
      rw [run] at run'
      cases run'
      have en : nextMs ms k [m'] = ms ++ [m'] := by
        unfold nextMs
        rw [if_neg (by simp), List.take_of_length_le (by omega)]
      rw [en] at LAb
      have hmb : (ms ++ [m'])[k + 1]? = some m' := by rw [List.getElem?_append_right (by omega), lk, Nat.sub_self]; rfl
      have stb := sta.act bb LAb hmb
      refine ⟨_, rfl, .inl ⟨rfl, _, SqL.of stb.w⟩, _, rfl, x, L, _, k + 1, m', rfl, MC, LC, stb.lv, stb.hm, fun p2 Hc sc tl => ?_⟩
      have stc := stb.same sc
      refine ⟨W, _, .ref p2, rfl, rfl, stc.w, ?_, ?_⟩
      · rw [List.length_map, stc.len, lk]
        exact Nat.lt_of_lt_of_le (by omega : k + 1 < 20) (by decide)
      · exact ⟨_, ps ++ [p2], ms ++ [m'], k + 1, m', rfl, stc.saw lk (tl.o stb.there_), lw.snoc lk st.hm es v' eo de.size, by rw [List.length_append, lk]; rfl, rfl⟩
    · rintro σ H10 ⟨o4, ps, ms, k, m, rfl, st, lw, lk, hkn⟩
      have hk1 : 1 ≤ k ∧ k ≤ 12 := by omega
      have lps : (ps.map V.ref).length = k + 1 := by rw [List.length_map, st.len, lk]
      have few := st.lv.few
      -- many
      refine nx_of (asg_val (.int (k : Nat)) (fun R h => ?_) fun H11 s11 => name_at ?_)
      · refine ⟨_, rfl, W, _, rfl, .inl (SqL.of st.w), _, _, rfl, rfl, ?_⟩
        have := h H10 (Same.refl _)
        rwa [show ((k : Nat) : Int) = (((ps.map V.ref).length : Nat) : Int) - 1 by rw [lps]; omega] at this
      have st1 := st.same s11
      refine ⟨_, rfl, _, rfl, _, _, rfl, rfl, l, S, _, rfl, st1.d, by omega, by omega, fun bk H12 c0 c1 b12 d12 => name_of ?_⟩
      have st2 := st1.draw b12 d12
      -- back
      refine ⟨_, rfl, bk, rfl, by omega, by omega, for_it walk_range (fun i σ H => ∃ (o7 : Option V) (m2 : Mo), σ = [some (.ref a), some (.ref l), some (.ref x), some (.ref W), o4, some (.int (k : Nat)), some (.int bk), o7, none, none, none, none, none] ∧ St44 T C CL l S x L W ps ms H ms (k - i) m2)
        ⟨none, m, rfl, st2⟩ (fun _ _ _ _ _ => trivial) ?_ ?_⟩
      · rintro i v σ H13' H0 hi ⟨o7, m2, rfl, s2⟩ ⟨rfl, rfl⟩
        obtain ⟨dx', wsL, h1, h2, h3⟩ := id s2.lv.ex
        refine name_at (if1_no (fun H' => ∃ mm, St44 T C CL l S x L W ps ms H' ms (k - (i + 1)) mm) (fun R h => ?_) fun H' ⟨mm, s3⟩ => ⟨_, _, rfl, s3⟩)
        refine ⟨_, rfl, x, dx', _, rfl, h1, no_liF _ (by decide +kernel) (by decide +kernel), x, L, ms, k - i, rfl, LC, s2.lv, fun k0 => ?_, fun j ej H' b LA => ?_⟩
        · have e : decide (((0 : Int) + (i : Nat)) < ((k : Nat) : Int)) = false := decide_eq_false (by omega)
          refine ⟨_, rfl, _, rfl, _, _, rfl, rfl, _, _, rfl, ⟨trivial, by rw [← e]⟩, fun HJ sJ => ⟨_, rfl, h _ ⟨m2, ?_⟩⟩⟩
          have := s2.same sJ
          rwa [show k - i = k - (i + 1) by omega] at this
        · have e : decide (((0 : Int) + (i : Nat)) < ((k : Nat) : Int)) = true := decide_eq_true (by omega)
          obtain ⟨mj, hmj⟩ : ∃ mj, ms[j]? = some mj := ⟨_, List.getElem?_eq_getElem (by omega)⟩
          refine ⟨_, rfl, _, rfl, _, _, rfl, rfl, _, _, rfl, ⟨trivial, by rw [← e]⟩, fun HJ sJ => ⟨_, rfl, h _ ⟨mj, ?_⟩⟩⟩
          have := (s2.act b LA hmj).same sJ
          rwa [show j = k - (i + 1) by omega] at this
      rintro σ H13 ⟨o7, mj, rfl, s3⟩
      obtain ⟨j, hj⟩ : ∃ j, j = k - bk.toNat := ⟨_, rfl⟩
      have s4 : St44 T C CL l S x L W ps ms H13 ms j mj := by rw [hj]; exact s3
      clear s3
      have jk : j ≤ k := by omega
      refine nx_of (asg_val (.int (j : Nat)) (fun R h => ?_) fun H14 s14 => name_at ?_)
      · refine ⟨_, rfl, _, rfl, _, _, rfl, rfl, _, _, rfl, ?_⟩
        have := h H13 (Same.refl _)
        rwa [show ((j : Nat) : Int) = (if ((k : Nat) : Int) - bk > 0 then ((k : Nat) : Int) - bk else 0) by split <;> omega] at this
      have s5 := s4.same s14
      clear s4 st2 st1 st b12 d12
      -- what is no operation
      refine asg_rel (fun v H' => ∃ u vs, v = .ref u ∧ H' u = some (.tup vs) ∧ BadVs vs ∧ St44 T C CL l S x L W ps ms H' ms j mj) (fun R h => ?_) fun v H15 hv => name_at ?_
      · refine ⟨by show 1 ≤ sizeLine; decide, fun u0 hu0 => ⟨by show 1 ≤ sizeLine; decide, fun u1 hu1 => ⟨by show 3 ≤ sizeLine; decide, fun u2 hu2 => ⟨Nat.zero_le _, fun u3 hu3 => ⟨by show 2 ≤ sizeLine; decide, fun u4 hu4 => ⟨by show 1 ≤ sizeLine; decide, fun u5 hu5 => ⟨by show 6 ≤ sizeLine; decide, fun Lo hLo => ?_⟩⟩⟩⟩⟩⟩⟩
        have e0 := (same_upd (o := .tup [.str "go"]) hu1) _ _ (upd_same (H := H14) (a := u0) (o := .tup [.str "jump"]))
        have e1 := upd_same (H := (upd H14 u0 (.tup [.str "jump"]))) (a := u1) (o := .tup [.str "go"])
        have t01 := (same_upd (o := .tup [.str "jump"]) hu0).trans (same_upd (o := .tup [.str "go"]) hu1)
        generalize upd (upd H14 u0 (.tup [.str "jump"])) u1 (.tup [.str "go"]) = Ha at *
        have t2 := same_upd (o := .tup [.str "wait", .int 1, .int 2]) hu2
        have e2 := upd_same (H := Ha) (a := u2) (o := .tup [.str "wait", .int 1, .int 2])
        generalize upd Ha u2 (.tup [.str "wait", .int 1, .int 2]) = Hb at *
        have t3 := same_upd (o := .tup []) hu3
        have e3 := upd_same (H := Hb) (a := u3) (o := .tup [])
        generalize upd Hb u3 (.tup []) = Hc at *
        have t4 := same_upd (o := .tup [.str "come", .str "ann"]) hu4
        have e4 := upd_same (H := Hc) (a := u4) (o := .tup [.str "come", .str "ann"])
        generalize upd Hc u4 (.tup [.str "come", .str "ann"]) = Hd at *
        have t5 := same_upd (o := .tup [.str "undo"]) hu5
        have e5 := upd_same (H := Hd) (a := u5) (o := .tup [.str "undo"])
        generalize upd Hd u5 (.tup [.str "undo"]) = He at *
        have t6 := same_upd (o := .lst [.ref u0, .ref u1, .ref u2, .ref u3, .ref u4, .ref u5]) hLo
        have eLo := upd_same (H := He) (a := Lo) (o := .lst [.ref u0, .ref u1, .ref u2, .ref u3, .ref u4, .ref u5])
        have fLo : Lo ≠ l ∧ Lo ≠ S := (s5.d.same ((((t01.trans t2).trans t3).trans t4).trans t5)).fresh hLo
        have s6 := s5.same (((((t01.trans t2).trans t3).trans t4).trans t5).trans t6)
        generalize upd He Lo (.lst [.ref u0, .ref u1, .ref u2, .ref u3, .ref u4, .ref u5]) = Hf at *
        refine ⟨_, rfl, l, S, 6, rfl, s6.d, by decide, by decide, fun r Hg r0 r1 bg dg => ?_⟩
        have kf : KeepF Hf Hg := by
          obtain ⟨⟨mm, pp, cells, q1, q2, q3⟩, _⟩ := s6.d
          exact KeepF.but bg q1 (fun z => z) q2 (fun z => z)
        have s7 := s6.draw bg dg
        have eG := bg _ _ eLo fLo.1 fLo.2
        have g5 := kf _ _ (t6 _ _ e5) trivial
        have g4 := kf _ _ (t6 _ _ (t5 _ _ e4)) trivial
        have g3 := kf _ _ (t6 _ _ (t5 _ _ (t4 _ _ e3))) trivial
        have g2 := kf _ _ (t6 _ _ (t5 _ _ (t4 _ _ (t3 _ _ e2)))) trivial
        have g1 := kf _ _ (t6 _ _ (t5 _ _ (t4 _ _ (t3 _ _ (t2 _ _ e1))))) trivial
        have g0 := kf _ _ (t6 _ _ (t5 _ _ (t4 _ _ (t3 _ _ (t2 _ _ e0))))) trivial
        have bv : BadVs [V.str "jump"] ∧ BadVs [V.str "go"] ∧ BadVs [V.str "wait", .int 1, .int 2] ∧ BadVs [V.str "come", .str "ann"] ∧ BadVs [V.str "undo"] := by
          refine ⟨.inr ⟨_, _, rfl, by decide +kernel, ?_⟩, .inr ⟨_, _, rfl, by decide +kernel, ?_⟩, .inr ⟨_, _, rfl, by decide +kernel, ?_⟩, .inr ⟨_, _, rfl, by decide +kernel, ?_⟩, .inr ⟨_, _, rfl, by decide +kernel, ?_⟩⟩ <;> decide +kernel
        have pick : ∃ u vs, atI [V.ref u0, .ref u1, .ref u2, .ref u3, .ref u4, .ref u5] r = some (.ref u) ∧ Hg u = some (.tup vs) ∧ BadVs vs := by
          have : r = 0 ∨ r = 1 ∨ r = 2 ∨ r = 3 ∨ r = 4 ∨ r = 5 := by omega
          rcases this with rfl | rfl | rfl | rfl | rfl | rfl
          · exact ⟨u0, _, atI_nat (j := 0) rfl, g0, bv.1⟩
          · exact ⟨u1, _, atI_nat (j := 1) rfl, g1, bv.2.1⟩
          · exact ⟨u2, _, atI_nat (j := 2) rfl, g2, bv.2.2.1⟩
          · exact ⟨u3, _, atI_nat (j := 3) rfl, g3, .inl rfl⟩
          · exact ⟨u4, _, atI_nat (j := 4) rfl, g4, bv.2.2.2.1⟩
          · exact ⟨u5, _, atI_nat (j := 5) rfl, g5, bv.2.2.2.2⟩
        obtain ⟨u, vs, hat, hu', bad⟩ := pick
        exact ⟨Lo, _, r, .ref u, rfl, rfl, SqL.of eG, hat, h _ _ ⟨u, vs, rfl, hu', bad, s7⟩⟩
      obtain ⟨u, vs, rfl, hu', bad, s6⟩ := hv
      clear s5
      have hjm := s6.hm
      -- an operation that is none
      refine ifs_no (fun H' => St44 T C CL l S x L W ps ms H' ms j mj) (fun R h => or_rel (fun H' => St44 T C CL l S x L W ps ms H' ms j mj) (fun R h => ?_) (fun H16 s7 R h => ?_) h) (fun H17 s8 => nx_of ?_)
      · refine ⟨s6.t, fun f0 c0 Hh Gh nh lh => ⟨_, rfl, f0, spLamA C CL (E10 4), rfl, ?_, fun R' E' hR hE => ?_⟩⟩
        · refine act0 (k := 7) (N := ["_law_live", "_law_odd"]) (fr := ["_law_live", "_law_odd"]) (sp := spLamA C CL (E10 4)) lh (nscope_by (sc := scL [("_law_live", .free), ("_law_odd", .free)]) (by decide +kernel)) (fun _ _ => rfl) fun A outer s H ws Q E hr hw h => ?_
          obtain ⟨x, u, L, ms, k, m, vs, rfl, LA, hm, hk, eu, bad, kE⟩ := h
          obtain ⟨dx, us, h1, h2, h3⟩ := id LA.ex
          refine ⟨_, pe_methR (pv 0) LC.cl hP GP (hr.mono (by decide)) (passes_call (takes_of rfl rfl rfl rfl) fun _ _ _ _ z => z) (pa_cons (pe_tup (pa_cons pe_str (pa_cons pe_int pa_nil))) (pa_cons (pv 1) pa_nil)), ?_⟩
          refine ⟨_, rfl, x, dx, _, rfl, h1, no_liF _ (by decide +kernel) (by decide +kernel), by show 2 ≤ sizeLine; decide, fun q hq => ⟨_, rfl, ?_⟩⟩
          have sq := same_upd (o := .tup [.str "wait", .int 1]) hq
          refine apply_at (ws := [.ref q, .ref u]) (xs := [.op (.wait 1), .bad vs]) (LA.same sq) hm (.cons ⟨q, rfl, upd_same, (fun ws e => by cases e)⟩ (.cons ⟨u, rfl, sq _ _ eu, (fun ws e => by cases e; exact bad)⟩ .nil)) hk (fun o' h => ?_) (fun i e H' d s' ed => ?_) (fun os e => (no_ops e).elim)
          · simp only [List.mem_cons, List.not_mem_nil, or_false] at h
            rcases h with h | h
            · cases h
              exact log_of (by decide) (by decide)
            · cases h
          · have e1 : badFrom 0 [.op (.wait 1), .bad vs] = some 1 := rfl
            rw [e1] at e
            cases e
            exact kE H' d (sq.trans s') ed
        · have sth := s6.grow Gh
          refine ⟨x, u, L, ms, j, mj, vs, rfl, sth.lv, sth.hm, by omega, Gh.ext u _ hu' (fun ps q => by cases q), bad, fun H' d sd ed => hE _ _ _ ⟨4, rfl, .inr ⟨"index", d, .int 1, rfl, rfl, ed, fun p H2 s2 ep => ?_⟩⟩⟩
          refine ⟨by show 2 ≤ sizeLine; decide, fun t2 ht2 => ?_⟩
          have s3 := same_upd (o := .tup [.str "operation", .int 1]) ht2
          refine ne_nice (.tup (SqT.of (s3 _ _ ep)) (.cons (.str _) (.cons (.int _) .nil))) (.tup (SqT.of upd_same) (.cons (.str _) (.cons (.int _) .nil))) ((nice_tup (n := 0) fun d hd => ?_).mono (by decide)) ⟨_, rfl, h _ (((sth.same sd).same s2).same s3)⟩
          simp only [List.mem_cons, List.not_mem_nil, or_false] at hd
          rcases hd with rfl | rfl
          · exact nice_str (by decide +kernel)
          · exact nice_int _
      · refine ⟨_, rfl, x, L, _, _, _, rfl, MC, LC, s7.lv, s7.hm, fun pt Ht s_t tl => ?_⟩
        obtain ⟨pj, hpj, tj⟩ := s7.sn j _ hjm
        exact ⟨_, rfl, _, rfl, W, _, ((j : Nat) : Int), .ref pj, rfl, rfl, SqL.of (s_t _ _ s7.w), atI_nat (by rw [List.getElem?_map, hpj]; rfl), ne_nice (dp_told tl.tells) (dp_told (tj.tells.same s_t)) (lw.nice hjm) ⟨_, rfl, h _ (s7.same s_t)⟩⟩
      -- one that fails
      refine ifs_no (fun H' => St44 T C CL l S x L W ps ms H' ms j mj) (fun R h => or_rel (fun H' => St44 T C CL l S x L W ps ms H' ms j mj) (fun R h => ?_) (fun H16 s7 R h => ?_) h) (fun H18 s9 => nx_of ?_)
      · refine ⟨s8.t, fun f0 c0 Hh Gh nh lh => ⟨_, rfl, f0, spLamB C CL (E10 9), rfl, ?_, fun R' E' hR hE => ?_⟩⟩
        · refine act0 (k := 7) (N := ["_law_live"]) (fr := ["_law_live"]) (sp := spLamB C CL (E10 9)) lh (nscope_by (sc := scL [("_law_live", .free)]) (by decide +kernel)) (fun _ _ => rfl) fun A outer s H ws Q E hr hw h => ?_
          obtain ⟨x, L, ms, k, m, rfl, LA, hm, hk, iv, kE⟩ := h
          obtain ⟨dx, us, h1, h2, h3⟩ := id LA.ex
          refine ⟨_, pe_methR (pv 0) LC.cl hP GP (hr.mono (by decide)) (passes_call (takes_of rfl rfl rfl rfl) fun _ _ _ _ z => z) (pa_cons (pe_tup (pa_cons pe_str (pa_cons pe_int pa_nil))) (pa_cons (pe_tup (pa_cons pe_str (pa_cons pe_str pa_nil))) pa_nil)), ?_⟩
          refine ⟨_, rfl, x, dx, _, rfl, h1, no_liF _ (by decide +kernel) (by decide +kernel), by show 2 ≤ sizeLine; decide, fun q hq => ⟨by show 2 ≤ sizeLine; decide, fun q2 hq2 => ?_⟩⟩
          have sq := same_upd (o := .tup [.str "wait", .int 1]) hq
          have sq2 := same_upd (o := .tup [.str "go", .str "zoe"]) hq2
          have s12 := sq.trans sq2
          refine apply_at (ws := [.ref q, .ref q2]) (xs := [.op (.wait 1), .op (.go "zoe")]) (LA.same s12) hm (.cons ⟨q, rfl, sq2 _ _ upd_same, (fun ws e => by cases e)⟩ (.cons ⟨q2, rfl, upd_same, (fun ws e => by cases e)⟩ .nil)) hk (fun o' h => ?_) (fun i e => (badFrom_op [.wait 1, .go "zoe"] e).elim) (fun os e => ?_)
          · simp only [List.mem_cons, List.not_mem_nil, or_false] at h
            rcases h with h | h
            · cases h
              exact log_of (by decide) (by decide)
            · cases h
              show Str.length "zoe" ≤ 1000
              decide +kernel
          · obtain rfl : [.wait 1, .go "zoe"] = os := inj_ops (show [Op.wait 1, Op.go "zoe"].map Arg.op = os.map Arg.op from e)
            have run := zoe_gone iv (by omega)
            refine ⟨(fun new rs run' => by rw [run] at run'; cases run'), fun er run' => ?_⟩
            rw [run] at run'
            cases run'
            exact fun H' d s' ed => kE H' d (s12.trans s') ed
        · have sth := s8.grow Gh
          refine ⟨x, L, ms, j, mj, rfl, sth.lv, sth.hm, by omega, lw.iv j mj hjm, fun H' d sd ed => hE _ _ _ ⟨9, rfl, .inr ⟨"name", d, .str "zoe", rfl, rfl, ed, fun p H2 s2 ep => ?_⟩⟩⟩
          refine ⟨by show 2 ≤ sizeLine; decide, fun t2 ht2 => ?_⟩
          have s3 := same_upd (o := .tup [.str "guest", .str "zoe"]) ht2
          refine ne_nice (.tup (SqT.of (s3 _ _ ep)) (.cons (.str _) (.cons (.str _) .nil))) (.tup (SqT.of upd_same) (.cons (.str _) (.cons (.str _) .nil))) ((nice_tup (n := 0) fun d hd => ?_).mono (by decide)) ⟨_, rfl, h _ (((sth.same sd).same s2).same s3)⟩
          simp only [List.mem_cons, List.not_mem_nil, or_false] at hd
          rcases hd with rfl | rfl
          · exact nice_str (by decide +kernel)
          · exact nice_str (by decide +kernel)
      · refine ⟨_, rfl, x, L, _, _, _, rfl, MC, LC, s7.lv, s7.hm, fun pt Ht s_t tl => ?_⟩
        obtain ⟨pj, hpj, tj⟩ := s7.sn j _ hjm
        exact ⟨_, rfl, _, rfl, W, _, ((j : Nat) : Int), .ref pj, rfl, rfl, SqL.of (s_t _ _ s7.w), atI_nat (by rw [List.getElem?_map, hpj]; rfl), ne_nice (dp_told tl.tells) (dp_told (tj.tells.same s_t)) (lw.nice hjm) ⟨_, rfl, h _ (s7.same s_t)⟩⟩
      clear s6 s8
      -- redo
      refine ifs_no (fun H' => ∃ mm, St44 T C CL l S x L W ps ms H' ms (min k (j + 1)) mm) (fun R h => ?_) (fun H19 ⟨mm, sA⟩ => nx_of ?_)
      · obtain ⟨dx', wsL, h1, h2, h3⟩ := id s9.lv.ex
        refine ⟨_, rfl, x, dx', _, rfl, h1, no_liF _ (by decide +kernel) (by decide +kernel), x, L, ms, j, rfl, LC, s9.lv, fun k0 => ?_, fun k0 H' b LA => ?_⟩
        · have e : decide (((j : Nat) : Int) < ((k : Nat) : Int)) = false := decide_eq_false (by omega)
          refine ⟨_, rfl, _, rfl, _, _, rfl, rfl, _, _, rfl, ⟨trivial, by rw [← e]⟩, fun HJ sJ => ⟨_, rfl, h _ ⟨mj, ?_⟩⟩⟩
          have := s9.same sJ
          rwa [show j = min k (j + 1) by omega] at this
        · have e : decide (((j : Nat) : Int) < ((k : Nat) : Int)) = true := decide_eq_true (by omega)
          obtain ⟨m3, hm3⟩ : ∃ m3, ms[j + 1]? = some m3 := ⟨_, List.getElem?_eq_getElem k0⟩
          refine ⟨_, rfl, _, rfl, _, _, rfl, rfl, _, _, rfl, ⟨trivial, by rw [← e]⟩, fun HJ sJ => ⟨_, rfl, h _ ⟨m3, ?_⟩⟩⟩
          have := (s9.act b LA hm3).same sJ
          rwa [show j + 1 = min k (j + 1) by omega] at this
      clear s9 hu' bad
      refine asg_val (.int ((min k (j + 1) : Nat))) (fun R h => ?_) fun H20 s20 => name_at ?_
      · refine ⟨_, rfl, _, rfl, _, _, rfl, rfl, _, _, rfl, ?_⟩
        have := h H19 (Same.refl _)
        rwa [show ((min k (j + 1) : Nat) : Int) = (if ((j : Nat) : Int) + 1 < ((k : Nat) : Int) then ((j : Nat) : Int) + 1 else ((k : Nat) : Int)) by split <;> omega] at this
      have sB := sA.same s20
      clear sA
      obtain ⟨i, hi, hik⟩ : ∃ i, i = min k (j + 1) ∧ i ≤ k := ⟨_, rfl, by omega⟩
      rw [← hi] at sB ⊢
      have him := sB.hm
      have ilt : i < ms.length := by omega
      have elen := effect_len ilt
      have glen : (gon ms i).length ≤ 1000 := Nat.le_trans (List.length_filterMap_le _ _) (by rw [elen]; omega)
      have hlen : (his ms i).length ≤ 1000 := by
        rw [List.length_map, elen]
        omega
      -- alike
      refine ifs_no (fun H' => St44 T C CL l S x L W ps ms H' ms i mm) (fun R h => ?_) (fun H21 sC => nx_of ?_)
      · refine ⟨_, rfl, x, L, _, _, _, rfl, MC, LC, sB.lv, sB.hm, fun pt Ht s_t tl => ?_⟩
        obtain ⟨pj, hpj, tj⟩ := sB.sn i _ him
        exact ⟨_, rfl, _, rfl, W, _, ((i : Nat) : Int), .ref pj, rfl, rfl, SqL.of (s_t _ _ sB.w), atI_nat (by rw [List.getElem?_map, hpj]; rfl), _, _, rfl, alike_tells ((sB.lv.fit i mm him).mono (by omega)) glen hlen tl.tells (tj.tells.same s_t), fun HJ sJ => ⟨_, rfl, h _ ((sB.same s_t).same sJ)⟩⟩
      clear sB
      -- the twin
      refine ⟨rfl, [.ref CL, .int 2], [], rfl, rfl, Nat.zero_le _, fun pz hpz => ⟨pz, 2, [], [], rfl, LC, upd_same, .nil, by decide, fun _ => ⟨by decide, (fun o h => nomatch h), [], [], [], rfl, rfl, fun y L2' Hb sb hy hL2 LAy0 => name_of ?_⟩, fun hn => absurd (show (1 : Int) ≤ 2 ∧ (2 : Int) ≤ 9 by decide) hn⟩⟩
      have LAy : LiveAt C CL Hb y L2' [mo0 2] 0 := by
        have := (show LiveAt C CL Hb y L2' (nextMs [mo0 2] 0 []) 0 from LAy0)
        rwa [show nextMs [mo0 2] 0 [] = [mo0 2] from if_pos rfl] at this
      have sD := sC.same (same_upd (o := .tup []) hpz)
      generalize upd H21 pz (.tup []) = Ha at *
      have sDb := sD.same sb
      obtain ⟨dx', wsL, h1, h2, h3⟩ := id sDb.lv.ex
      refine ⟨_, rfl, x, dx', _, rfl, h1, x, L, ms, i, rfl, MC, LC, sDb.lv, fun hl Hc us sc hhl ehl pu => ?_⟩
      have lus : us.length = i := by
        rw [pair_len pu, List.length_map, elen]
      have nly : hl ≠ y := fun z => by
        obtain ⟨dy, wy, q1, q2, _⟩ := LAy.ex
        rw [z, q1] at hhl
        cases hhl
      have nlL : hl ≠ L2' := fun z => by
        obtain ⟨dy, wy, q1, q2, _⟩ := LAy.ex
        rw [z, q2] at hhl
        cases hhl
      refine ⟨hl, rfl, ⟨_, SqL.of ehl⟩, for_it (walk_list (xs := us)) (fun t σ H => ∃ (o11 : Option V) (mt : Mo), σ = [some (.ref a), some (.ref l), some (.ref x), some (.ref W), o4, some (.int (k : Nat)), some (.int bk), o7, some (.int (i : Nat)), some (.ref u), some (.ref y), o11, none] ∧ Same Ha H ∧ LiveAt C CL H y L2' (ms.take (t + 1)) t ∧ ms[t]? = some mt ∧ H hl = some (.lst us) ∧ KeepF Hc H)
        ⟨none, mo0 2, rfl, sb.trans sc, by rw [take_one lw.z]; exact LAy.same sc, lw.z, ehl, fun b o e _ => e⟩ (fun t σ H _ p => by obtain ⟨_, _, _, _, _, _, e, _⟩ := p; exact SqL.of e) ?_ ?_⟩
      · rintro t v σ H1' H0 ht ⟨o11, mt, rfl, sAll, LAt, hmt, ehl', kf⟩ ⟨rfl, ev⟩
        have hti : t < i := by rw [← lus]; exact ht
        obtain ⟨o, ho, q, rfl, hq⟩ := pair_get pu ev
        obtain ⟨m', hm'⟩ : ∃ m', ms[t + 1]? = some m' := ⟨_, List.getElem?_eq_getElem (by omega)⟩
        obtain ⟨o', r, eo, es, so⟩ := lw.st t mt m' hmt hm'
        have eo2 : o = some o' := by
          rw [List.getElem?_map, effect_at hti, hm'] at ho
          have : some m'.op = some o := ho
          rw [eo] at this
          exact (Option.some.inj this).symm
        subst eo2
        have run : runM mt [o'] = .ok ([m'], [r]) := by rw [runM_cons, es]; rfl
        obtain ⟨dy, wy, q1, q2, q3⟩ := id LAt.ex
        have lt1 : (ms.take (t + 1)).length = t + 1 := by rw [List.length_take]; omega
        have hmt2 : (ms.take (t + 1))[t]? = some mt := by rw [List.getElem?_take_of_lt (by omega)]; exact hmt
        refine name_at ⟨_, rfl, y, dy, _, rfl, q1, no_liF _ (by decide +kernel) (by decide +kernel), _, rfl, ?_⟩
        refine apply_at (ws := [.ref q]) (xs := [.op o']) LAt hmt2 (.cons ⟨q, rfl, kf _ _ hq trivial, (fun ws e => by cases e)⟩ .nil) (by show t + 1 + 1 ≤ 900; omega) (fun o2 h => by cases (List.mem_singleton.mp h); exact so) (fun i e => (badFrom_op [o'] e).elim) fun os e => ?_
        obtain rfl : [o'] = os := inj_ops (show [o'].map Arg.op = os.map Arg.op from e)
        refine ⟨fun new rs run' Hd rl us' bb LAb _ _ _ => ?_, fun er run' => by rw [run] at run'; cases run'⟩
        rw [run] at run'
        cases run'
        have en : nextMs (ms.take (t + 1)) t [m'] = ms.take (t + 1 + 1) := by
          unfold nextMs
          rw [if_neg (by simp), List.take_take, Nat.min_self, List.take_add_one (i := t + 1), hm']
          rfl
        rw [en] at LAb
        exact ⟨_, m', rfl, fun b o e => bb b o (sAll _ _ e) (ne_of_none e hy) (ne_of_none e hL2), LAb, hm', bb _ _ ehl' nly nlL, kf.trans (KeepF.but bb q1 nfz_ins q2 nfz_lst)⟩
      rintro σ H22 ⟨o11, mt, rfl, sAll, LAt, hmt, _, _⟩
      rw [lus] at LAt hmt
      rw [him] at hmt
      cases hmt
      have sE := sD.same sAll
      have hmT : (ms.take (i + 1))[i]? = some mm := by rw [List.getElem?_take_of_lt (by omega)]; exact him
      clear sD sC sDb sb sc LAy LAy0
      refine nx_of (ifs_no (fun H' => St44 T C CL l S x L W ps ms H' ms i mm) (fun R h => or_rel (fun H' => St44 T C CL l S x L W ps ms H' ms i mm) (fun R h => ?_) (fun H23 sF R h => ?_) h) (fun H24 sG => nx_of ?_))
      · refine ⟨_, rfl, y, L2', _, i, mm, rfl, MC, LC, LAt, hmT, fun pt Ht s_t tl => ?_⟩
        rw [effect_take (Nat.le_refl i)] at tl
        obtain ⟨pj, hpj, tj⟩ := sE.sn i _ him
        exact ⟨_, rfl, _, rfl, W, _, ((i : Nat) : Int), .ref pj, rfl, rfl, SqL.of (s_t _ _ sE.w), atI_nat (by rw [List.getElem?_map, hpj]; rfl), ne_nice (dp_told tl.tells) (dp_told (tj.tells.same s_t)) (lw.nice him) ⟨_, rfl, h _ (sE.same s_t)⟩⟩
      · obtain ⟨dx2, wsL2, f1, f2, f3⟩ := id sF.lv.ex
        refine ⟨_, rfl, x, dx2, _, rfl, f1, no_liF _ (by decide +kernel) (by decide +kernel), ?_⟩
        refine apply_at (ws := []) (xs := []) sF.lv him .nil (by show i + 0 + 1 ≤ 900; omega) (fun o h => nomatch h) (fun i e => by have e1 : badFrom 0 [] = some i := e; cases e1) fun os e => ?_
        obtain rfl : [] = os := inj_ops (show ([] : List Op).map Arg.op = os.map Arg.op from e)
        refine ⟨fun new rs run' Hd rl us' bb LAb _ el pr => ?_, fun er run' => by
          have : (Except.ok ([], []) : Except Er (List Mo × List Rs)) = .error er := run'
          cases this⟩
        cases run'
        cases pr
        have en : nextMs ms i [] = ms := if_pos rfl
        rw [en] at LAb
        refine ⟨Nat.zero_le _, fun z hz => ?_⟩
        exact ne_nice (.lst (SqL.of ((same_upd hz) _ _ el)) .nil) (.lst (SqL.of upd_same) .nil) ((nice_lst (n := 0) (ds := []) fun d hd => nomatch hd).mono (by decide)) ⟨_, rfl, h _ ((sF.act bb LAb him).same (same_upd hz))⟩
      -- wait
      obtain ⟨m', r, es, v', eo⟩ := (Deed.wait (m := mm) (t := 1) (by decide) (by decide)).ok (lw.iv i mm him) (by omega)
      obtain ⟨dx2, wsL2, f1, f2, f3⟩ := id sG.lv.ex
      refine ⟨_, rfl, x, dx2, _, rfl, f1, no_liF _ (by decide +kernel) (by decide +kernel), x, L, [.int 1], .wait 1, ms, i, mm, rfl, ⟨1, rfl, rfl⟩, sG.lv, him, by omega, log_of (by decide) (by decide), ⟨fun m2 r2 es2 H25 v b25 LA25 _ _ => nx_of ?_, fun e es2 => by rw [es] at es2; cases es2⟩⟩
      rw [es] at es2
      cases es2
      have lt1 : (ms.take (i + 1)).length = i + 1 := by rw [List.length_take]; omega
      have l2 : (ms.take (i + 1) ++ [m']).length = i + 2 := by rw [List.length_append, lt1]; rfl
      have hm2 : (ms.take (i + 1) ++ [m'])[i + 1]? = some m' := by rw [List.getElem?_append_right (by omega), lt1, Nat.sub_self]; rfl
      have hm1 : (ms.take (i + 1) ++ [m'])[i]? = some mm := by rw [List.getElem?_append_left (by omega)]; exact hmT
      have ee : effect (ms.take (i + 1) ++ [m']) i = effect ms i := by rw [effect_app (by omega), effect_take (Nat.le_refl i)]
      have sH := sG.act b25 LA25 hm2
      clear sG sE
      refine ifs_no (fun H' => St44 T C CL l S x L W ps ms H' (ms.take (i + 1) ++ [m']) i mm) (fun R h => or_two (fun H' => St44 T C CL l S x L W ps ms H' (ms.take (i + 1) ++ [m']) (i + 1) m') (fun H' => St44 T C CL l S x L W ps ms H' (ms.take (i + 1) ++ [m']) i mm) (fun R h => ?_) (fun H26 sI R h => or_two (fun H' => St44 T C CL l S x L W ps ms H' (ms.take (i + 1) ++ [m']) i mm) (fun H' => St44 T C CL l S x L W ps ms H' (ms.take (i + 1) ++ [m']) i mm) (fun R h => ?_) (fun H27 sJ R h => ?_) h) h) (fun H28 sK => nx_of ?_)
      · obtain ⟨dx3, wsL3, g1, g2, g3⟩ := id sH.lv.ex
        exact ⟨_, rfl, x, dx3, _, rfl, g1, no_liF _ (by decide +kernel) (by decide +kernel), x, L, _, i + 1, rfl, LC, sH.lv, fun _ => ⟨_, rfl, h _ sH⟩, fun z => absurd z (by rw [l2]; omega)⟩
      · obtain ⟨dx3, wsL3, g1, g2, g3⟩ := id sI.lv.ex
        refine ⟨_, rfl, x, dx3, _, rfl, g1, no_liF _ (by decide +kernel) (by decide +kernel), x, L, _, i + 1, rfl, LC, sI.lv, (fun z => by omega), fun j2 ej H' b LA => ?_⟩
        obtain rfl : j2 = i := by omega
        exact ⟨true, true, rfl, rfl, _, rfl, h _ (sI.act b LA hm1)⟩
      · refine ⟨_, rfl, x, L, _, i, mm, rfl, MC, LC, sJ.lv, hm1, fun pt Ht s_t tl => ?_⟩
        rw [ee] at tl
        obtain ⟨pj, hpj, tj⟩ := sJ.sn i _ him
        exact ⟨_, rfl, _, rfl, W, _, ((i : Nat) : Int), .ref pj, rfl, rfl, SqL.of (s_t _ _ sJ.w), atI_nat (by rw [List.getElem?_map, hpj]; rfl), ne_nice (dp_told tl.tells) (dp_told (tj.tells.same s_t)) (lw.nice him) ⟨_, rfl, h _ (sJ.same s_t)⟩⟩
      clear sH
      -- no piles at all
      refine ifs_no (fun H' => St44 T C CL l S x L W ps ms H' (ms.take (i + 1) ++ [m']) i mm) (fun R h => ?_) (fun H29 sL => nx_of ?_)
      · refine ⟨sK.t, fun f0 c0 Hh Gh nh lh => ⟨_, rfl, f0, spLamC (E10 3), rfl, ?_, fun R' E' hR hE => ?_⟩⟩
        · refine act0 (k := 7) (N := []) (fr := []) (sp := spLamC (E10 3)) lh (nscope_by (sc := scL [("LivePile", .globalImplicit)]) (by decide +kernel)) (fun _ _ => rfl) fun A outer s H ws Q E hr hw h => ?_
          obtain ⟨rfl, kE⟩ := h
          refine ⟨_, ClX.pe_cmeth (pe_glob (v := .ref CL) (by rfl) LC.gm rfl) CR CM GR (hr.mono (by decide)) (passes_call (takes_of rfl rfl rfl rfl) fun _ _ _ _ z => z) (pa_cons pe_int (pa_cons (pe_tup (pa_cons pe_str pa_nil)) pa_nil)), ?_⟩
          refine ⟨rfl, by show 1 ≤ sizeLine; decide, fun q hq => ⟨[.ref CL, .int 0], [.ref q], rfl, rfl, by show 1 ≤ sizeLine; decide, fun p hp => ⟨p, 0, [.ref q], [.bad [.str "jump"]], rfl, LC, upd_same, .cons ⟨q, rfl, (same_upd hp) _ _ upd_same, (fun ws e => by cases e; exact .inr ⟨_, _, rfl, by decide +kernel, by decide +kernel⟩)⟩ .nil, by decide, (fun hn => absurd hn.1 (by decide)), fun _ H' s' => kE H' (((same_upd hq).trans (same_upd hp)).trans s')⟩⟩⟩
        · have sth := sK.grow Gh
          refine ⟨rfl, fun H' s' => hE _ _ _ ⟨3, rfl, .inl ⟨rfl, rfl, fun p H2 s2 ep => ?_⟩⟩⟩
          refine ⟨by show 1 ≤ sizeLine; decide, fun t2 ht2 => ?_⟩
          have s3 := same_upd (o := .tup [.str "number"]) ht2
          refine ne_nice (.tup (SqT.of (s3 _ _ ep)) (.cons (.str _) .nil)) (.tup (SqT.of upd_same) (.cons (.str _) .nil)) ((nice_tup (n := 0) fun d hd => ?_).mono (by decide)) ⟨_, rfl, h _ (((sth.same s').same s2).same s3)⟩
          rw [List.mem_singleton.mp hd]
          exact nice_str (by decide +kernel)
      clear sK
      -- the first operation
      obtain ⟨mk, hmk⟩ : ∃ mk, ms[k]? = some mk := ⟨_, List.getElem?_eq_getElem (by omega)⟩
      obtain ⟨m1, hm1'⟩ : ∃ m1, ms[1]? = some m1 := ⟨_, List.getElem?_eq_getElem (by omega)⟩
      obtain ⟨o1, r1, eo1, es1, so1⟩ := lw.st 0 _ _ lw.z hm1'
      obtain ⟨pk, hpk, tk⟩ := sL.sn k _ hmk
      obtain ⟨ls, ld, lh, us1, gs1, hs1, _, a1, a2, a3, a4, a5, a6, a7⟩ := tk
      have h0 : (his ms k)[0]? = some (some o1) := by
        rw [List.getElem?_map, effect_at (by omega), hm1']
        show some m1.op = _
        rw [eo1]
      obtain ⟨q1, hq1, eq1⟩ : ∃ q1, hs1[0]? = some (.ref q1) ∧ H29 q1 = some (.tup (opVs (some o1))) := by
        have l0 : 0 < hs1.length := by rw [pair_len a7]; exact (List.getElem?_eq_some_iff.mp h0).1
        obtain ⟨z, hz, q, eq, hq⟩ := pair_get a7 (List.getElem?_eq_getElem l0)
        rw [h0] at hz
        cases hz
        exact ⟨q, by rw [← eq]; exact List.getElem?_eq_getElem l0, hq⟩
      have hlast : (ps.map V.ref)[(ps.map V.ref).length - 1]? = some (.ref pk) := by
        rw [lps, Nat.add_sub_cancel, List.getElem?_map, hpk]
        rfl
      refine ⟨_, rfl, _, rfl, W, _, -1, .ref pk, rfl, rfl, SqL.of sL.w, atI_m1 (by rw [lps]; omega) hlast, pk, _, 4, .ref lh, rfl, rfl, SqL.of a1, atI_nat (j := 4) rfl, lh, hs1, 0, .ref q1, rfl, rfl, SqL.of a6, atI_nat (j := 0) hq1, name_of ?_⟩
      -- replayed
      have run1 : runM (mo0 2) [o1] = .ok ([m1], [r1]) := by rw [runM_cons, es1]; rfl
      refine ⟨rfl, _, rfl, [.ref CL, .int 2], [.ref q1], rfl, rfl, by show 1 ≤ sizeLine; decide, fun pz hpz => ⟨pz, 2, [.ref q1], [.op o1], rfl, LC, upd_same, .cons ⟨q1, rfl, (same_upd hpz) _ _ eq1, (fun ws e => by cases e)⟩ .nil, by decide, fun _ => ⟨by show 1 + 1 ≤ 900; decide, (fun o h => by cases (List.mem_singleton.mp h); exact so1), [o1], [m1], [r1], rfl, run1, fun y3 L3 Hb sb hy hL3 LAy0 => ?_⟩, fun hn => absurd (show (1 : Int) ≤ 2 ∧ (2 : Int) ≤ 9 by decide) hn⟩⟩
      have LAy : LiveAt C CL Hb y3 L3 [mo0 2, m1] 1 := by
        have := (show LiveAt C CL Hb y3 L3 (nextMs [mo0 2] 0 [m1]) 1 from LAy0)
        rwa [show nextMs [mo0 2] 0 [m1] = [mo0 2, m1] from by unfold nextMs; rw [if_neg (by simp)]; rfl] at this
      have sM := (sL.same (same_upd (o := .tup [.ref q1]) hpz)).same sb
      refine ⟨y3, L3, _, 1, m1, rfl, MC, LC, LAy, rfl, fun pt Ht s_t tl => ?_⟩
      have e1 : effect ms 1 = [m1] := by
        have : (effect ms 1)[0]? = some m1 := by rw [effect_at (by omega)]; exact hm1'
        have l1 : (effect ms 1).length = 1 := effect_len (by omega)
        match h : effect ms 1, this, l1 with
        | [z], this, _ => cases this; rfl
      have tl2 := tl.tells
      rw [show effect [mo0 2, m1] 1 = effect ms 1 by rw [e1]; rfl] at tl2
      obtain ⟨pj, hpj, tj⟩ := sM.sn 1 _ hm1'
      exact ⟨_, rfl, W, _, 1, .ref pj, rfl, rfl, SqL.of (s_t _ _ sM.w), atI_nat (j := 1) (by rw [List.getElem?_map, hpj]; rfl), eq_nice (dp_told tl2) (dp_told (tj.tells.same s_t)) (lw.nice hm1') (kk _)⟩
end
end Lv
set_option Elab.async false
set_option linter.all false
set_option maxRecDepth 100000
set_option maxHeartbeats 4000000
/-! The head's facts of k44. -/
namespace Lv
open PySem L2 Sho NdefX He Shh Shg Sh1 Sh4
abbrev dm (C m qual : Str) (st : Stmt) : Dn := ⟨fun K => ma K (ga K C) m, m, qual, st, fun _ => []⟩
abbrev dp (C m qual : Str) (st : Stmt) : Dn := ⟨fun K => getA K (ga K C) m, m, qual, st, fun _ => []⟩
abbrev dr (C m qual : Str) (st : Stmt) : Dn := ⟨fun K => He5.wf K (ga K C) "classmethod" m, m, qual, st, fun _ => []⟩
abbrev dnE (x : Str) (qual : Str) (st : Stmt) : Dn := ⟨fun K => eInit K x, "__init__", qual, st, fun K => [(("__class__" : Str), cellA K (eInit K x))]⟩
def nintB (K : Shh.Fr) (D : Addr) (x : Str) (i : Int) : Bool := match PySem.W.nsIn K D x with
  | some (some (.int j _)) => decide (j = i)
  | _ => false
theorem nintB_ok {K : Shh.Fr} {D : Addr} {x : Str} {i : Int} (c : nintB K D x i = true) : ∃ t, PySem.W.nsIn K D x = some (some (.int i t)) := by
  unfold nintB at c
  split at c
  · rename_i j t e
    rw [of_decide_eq_true c] at e
    exact ⟨t, e⟩
  · cases c
theorem sblt {mg : Str → Option Value} (B : Shg.Blt mg) (k : ∀ x, x ∈ bltNames → mg x = none) : Sh1.Blt mg := ⟨k _ (by simp), k _ (by simp), k _ (by simp), k _ (by simp), k _ (by simp), k _ (by simp), k _ (by simp), k _ (by simp), k _ (by simp), k _ (by simp), k _ (by simp)⟩
theorem funK1 {K : Shh.Fr} {x qual : Str} {st : Stmt} {f : Addr} (F : FunF K x qual st [] f) : FunK1 K x qual st f := by
  obtain ⟨oc, od, doc, pm, an, ct, osl, lk, hcd⟩ := F.ex
  exact ⟨oc, od, doc, pm, an, _, ct, osl, lk, hcd⟩
theorem errC_unk {K : Shh.Fr} {mg : Str → Option Value} {P : Program} (E : ErrF "/claim/cut.py" K "UnknownGuest" "name") (D : FunF K "__init__" "UnknownGuest.__init__" sUnkInit [(("__class__" : Str), cellA K (eInit K "UnknownGuest"))] (eInit K "UnknownGuest")) (hf : P.main.file = "/claim/cut.py") (sup : mg "super" = none)
    (h2 : (P.main.scope.names.lookup ("super" : Str)).isSome = false) (gm : mg "UnknownGuest" = some (.ref (ga K "UnknownGuest"))) : ErrC P K mg "UnknownGuest" "name" nfUnk (ga K "UnknownGuest") :=
  ⟨⟨_, _, _, err_txt E D hf sup ⟨_, rfl, rfl⟩ h2 (by decide +kernel) (by decide +kernel) (by decide +kernel), E.ini, E.ity⟩, E.sup, E.xf, E.no, gm, E.exm⟩
theorem errC_opn {K : Shh.Fr} {mg : Str → Option Value} {P : Program} (E : ErrF "/claim/cut.py" K "InvalidOperation" "index") (D : FunF K "__init__" "InvalidOperation.__init__" sInvalidOperation_Init [(("__class__" : Str), cellA K (eInit K "InvalidOperation"))] (eInit K "InvalidOperation")) (hf : P.main.file = "/claim/cut.py") (sup : mg "super" = none)
    (h2 : (P.main.scope.names.lookup ("super" : Str)).isSome = false) (gm : mg "InvalidOperation" = some (.ref (ga K "InvalidOperation"))) : ErrC P K mg "InvalidOperation" "index" nfOpn (ga K "InvalidOperation") :=
  ⟨⟨_, _, _, err_txt E D hf sup ⟨_, rfl, rfl⟩ h2 (by decide +kernel) (by decide +kernel) (by decide +kernel), E.ini, E.ity⟩, E.sup, E.xf, E.no, gm, E.exm⟩
abbrev glo44 : List Str := "PartyError" :: "DaybookError" :: "DecodeError" :: "InvalidName" :: "InvalidNumber" :: "InvalidOperation" :: "InvalidStay" :: "InvalidText" :: "TooEarly" :: "TooWide" :: "UnknownGuest" :: "Moment" :: "LivePile" :: "ACTIONS" :: "ITEM_COUNTS" :: "is_name" :: "is_within" :: "check_pile_count" :: "_is_there" :: "_with_pile" :: "_after_come" :: "_place_of" :: "_after_go" :: "_after_wait" :: "_check_operations" :: "_after" :: "_law_mix" :: "_law_next" :: "_law_alike" :: "_law_outcome" :: "_law_told" :: "_law_deed" :: "law" :: []
abbrev keep44 : List Str := ["is_name", "is_within", "check_pile_count", "_is_there", "_with_pile", "_after_come", "_place_of", "_after_go", "_after_wait", "_check_operations", "_after", "_law_mix", "_law_next", "_law_alike", "_law_outcome", "_law_told", "_law_deed", "law"]
def fn44 : List Dn := [Sh4.dn "is_name" sIsName, Sh4.dn "is_within" sIsWithin, Sh4.dn "check_pile_count" sCheckPileCount, Sh4.dn "_is_there" sIsThere, Sh4.dn "_with_pile" sWithPile, Sh4.dn "_after_come" sAfterCome, Sh4.dn "_place_of" sPlaceOf, Sh4.dn "_after_go" sAfterGo, Sh4.dn "_after_wait" sAfterWait, Sh4.dn "_check_operations" sCheckOperations, Sh4.dn "_after" sAfter, Sh4.dn "_law_mix" sLawMix, Sh4.dn "_law_next" sLawNext, Sh4.dn "_law_alike" sLawAlike, Sh4.dn "_law_outcome" sOut, Sh4.dn "_law_told" sLawTold, Sh4.dn "_law_deed" sLawDeed, Sh4.dn "law" sLaw, dnE "UnknownGuest" "UnknownGuest.__init__" sUnkInit, dnE "InvalidOperation" "InvalidOperation.__init__" sInvalidOperation_Init, dm "Moment" "__init__" "Moment.__init__" sMoment_Init, dm "LivePile" "apply" "LivePile.apply" sLivePile_Apply, dm "LivePile" "_moment" "LivePile._moment" sLivePile_Moment, dm "LivePile" "_moments_in_effect" "LivePile._moments_in_effect" sLivePile_MomentsInEffect, dm "LivePile" "wait" "LivePile.wait" sLivePile_Wait, dm "LivePile" "undo" "LivePile.undo" sLivePile_Undo, dm "LivePile" "redo" "LivePile.redo" sLivePile_Redo, dp "LivePile" "now" "LivePile.now" sLivePile_Now, dp "LivePile" "lifted_pairs" "LivePile.lifted_pairs" sLivePile_LiftedPairs, dp "LivePile" "standing" "LivePile.standing" sLivePile_Standing, dp "LivePile" "departed" "LivePile.departed" sLivePile_Departed, dp "LivePile" "history" "LivePile.history" sLivePile_History, dr "LivePile" "replay" "LivePile.replay" sLivePile_Replay]
def fa44 : List (Shh.Fr → Bool) := [fun K => gloB K glo44, fun K => freeB K bltNames, fun K => keepB K keep44, fun K => (Fa.int "LONGEST_NAME" 8).ok K, fun K => (Fa.int "LAST_TICK" 1000000000).ok K, fun K => (Fa.int "MOST_PILES" 9).ok K, fun K => tenB K, fun K => errB "/claim/cut.py" K "UnknownGuest" "name", fun K => errB "/claim/cut.py" K "InvalidOperation" "index", fun K => ["InvalidName", "InvalidNumber", "TooEarly"].all fun x => ernB K x, fun K => (Fa.cls "Moment").ok K, fun K => ["operation", "tick", "lying", "lifted", "ended"].all fun x => (Fa.noat "Moment" x).ok K, fun K => (Fa.mkr "Moment").ok K, fun K => PySem.W.keepIn K (.ref (ma K (ga K "Moment") "__init__")), fun K => (Fa.cls "LivePile").ok K, fun K => ["_moments", "_present"].all fun x => (Fa.noat "LivePile" x).ok K, fun K => (Fa.mkr "LivePile").ok K, fun K => ["_moment", "_moments_in_effect", "wait", "undo", "redo", "apply"].all fun x => (Fa.meth "LivePile" x).ok K, fun K => ["now", "lifted_pairs", "standing", "departed", "history"].all fun x => propB K (ga K "LivePile") x && PySem.W.keepIn K (.ref (getA K (ga K "LivePile") x)), fun K => eqO (PySem.W.nsIn K (ga K "ACTIONS") "come") (some (some (.ref (ga K "_after_come")))) && (eqO (PySem.W.nsIn K (ga K "ACTIONS") "go") (some (some (.ref (ga K "_after_go")))) && eqO (PySem.W.nsIn K (ga K "ACTIONS") "wait") (some (some (.ref (ga K "_after_wait"))))), fun K => nintB K (ga K "ITEM_COUNTS") "come" 3 && (nintB K (ga K "ITEM_COUNTS") "go" 2 && (nintB K (ga K "ITEM_COUNTS") "wait" 2 && (eqO (PySem.W.nsIn K (ga K "ITEM_COUNTS") "jump") (some none) && eqO (PySem.W.nsIn K (ga K "ITEM_COUNTS") "undo") (some none)))), fun K => He5.wrapB K (ga K "LivePile") "classmethod" "classmethod.__get__" "replay" && PySem.W.fnIn K (He5.wf K (ga K "LivePile") "classmethod" "replay"), fun K => PySem.W.readsIn K (ga K "LivePile") (.type "type") && eqO (PySem.W.specialIn K (.ref (ga K "LivePile")) "__getattribute__") (some (some (.builtin "type.__getattribute__"))), fun K => eqO (PySem.W.specialIn K (.ref (ma K (ga K "LivePile") "apply")) "__get__") (some (some (.builtin "function.__get__"))) && (decide (PySem.W.takesIn K (.ref (ma K (ga K "LivePile") "apply")) = some false) && PySem.W.fnIn K (ma K (ga K "LivePile") "apply"))]
def tf44 : List (Shh.Fr → Addr) := [fun K => ga K "law"]
abbrev dInit : He5.DefA := { at_ := fun K => ma K (ga K "LivePile") "__init__", name := "__init__", qual := "LivePile.__init__", params := defArgs sLivePile_Init, body := defBody sLivePile_Init, scope := defScope sLivePile_Init, kwd := [("piles", .int 1)] }
def ds44 : List He5.DefA := [dInit]
def ts44 : List Tab := [(fun K => ga K "ACTIONS", ["come", "go", "wait"]), (fun K => ga K "ITEM_COUNTS", ["come", "go", "wait"])]
abbrev T44 (K : Shh.Fr) : List (Addr × Str) := [(Sh4.tabA K "law", qLam44)]
abbrev cs44 (K : Shh.Fr) : List (Addr × Addr) := [(codeA K (ga K "law"), Sh4.tabA K "law")]
theorem facts44 {P : Program} {w : World} {K : Shh.Fr} {h : Heap} {mg : Str → Option Value} (X : K.In h) (G : h.Ns mainGlobals mg) (c0 : SaysX fa44 fn44 tf44 ds44 ts44 w h K) (hf : P.main.file = "/claim/cut.py") (hs : (P.main.scope.names.lookup ("super" : Str)).isSome = false) :
    ∃ fd : FuncData, (∀ (s : Shared) (v : Value), BindsTo s fd ⟨[v], []⟩ [("_law_script", v)]) ∧ ∀ base : Heap, (∀ p ∈ cs44 K, LamX.TabB base mg p.1 p.2) → FnOk P w K mg base (L2.CX P w) 11 (ga K "law") fd ["_law_script"] (spLaw44 K (T44 K)) := by
  have c := c0.s
  have B := blt_ok X G (c.fact 1)
  have B1 : Sh1.Blt mg := sblt B fun x hx => freeB_ok X G (c.fact 1) hx
  have g : ∀ x, x ∈ glo44 → mg x = some (.ref (ga K x)) := fun x hx => gloB_ok X G (c.fact 0) hx
  have kp : ∀ x, x ∈ keep44 → PySem.W.keepIn K (.ref (ga K x)) = true := fun x hx => keepB_ok (c.fact 2) hx
  obtain ⟨t8, g8⟩ := int_ok X G (x := "LONGEST_NAME") (i := 8) (c.fact 3)
  obtain ⟨t9, g9⟩ := int_ok X G (x := "LAST_TICK") (i := 1000000000) (c.fact 4)
  obtain ⟨tp, gp⟩ := int_ok X G (x := "MOST_PILES") (i := 9) (c.fact 5)
  have EE : Ten K mg (ga K "PartyError") (eA K) := tenB_ok (fun x hx => g x (by
    simp at hx
    rcases hx with rfl | rfl | rfl | rfl | rfl | rfl | rfl | rfl | rfl | rfl | rfl <;> simp)) (c.fact 6)
  have EU := errB_ok (K := K) (file := "/claim/cut.py") (x := "UnknownGuest") (fld := "name") (c.fact 7)
  have EO := errB_ok (K := K) (file := "/claim/cut.py") (x := "InvalidOperation") (fld := "index") (c.fact 8)
  have erA : ((["InvalidName", "InvalidNumber", "TooEarly"] : List Str).all fun x => ernB K x) = true := c.fact 9
  have er : ∀ x, x ∈ (["InvalidName", "InvalidNumber", "TooEarly"] : List Str) → ernB K x = true := fun x hx => List.all_eq_true.mp erA x hx
  have EN : ErrN4 K mg "InvalidName" (eA K 2) := ernB_ok (g "InvalidName" (by simp)) (er "InvalidName" (by simp))
  have EB : ErrN4 K mg "InvalidNumber" (eA K 3) := ernB_ok (g "InvalidNumber" (by simp)) (er "InvalidNumber" (by simp))
  have EY : ErrN4 K mg "TooEarly" (eA K 7) := ernB_ok (g "TooEarly" (by simp)) (er "TooEarly" (by simp))
  have ECU : ErrC P K mg "UnknownGuest" "name" nfUnk (eA K 9) := errC_unk EU (c.def_ 18 (d := dnE "UnknownGuest" "UnknownGuest.__init__" sUnkInit)) hf B.sup hs (g "UnknownGuest" (by simp))
  have ECO : ErrC P K mg "InvalidOperation" "index" nfOpn (eA K 4) := errC_opn EO (c.def_ 19 (d := dnE "InvalidOperation" "InvalidOperation.__init__" sInvalidOperation_Init)) hf B.sup hs (g "InvalidOperation" (by simp))
  have mnA : ((["operation", "tick", "lying", "lifted", "ended"] : List Str).all fun x => (Fa.noat "Moment" x).ok K) = true := c.fact 11
  have mn : ∀ x, x ∈ (["operation", "tick", "lying", "lifted", "ended"] : List Str) → NoAttr K (ga K "Moment") x := fun x hx => noat_ok (List.all_eq_true.mp mnA x hx)
  have MC : MomC K mg (ga K "Moment") (ma K (ga K "Moment") "__init__") := ⟨g "Moment" (by simp), cls_ok (c.fact 10), mn _ (by simp), mn _ (by simp), mn _ (by simp), mn _ (by simp), mn _ (by simp), mkr_ok (c.fact 12)⟩
  have lnA : ((["_moments", "_present"] : List Str).all fun x => (Fa.noat "LivePile" x).ok K) = true := c.fact 15
  have ln : ∀ x, x ∈ (["_moments", "_present"] : List Str) → NoAttr K (ga K "LivePile") x := fun x hx => noat_ok (List.all_eq_true.mp lnA x hx)
  have LC : LivC K mg (ga K "LivePile") (ma K (ga K "LivePile") "__init__") := ⟨g "LivePile" (by simp), cls_ok (c.fact 14), ln _ (by simp), ln _ (by simp), mkr_ok (c.fact 16)⟩
  have lxA : ((["_moment", "_moments_in_effect", "wait", "undo", "redo", "apply"] : List Str).all fun x => (Fa.meth "LivePile" x).ok K) = true := c.fact 17
  have lx : ∀ x, x ∈ (["_moment", "_moments_in_effect", "wait", "undo", "redo", "apply"] : List Str) → Meth K (ga K "LivePile") x (ma K (ga K "LivePile") x) := fun x hx => meth_ok (List.all_eq_true.mp lxA x hx)
  have lpA : ((["now", "lifted_pairs", "standing", "departed", "history"] : List Str).all fun x => propB K (ga K "LivePile") x && PySem.W.keepIn K (.ref (getA K (ga K "LivePile") x))) = true := c.fact 18
  have lp : ∀ x, x ∈ (["now", "lifted_pairs", "standing", "departed", "history"] : List Str) → PropOf K (ga K "LivePile") x (ma K (ga K "LivePile") x) (getA K (ga K "LivePile") x) ∧ PySem.W.keepIn K (.ref (getA K (ga K "LivePile") x)) = true := fun x hx => by
    obtain ⟨p1, p2⟩ := ba (List.all_eq_true.mp lpA x hx)
    exact ⟨propB_ok p1, p2⟩
  have OD : OpsD K mg w (ga K "ACTIONS") (ga K "ITEM_COUNTS") (ga K "_after_come") (ga K "_after_go") (ga K "_after_wait") := by
    obtain ⟨a1, a⟩ := ba (c.fact 19)
    obtain ⟨a2, a3⟩ := ba a
    obtain ⟨i1, i⟩ := ba (c.fact 20)
    obtain ⟨i2, i⟩ := ba i
    obtain ⟨i3, i⟩ := ba i
    obtain ⟨i4, i5⟩ := ba i
    exact ⟨g "ACTIONS" (by simp), g "ITEM_COUNTS" (by simp), c0.tab 0, c0.tab 1, eqO_ok a1, eqO_ok a2, eqO_ok a3, nintB_ok i1, nintB_ok i2, nintB_ok i3, eqO_ok i4, eqO_ok i5⟩
  obtain ⟨fd_0, F_0, b_0, _⟩ := FunF.funW (c.def_ 0 (d := Sh4.dn "is_name" sIsName)) (kp "is_name" (by simp))
  have b_0 := b_0 ["word"] (fun _ _ _ _ _ _ us hl => match us, hl with | [_], _ => rfl)
  have m_0 := g "is_name" (by simp)
  have k_0 := kp "is_name" (by simp)
  obtain ⟨fd_1, F_1, b_1, _⟩ := FunF.funW (c.def_ 1 (d := Sh4.dn "is_within" sIsWithin)) (kp "is_within" (by simp))
  have b_1 := b_1 ["number", "low", "high"] (fun _ _ _ _ _ _ us hl => match us, hl with | [_, _, _], _ => rfl)
  have m_1 := g "is_within" (by simp)
  have k_1 := kp "is_within" (by simp)
  obtain ⟨fd_2, F_2, b_2, _⟩ := FunF.funW (c.def_ 2 (d := Sh4.dn "check_pile_count" sCheckPileCount)) (kp "check_pile_count" (by simp))
  have b_2 := b_2 ["count"] (fun _ _ _ _ _ _ us hl => match us, hl with | [_], _ => rfl)
  have m_2 := g "check_pile_count" (by simp)
  have k_2 := kp "check_pile_count" (by simp)
  obtain ⟨fd_3, F_3, b_3, _⟩ := FunF.funW (c.def_ 3 (d := Sh4.dn "_is_there" sIsThere)) (kp "_is_there" (by simp))
  have b_3 := b_3 ["moment", "name"] (fun _ _ _ _ _ _ us hl => match us, hl with | [_, _], _ => rfl)
  have m_3 := g "_is_there" (by simp)
  have k_3 := kp "_is_there" (by simp)
  obtain ⟨fd_4, F_4, b_4, _⟩ := FunF.funW (c.def_ 4 (d := Sh4.dn "_with_pile" sWithPile)) (kp "_with_pile" (by simp))
  have b_4 := b_4 ["lying", "number", "pile"] (fun _ _ _ _ _ _ us hl => match us, hl with | [_, _, _], _ => rfl)
  have m_4 := g "_with_pile" (by simp)
  have k_4 := kp "_with_pile" (by simp)
  obtain ⟨fd_5, F_5, b_5, _⟩ := FunF.funW (c.def_ 5 (d := Sh4.dn "_after_come" sAfterCome)) (kp "_after_come" (by simp))
  have b_5 := b_5 ["moment", "name", "number"] (fun _ _ _ _ _ _ us hl => match us, hl with | [_, _, _], _ => rfl)
  have m_5 := g "_after_come" (by simp)
  have k_5 := kp "_after_come" (by simp)
  obtain ⟨fd_6, F_6, b_6, _⟩ := FunF.funW (c.def_ 6 (d := Sh4.dn "_place_of" sPlaceOf)) (kp "_place_of" (by simp))
  have b_6 := b_6 ["moment", "name"] (fun _ _ _ _ _ _ us hl => match us, hl with | [_, _], _ => rfl)
  have m_6 := g "_place_of" (by simp)
  have k_6 := kp "_place_of" (by simp)
  obtain ⟨fd_7, F_7, b_7, _⟩ := FunF.funW (c.def_ 7 (d := Sh4.dn "_after_go" sAfterGo)) (kp "_after_go" (by simp))
  have b_7 := b_7 ["moment", "name"] (fun _ _ _ _ _ _ us hl => match us, hl with | [_, _], _ => rfl)
  have m_7 := g "_after_go" (by simp)
  have k_7 := kp "_after_go" (by simp)
  obtain ⟨fd_8, F_8, b_8, _⟩ := FunF.funW (c.def_ 8 (d := Sh4.dn "_after_wait" sAfterWait)) (kp "_after_wait" (by simp))
  have b_8 := b_8 ["moment", "ticks"] (fun _ _ _ _ _ _ us hl => match us, hl with | [_, _], _ => rfl)
  have m_8 := g "_after_wait" (by simp)
  have k_8 := kp "_after_wait" (by simp)
  obtain ⟨fd_9, F_9, b_9, _⟩ := FunF.funW (c.def_ 9 (d := Sh4.dn "_check_operations" sCheckOperations)) (kp "_check_operations" (by simp))
  have b_9 := b_9 ["operations"] (fun _ _ _ _ _ _ us hl => match us, hl with | [_], _ => rfl)
  have m_9 := g "_check_operations" (by simp)
  have k_9 := kp "_check_operations" (by simp)
  obtain ⟨fd_10, F_10, b_10, _⟩ := FunF.funW (c.def_ 10 (d := Sh4.dn "_after" sAfter)) (kp "_after" (by simp))
  have b_10 := b_10 ["moment", "operation"] (fun _ _ _ _ _ _ us hl => match us, hl with | [_, _], _ => rfl)
  have m_10 := g "_after" (by simp)
  have k_10 := kp "_after" (by simp)
  obtain ⟨fd_11, F_11, b_11, _⟩ := FunF.funW (c.def_ 11 (d := Sh4.dn "_law_mix" sLawMix)) (kp "_law_mix" (by simp))
  have b_11 := b_11 ["_law_script", "_law_seed"] (fun _ _ _ _ _ _ us hl => match us, hl with | [_, _], _ => rfl)
  have m_11 := g "_law_mix" (by simp)
  have k_11 := kp "_law_mix" (by simp)
  obtain ⟨fd_12, F_12, b_12, _⟩ := FunF.funW (c.def_ 12 (d := Sh4.dn "_law_next" sLawNext)) (kp "_law_next" (by simp))
  have b_12 := b_12 ["_law_h", "_law_limit"] (fun _ _ _ _ _ _ us hl => match us, hl with | [_, _], _ => rfl)
  have m_12 := g "_law_next" (by simp)
  have k_12 := kp "_law_next" (by simp)
  obtain ⟨fd_13, F_13, b_13, _⟩ := FunF.funW (c.def_ 13 (d := Sh4.dn "_law_alike" sLawAlike)) (kp "_law_alike" (by simp))
  have b_13 := b_13 ["_law_found", nDue] (fun _ _ _ _ _ _ us hl => match us, hl with | [_, _], _ => rfl)
  have m_13 := g "_law_alike" (by simp)
  have k_13 := kp "_law_alike" (by simp)
  obtain ⟨fd_14, F_14, b_14, _⟩ := FunF.funW (c.def_ 14 (d := Sh4.dn "_law_outcome" sOut)) (kp "_law_outcome" (by simp))
  have b_14 := b_14 ["_law_call"] (fun _ _ _ _ _ _ us hl => match us, hl with | [_], _ => rfl)
  have m_14 := g "_law_outcome" (by simp)
  have k_14 := kp "_law_outcome" (by simp)
  obtain ⟨fd_15, F_15, b_15, _⟩ := FunF.funW (c.def_ 15 (d := Sh4.dn "_law_told" sLawTold)) (kp "_law_told" (by simp))
  have b_15 := b_15 ["_law_live"] (fun _ _ _ _ _ _ us hl => match us, hl with | [_], _ => rfl)
  have m_15 := g "_law_told" (by simp)
  have k_15 := kp "_law_told" (by simp)
  obtain ⟨fd_16, F_16, b_16, _⟩ := FunF.funW (c.def_ 16 (d := Sh4.dn "_law_deed" sLawDeed)) (kp "_law_deed" (by simp))
  have b_16 := b_16 ["_law_h", "_law_live"] (fun _ _ _ _ _ _ us hl => match us, hl with | [_, _], _ => rfl)
  have m_16 := g "_law_deed" (by simp)
  have k_16 := kp "_law_deed" (by simp)
  obtain ⟨fdMI, FMI, bMI, _⟩ := FunF.funW (c.def_ 20 (d := dm "Moment" "__init__" "Moment.__init__" sMoment_Init)) (c.fact 13)
  have bMI := bMI ["self", "operation", "tick", "lying", "lifted", "ended"] (fun _ _ _ _ _ _ us hl => match us, hl with | [_, _, _, _, _, _], _ => rfl)
  obtain ⟨fdm0, Fm0, bm0, _⟩ := FunF.funW (c.def_ 22 (d := dm "LivePile" "_moment" "LivePile._moment" sLivePile_Moment)) (lx "_moment" (by simp)).kp
  have bm0 := bm0 ["self"] (fun _ _ _ _ _ _ us hl => match us, hl with | [_], _ => rfl)
  obtain ⟨fdm1, Fm1, bm1, _⟩ := FunF.funW (c.def_ 23 (d := dm "LivePile" "_moments_in_effect" "LivePile._moments_in_effect" sLivePile_MomentsInEffect)) (lx "_moments_in_effect" (by simp)).kp
  have bm1 := bm1 ["self"] (fun _ _ _ _ _ _ us hl => match us, hl with | [_], _ => rfl)
  obtain ⟨fdm2, Fm2, bm2, _⟩ := FunF.funW (c.def_ 24 (d := dm "LivePile" "wait" "LivePile.wait" sLivePile_Wait)) (lx "wait" (by simp)).kp
  have bm2 := bm2 ["self", "ticks"] (fun _ _ _ _ _ _ us hl => match us, hl with | [_, _], _ => rfl)
  obtain ⟨fdm3, Fm3, bm3, _⟩ := FunF.funW (c.def_ 25 (d := dm "LivePile" "undo" "LivePile.undo" sLivePile_Undo)) (lx "undo" (by simp)).kp
  have bm3 := bm3 ["self"] (fun _ _ _ _ _ _ us hl => match us, hl with | [_], _ => rfl)
  obtain ⟨fdm4, Fm4, bm4, _⟩ := FunF.funW (c.def_ 26 (d := dm "LivePile" "redo" "LivePile.redo" sLivePile_Redo)) (lx "redo" (by simp)).kp
  have bm4 := bm4 ["self"] (fun _ _ _ _ _ _ us hl => match us, hl with | [_], _ => rfl)
  obtain ⟨fdp0, Fp0, bp0, _⟩ := FunF.funW (c.def_ 27 (d := dp "LivePile" "now" "LivePile.now" sLivePile_Now)) (lp "now" (by simp)).2
  have bp0 := bp0 ["self"] (fun _ _ _ _ _ _ us hl => match us, hl with | [_], _ => rfl)
  obtain ⟨fdp1, Fp1, bp1, _⟩ := FunF.funW (c.def_ 28 (d := dp "LivePile" "lifted_pairs" "LivePile.lifted_pairs" sLivePile_LiftedPairs)) (lp "lifted_pairs" (by simp)).2
  have bp1 := bp1 ["self"] (fun _ _ _ _ _ _ us hl => match us, hl with | [_], _ => rfl)
  obtain ⟨fdp2, Fp2, bp2, _⟩ := FunF.funW (c.def_ 29 (d := dp "LivePile" "standing" "LivePile.standing" sLivePile_Standing)) (lp "standing" (by simp)).2
  have bp2 := bp2 ["self"] (fun _ _ _ _ _ _ us hl => match us, hl with | [_], _ => rfl)
  obtain ⟨fdp3, Fp3, bp3, _⟩ := FunF.funW (c.def_ 30 (d := dp "LivePile" "departed" "LivePile.departed" sLivePile_Departed)) (lp "departed" (by simp)).2
  have bp3 := bp3 ["self"] (fun _ _ _ _ _ _ us hl => match us, hl with | [_], _ => rfl)
  obtain ⟨fdp4, Fp4, bp4, _⟩ := FunF.funW (c.def_ 31 (d := dp "LivePile" "history" "LivePile.history" sLivePile_History)) (lp "history" (by simp)).2
  have bp4 := bp4 ["self"] (fun _ _ _ _ _ _ us hl => match us, hl with | [_], _ => rfl)
  obtain ⟨fdL, FL, _, bL⟩ := FunF.funL (c.def_ 17 (d := Sh4.dn "law" sLaw))
  obtain ⟨fdI, FI⟩ := c0.def_ 0 (d := dInit)
  refine ⟨fdL, fun s v => bL ["_law_script"] (fun _ _ _ _ _ _ us hl => match us, hl with | [_], _ => rfl) s [v] rfl, fun base hT => ?_⟩
  have TL : LamX.TabB base mg (codeA K (ga K "law")) (Sh4.tabA K "law") := hT (codeA K (ga K "law"), Sh4.tabA K "law") (by simp)
  have uL : ∀ p ∈ T44 K, p.1 = Sh4.tabA K "law" → p.2 = qLam44 := fun p hp e => by
    rw [List.mem_singleton.mp hp]
  have CM : ClX.CMet K (ga K "LivePile") (.type "type") "replay" (ma K (ga K "LivePile") "replay") (He5.wf K (ga K "LivePile") "classmethod" "replay") := by
    obtain ⟨r1, r2⟩ := ba (c.fact 21)
    exact He5.cmet_of r1 r2
  have CR : ClX.CRead K (ga K "LivePile") (.type "type") := by
    obtain ⟨r1, r2⟩ := ba (c.fact 22)
    exact ⟨r1, eqO_ok r2⟩
  have BM : BMeth K (ga K "LivePile") "apply" (ma K (ga K "LivePile") "apply") := by
    obtain ⟨r1, r⟩ := ba (c.fact 23)
    obtain ⟨r2, r3⟩ := ba r
    exact ⟨lx "apply" (by simp), eqO_ok r1, of_decide_eq_true r2, by decide +kernel, r3⟩
  have bI0 : ∃ ds, Vals [.int 1] ds ∧ Binds K fdI ["self", "piles"] ds := FI.binds0 1 (fun z => nomatch z) rfl fun D doc pm an cdv ct us ks h1 h2 => match us, ks, h1, h2 with | [_], [_], _, _ => ⟨_, _, _, _, _, _, rfl, rfl, rfl⟩
  have bIk : ∃ g, KBn K fdI ["self", "piles"] 1 ["piles"] g (fun vs zs => vs ++ zs) := by
    obtain ⟨mv, h⟩ := FI.kbinds0 (ps := ["self", "piles"]) 1 ["piles"] [] (fun us _ ws => us ++ ws) (fun z => nomatch z) (fun q hq => nomatch hq) (fun r _ rz => r.append rz) fun D doc pm an cdv ct us mv ws h1 h2 h3 => match us, mv, ws, h1, h2, h3 with | [_], [], [_], _, _, _ => rfl
    exact ⟨_, h⟩
  have G_0 : FnOk P w K mg base CX0 1 _ _ _ _ := ok_isName F_0 B1 g8
  have G_1 : FnOk P w K mg base CX0 1 _ _ _ _ := ok_isWithin F_1 B
  have G_2 : FnOk P w K mg base (L2.CX P w) 2 _ _ _ _ := ok_count F_2 EB gp G_1 m_1 k_1 b_1
  have GMI : FnOk P w K mg base CX0 1 _ _ NMI (spMoInit K mg (ga K "Moment") (ma K (ga K "Moment") "__init__")) := ok_moInit FMI
  have G_3 : FnOk P w K mg base CX0 1 _ _ _ (spThere K mg (ga K "Moment") (ma K (ga K "Moment") "__init__")) := ok_there F_3 B
  have G_4 : FnOk P w K mg base CX0 1 _ _ _ _ := ok_with F_4
  have G_5 : FnOk P w K mg base (L2.CX P w) 3 _ _ _ (spCome K mg (ga K "Moment") (ma K (ga K "Moment") "__init__") (eA K 2) (eA K 3) (eA K 7) (eA K 9)) := ok_afterCome F_5 B EN EB MC GMI bMI G_0 m_0 k_0 b_0 G_3 m_3 k_3 b_3 G_1 m_1 k_1 b_1 G_4 m_4 k_4 b_4
  have G_6 : FnOk P w K mg base (L2.CX P w) 3 _ _ _ _ := ok_place F_6 B MC ECU
  have G_7 : FnOk P w K mg base (L2.CX P w) 4 _ _ _ (spGo K mg (ga K "Moment") (ma K (ga K "Moment") "__init__") (eA K 2) (eA K 3) (eA K 7) (eA K 9)) := ok_afterGo F_7 B EY MC GMI bMI G_6 m_6 k_6 b_6 G_4 m_4 k_4 b_4
  have G_8 : FnOk P w K mg base (L2.CX P w) 3 _ _ _ (spWait K mg (ga K "Moment") (ma K (ga K "Moment") "__init__") (eA K 2) (eA K 3) (eA K 7) (eA K 9)) := ok_afterWait F_8 B EB g9 MC GMI bMI G_1 m_1 k_1 b_1
  have G_9 : FnOk P w K mg base (L2.CX P w) 3 _ _ _ _ := ok_checkOps F_9 B OD ECO
  have G_10 : FnOk P w K mg base (L2.CX P w) 5 _ _ _ _ := ok_after F_10 OD G_5 k_5 b_5 G_7 k_7 b_7 G_8 k_8 b_8
  have GI : FnOk P w K mg base (L2.CX P w) 4 _ _ ["self", "piles"] (spLInit K mg (ga K "Moment") (ga K "LivePile") (eA K 3) (ma K (ga K "LivePile") "__init__")) := ok_linit FI B MC GMI bMI G_2 m_2 k_2 b_2
  have Gm0 : FnOk P w K mg base CX0 1 _ _ _ (spMom K mg (ga K "Moment") (ga K "LivePile") (ma K (ga K "LivePile") "__init__")) := ok_mom Fm0
  have Gm1 : FnOk P w K mg base CX0 1 _ _ _ (spEff K mg (ga K "Moment") (ga K "LivePile") (ma K (ga K "LivePile") "__init__")) := ok_eff Fm1
  have GP : FnR P w K mg base (L2.CX P w) 6 _ (spApplyR K mg (ga K "Moment") (ga K "LivePile") (ma K (ga K "Moment") "__init__") (ma K (ga K "LivePile") "__init__") (eA K 2) (eA K 3) (eA K 7) (eA K 9) (eA K 4)) := ok_apply (funK1 (c.def_ 21 (d := dm "LivePile" "apply" "LivePile.apply" sLivePile_Apply))) B LC Gm0 (lx "_moment" (by simp)) bm0 G_9 m_9 k_9 b_9 G_10 m_10 k_10 b_10
  have Gp0 : FnOk P w K mg base CX0 2 _ _ _ (spMoF K mg (ga K "Moment") (ga K "LivePile") (ma K (ga K "Moment") "__init__") (ma K (ga K "LivePile") "__init__") fun m => .int m.tick) := ok_now Fp0 LC Gm0 (lx "_moment" (by simp)) bm0
  have Gp1 : FnOk P w K mg base CX0 2 _ _ _ (spMoF K mg (ga K "Moment") (ga K "LivePile") (ma K (ga K "Moment") "__init__") (ma K (ga K "LivePile") "__init__") fun m => .int m.lifted) := ok_liftedP Fp1 LC Gm0 (lx "_moment" (by simp)) bm0
  have Gp2 : FnOk P w K mg base CX0 2 _ _ _ (spStand K mg (ga K "Moment") (ga K "LivePile") (ma K (ga K "Moment") "__init__") (ma K (ga K "LivePile") "__init__")) := ok_stand Fp2 B LC Gm0 (lx "_moment" (by simp)) bm0
  have Gp3 : FnOk P w K mg base CX0 2 _ _ _ (spDep K mg (ga K "Moment") (ga K "LivePile") (ma K (ga K "Moment") "__init__") (ma K (ga K "LivePile") "__init__")) := ok_dep Fp3 LC Gm1 (lx "_moments_in_effect" (by simp)) bm1
  have Gp4 : FnOk P w K mg base CX0 2 _ _ _ (spHis K mg (ga K "Moment") (ga K "LivePile") (ma K (ga K "Moment") "__init__") (ma K (ga K "LivePile") "__init__")) := ok_his Fp4 LC Gm1 (lx "_moments_in_effect" (by simp)) bm1
  have G_12 : FnOk P w K mg base CX0 1 _ _ _ _ := ok_next F_12 B
  obtain ⟨gk, bIk⟩ := bIk
  have GR : FnR P w K mg base (L2.CX P w) 7 _ (spReplayR K mg (ga K "Moment") (ga K "LivePile") (ma K (ga K "LivePile") "__init__") (eA K 3)) := ok_replay (funK1 (c.def_ 32 (d := dr "LivePile" "replay" "LivePile.replay" sLivePile_Replay))) LC GI bIk GP BM
  exact ok_law44 (E10 := eA K) (P0 := ga K "PartyError") FL ⟨B, EE, MC, LC, ⟨_, _, ok_mix F_11 B, m_11, k_11, b_11⟩, ⟨_, _, G_12, m_12, k_12, b_12⟩, ⟨_, _, ok_alike F_13 B m_13 b_13, m_13, k_13, b_13⟩, ⟨_, _, F_14, m_14, k_14, b_14⟩,
    ⟨_, _, ok_told F_15 LC Gp0 (lp "now" (by simp)).1 bp0 Gp1 (lp "lifted_pairs" (by simp)).1 bp1 Gp2 (lp "standing" (by simp)).1 bp2 Gp3 (lp "departed" (by simp)).1 bp3 Gp4 (lp "history" (by simp)).1 bp4, m_15, k_15, b_15⟩,
    ⟨_, _, ok_deed F_16 B LC G_12 m_12 k_12 b_12 Gp2 (lp "standing" (by simp)).1 bp2 Gp4 (lp "history" (by simp)).1 bp4, m_16, k_16, b_16⟩,
    ⟨_, GP, (lx "apply" (by simp))⟩, ⟨_, _, ok_undo Fm3, (lx "undo" (by simp)), bm3⟩, ⟨_, _, ok_redo Fm4 B, (lx "redo" (by simp)), bm4⟩, ⟨_, _, ok_lwait Fm2 LC GP (lx "apply" (by simp)), (lx "wait" (by simp)), bm2⟩,
    ⟨_, GI, ⟨gk, bIk⟩⟩, ⟨_, _, _, Gp4, (lp "history" (by simp)).1, bp4⟩, ⟨_, _, GR, CM⟩, CR⟩ TL (by simp) uL
end Lv
set_option Elab.async false
set_option linter.all false
set_option maxRecDepth 100000
set_option maxHeartbeats 0
namespace Lv
open PySem PySem.Spec PyProof.Rows L2 Sho He Shh Sh4
abbrev R44 : PySem.W.OpenRow := PySem.W.OpenLaw.row PySem.Challenge.rw_shoepile_k44_whole_operations_reverted
abbrev hk44 : PySem.W.Hook := hookX 6 fa44 fn44 tf44 ds44 ts44
def ob44 (s : PySem.W.SharedT) : Shh.AlX := obsX 6 fa44 fn44 tf44 ds44 ts44 (HandSHeadRun.getT s)
theorem ob44_eq (s : PySem.W.SharedT) : ob44 s = hk44.obs s.abs := obsX_eq (HandSHeadRun.getT_eq s)
def looseA : List Str := ["PartyError", "InvalidStay", "UnknownGuest", "InvalidNumber", "InvalidName", "TooEarly", "InvalidOperation", "InvalidText", "TooWide", "DaybookError", "DecodeError", "LAST_TICK", "LONGEST_NAME", "is_name", "is_within", "MOST_PILES", "check_pile_count"]
def looseB : List Str := ["Moment", "_is_there", "_with_pile", "_after_come", "_place_of", "_after_go", "_after_wait", "ACTIONS", "ITEM_COUNTS", "_check_operations", "_after", "LivePile", "_law_mix", "_law_next", "_law_alike", "_law_outcome", "_law_told", "_law_deed"]
def loose44 : List Str := looseA ++ looseB
theorem run44f (w : World) : HandSHeadRun.RunEq R44 (PySem.W.view R44.prog [40]) hk44 ob44 20000 loose44 (w.withFollow "special-get-raises" false) := by
  intro os
  kernel_rfl
theorem run44t (w : World) : HandSHeadRun.RunEq R44 (PySem.W.view R44.prog [40]) hk44 ob44 20000 loose44 (w.withFollow "special-get-raises" true) := by
  intro os
  kernel_rfl
theorem run44 (w : World) : HandSHeadRun.RunEq R44 (PySem.W.view R44.prog [40]) hk44 ob44 20000 loose44 w := by
  have h : ∀ b : Bool, HandSHeadRun.RunEq R44 (PySem.W.view R44.prog [40]) hk44 ob44 20000 loose44 (w.withFollow "special-get-raises" b) := fun b => by
    cases b
    · exact run44f w
    · exact run44t w
  have := h (w.params.followText "special-get-raises")
  rwa [World.withFollow_self] at this
theorem at44 {w : World} {K : Shh.Fr} {h : Heap} {mg : Str → Option Value} {fa : Addr} (KX : K.In h) (G : h.Ns mainGlobals mg) (c : SaysX fa44 fn44 tf44 ds44 ts44 w h K) (hmg : mg "law" = some (.ref fa)) :
    LamX.LawAtS PySem.Challenge.rw_shoepile_k44_whole_operations_reverted w K (L2.CX PySem.Challenge.rw_shoepile_k44_whole_operations_reverted.prog w) 11 63 "_law_script" mg fa h := by
  obtain ⟨fd, hb, hF⟩ := facts44 (P := PySem.Challenge.rw_shoepile_k44_whole_operations_reverted.prog) (w := w) KX G c rfl (by decide +kernel)
  have e : fa = ga K "law" := by
    have q := hmg.symm.trans (gloB_ok KX G (xs := glo44) (c.s.fact 0) (x := "law") (by simp))
    injection q with q
    injection q
  subst e
  have t0 : (fun K => ga K "law") ∈ tf44 := List.mem_cons_self
  refine ⟨fd, cs44 K, spLaw44 K (T44 K), ?_, ?_, ?_, hb, fun H a ns hl _ ht hS => ?_, fun base _ _ hT => hF base hT⟩
  · exact fun p hp => by rw [List.mem_singleton.mp hp]; exact c.s.empty _ t0
  · exact fun p hp => by rw [List.mem_singleton.mp hp]; exact c.s.out _ t0
  · exact fun p hp => by rw [List.mem_singleton.mp hp]; exact PySem.W.codeHd_of_K KX (c.s.hd _ t0)
  · refine ⟨a, ns, rfl, hS, hl, ?_, fun _ => rfl⟩
    intro p hp
    rw [List.mem_singleton.mp hp]
    exact LamX.TabS.nil (ht _ List.mem_cons_self)
end Lv
open PySem PySem.W PySem.Calls PyProof.Rows
theorem PySem.Challenge.cw_shoepile_k44_whole_operations_reverted_holds : PySem.Challenge.rw_shoepile_k44_whole_operations_reverted.Holds := by
  w_on; o_law
  refine HandSHeadRun.head_any (r := OpenLaw.row PySem.Challenge.rw_shoepile_k44_whole_operations_reverted) (q := view (OpenLaw.row PySem.Challenge.rw_shoepile_k44_whole_operations_reverted).prog [40]) (H := Lv.hk44) (ob := Lv.ob44) (M := 20000) (loose := Lv.loose44) (d := HandSHeadRun.topDef (OpenLaw.row PySem.Challenge.rw_shoepile_k44_whole_operations_reverted).prog 40) (kwd := []) Lv.ob44_eq
    (by kernel_rfl) (fun s => by kernel_rfl) Lv.run44 (by kernel_rfl) (by kernel_rfl) (by kernel_rfl) (by rfl) (by first | assumption | decide +kernel) (by decide +kernel) ⟨rfl, rfl, rfl, rfl, rfl, by decide +kernel⟩ ?hw ?hc
  case hw => w_witness2
  case hc =>
    refine LamX.walk_ofTsE (l := PySem.Challenge.rw_shoepile_k44_whole_operations_reverted) (n := 63) (k := 11) (x := "_law_script") (CX := fun w => L2.CX PySem.Challenge.rw_shoepile_k44_whole_operations_reverted.prog w) rfl (by decide) (by kernel_rfl) ⟨rfl, by decide, by decide⟩ ?F ?hCX
    case hCX =>
      rintro w H s e s' ⟨a, B, H', cls, d, _, _, _, _, _, _, _, z⟩
      exact z
    case F =>
      intro w mg fa h Y G hmg0
      obtain ⟨K, KX, c⟩ := Y
      have hmg : mg ("law" : PySem.Str) = some (.ref fa) := by
        have e : (HandSHeadRun.topDef (OpenLaw.row PySem.Challenge.rw_shoepile_k44_whole_operations_reverted).prog 40).name = ("law" : PySem.Str) := by kernel_rfl
        rw [← e]
        exact hmg0
      exact ⟨K, KX, Lv.at44 KX G c hmg⟩
