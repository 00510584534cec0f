import PyProof.Rows.All
import Wide.All
import OpenK.AllK
import Wide.FinOn
import KE.KStateDown
import HandS.ForExc
import HandS.Defaults
import HandS.Head0
import HandS.Head1
import HandS.Head2
import HandS.HeadHook1
import HandS.HeadHook2
import HandS.HeadHook3
import HandS.HeadHook4
import HandS.HeadNt
import HandS.HeadWalk
import HandS.EndTab
import HandS.Star
import HandS.Property
import HandS.ExcField
import KE.KExcLine
import KE.KSuper
import HandS.ForMost
import HandS.FStr
import HandS.ExcInit
import HandS.ExcOwn
import HandS.Nested
import HandS.MakeKwOnly
import HandS.Walk
import HandS.More
import HandS.Lambda
import HandS.TryMany
import HandS.TupAny
import HandS.IsInst
import HandS.ClsMeth
import HandS.DeepEq
import HandS.Words
import KE.KExcIs
import HandS.SetFor
import HandS.ExcIs
import HandS.RaiseMore
import KE.GoesMore
import PyProof.EnumMake
import PyProof.EnumFor
import PyProof.Draws
import HandS.Small
import KE.KTupTruth
import OpenK.KOps
import HandS.Text
import HandS.TryOnly
import HandS.SortKw
import HandS.List
import KE.DatumOrd
import PyProof.StrOps2
import PyProof.FString3
import KE.KxField
import KE.KSortKeySt
import HandS.Deep
import HandS.Style
import PyProof.InstNe
import KE.KFmtOwn
import PySem.Challenge.RW_shoepile_k46_whole_texts_and_charts
set_option Elab.async false
set_option linter.all false
set_option maxRecDepth 100000
set_option maxHeartbeats 4000000
/-! Own errors over ValueError: made with keywords, their __init__ with super(). -/
namespace ShX
open PySem PySem.W PySem.HandSPX
open Builtin Builtin.ObjectAttr
section
variable {M : Model} {prog : Program} {w : World} {A : Around} {E : Value → Shared → Prop} {R : Result → Shared → Prop}
variable {h : Heap} {g : Array GenState} {d : Drawn} {t : Nat} {os : OsState}
variable {nm q : Str} {C N : Addr} {bs bm bmB : List Value} {hdct : Bool} {sn : List Str} {sub : List Value} {ab : Bool} {col : Option Bool} {dd : Option Addr} {k0 k1 k2 k3 k5 : Option Value} {B newId initId : String}

theorem chk_new (F : ExcBaseFacts B newId initId bmB) (hT : ∀ X : String, bm.contains (.type X) = bmB.contains (.type X)) {kw : List (Str × Value)} {Q : Unit → Shared → Prop}
    (hC : h.get? C = some (excClassObj nm q C N bs bm hdct sn sub ab col dd k0 k1 k2 k3 k5 newId)) (hq : Q () ⟨h, g, d, t, os⟩) :
    wpAny M A (checkBuiltinCall newId ⟨[.ref C], kw⟩) Q E ⟨h, g, d, t, os⟩ := by
  have has : (Value.ref C :: bm).contains (.type B) = true := by rw [List.contains_cons, hT, F.hasB, Bool.or_true]
  have star := F.noStar
  simp only [checkBuiltinCall, F.newKind, F.newSplit, F.newRow]
  repeat (first
    | refine wpAny_loadPart_at hC ?_
    | (refine wpAny_isSubtype_exc hC ?_; rw [has])
    | refine wpAny_staticBase_exc hC ?_
    | refine wpAny_madeBy_exc hC ?_
    | simp only [bne_self_eq_false, Bool.false_eq_true, if_false]
    | wp_step)
  exact hq

/-- the new object: its args are none, the keywords go to __init__ alone -/
theorem new_kw (F : ExcBaseFacts B newId initId bmB) (hT : ∀ X : String, bm.contains (.type X) = bmB.contains (.type X)) {kw : List (Str × Value)}
    (hC : h.get? C = some (excClassObj nm q C N bs bm hdct sn sub ab col dd k0 k1 k2 k3 k5 newId))
    (hq : R (.ok (.ret (.ref (h.objs.size + 1)))) ⟨(h.push (kdv_tup [])).push (excO C h.objs.size), g, d, t, os⟩) :
    codeAny (model prog w) A (.builtin newId ⟨[.ref C], kw⟩) R ⟨h, g, d, t, os⟩ := by
  have ends := F.ends
  have has : ∀ Y : String, (Value.ref C :: bm).contains (.type Y) = bmB.contains (.type Y) := fun Y => by rw [List.contains_cons, hT]; rfl
  have yes : (Value.ref C :: bm).contains (.type B) = true := (has _).trans F.hasB
  have no1 : (Value.ref C :: bm).contains (.type "AttributeError") = false := (has _).trans F.noAttr
  have no2 : (Value.ref C :: bm).contains (.type "NameError") = false := (has _).trans F.noName
  refine codeAny_builtinAt F.entry ?_
  unfold Builtin.«BaseException.__new__»
  refine wpAt_bind ?_
  show wpAt _ _ _ (stack >>= _) _ _ _
  refine wpAt_bind (wpAt_stack fun p below => wpAt_of_wpAny ?_)
  wp_walk
  refine wpAt_of_wpAny ?_
  rw [F.owner]
  repeat (first
    | with_reducible refine wpAny_madeHere_exc F.canon hC ?_
    | with_reducible refine wpAny_loadPart_at hC ?_
    | (with_reducible refine wpAny_isSubtype_exc hC ?_; first | rw [yes] | rw [no1] | rw [no2])
    | wp_step)
  show R _ _
  rw [Heap.size_push]
  exact hq

theorem tcall_kw (F : ExcBaseFacts B newId initId bmB) (hT : ∀ X : String, bm.contains (.type X) = bmB.contains (.type X)) {kw : List (Str × Value)} {fI : Addr} {Q : Fin → Shared → Prop}
    (hC : h.get? C = some (excClassObj nm q C N bs bm hdct sn sub ab col dd k0 k1 k2 k3 k5 newId))
    (hi : Looks (model prog w) h (typeLookup (.ref C) "__init__") (some (.ref fI))) (hb : ∀ self, Looks (model prog w) h (bindSpecial (.ref fI) self) (.ref fI, [self]))
    (hq : codeAny (model prog w) A (.call (.ref fI) ⟨[.ref (h.objs.size + 1)], kw⟩)
      (fun r s' => match r with
        | .ok (.ret v) => v = .none ∧ Q (.done (.ret (.ref (h.objs.size + 1)))) s'
        | .ok _ => False
        | .error e => E e s')
      ⟨(h.push (kdv_tup [])).push (excO C h.objs.size), g, d, t, os⟩) :
    wpAny (model prog w) A (Builtin.«type.__call__» ⟨[.ref C], kw⟩) Q E ⟨h, g, d, t, os⟩ := by
  repeat (first | with_reducible refine wpAny_loadPart_at hC ?_ | with_reducible refine wpAny_madeBy_exc hC ?_ | wp_step)
  refine codeAny_call_builtin_code (Code.quiet_builtin _ F.quiet) (chk_new F hT hC ?_)
  refine new_kw F hT hC ?_
  show wpAny _ _ _ _ _ _
  have kp : ∀ b o, h.get? b = some o → ((h.push (kdv_tup [])).push (excO C h.objs.size)).get? b = some o := fun b o e => Heap.get?_push_of_some _ (Heap.get?_push_of_some _ e)
  have cls1 := kp _ _ hC
  have new1 : ((h.push (kdv_tup [])).push (excO C h.objs.size)).get? (h.objs.size + 1) = some (excO C h.objs.size) := by heap_get
  have self1 : (Value.ref C :: bm).contains (.ref C) = true := by simp
  have look1 := hi.keeps kp
  have bind1 := (hb (.ref (h.objs.size + 1))).keeps kp
  unfold isInstance
  repeat (first | with_reducible refine wpAny_loadPart_at new1 ?_ | (with_reducible refine wpAny_isSubtype_exc cls1 ?_; rw [self1]) | wp_step)
  show wpAny _ _ (typeLookup (.ref C) _) _ _ _
  refine look1.at ?_
  refine wpAny_holding (wpAny_bind (bind1.at ?_))
  refine wpAny_bind (wpAny_call (codeAny_mono hq fun r s' z => ?_))
  rcases r with e | (v | _ | _ | _) <;> first | exact z | exact z.elim | skip
  obtain ⟨rfl, z⟩ := z
  first
    | exact wpAny_pure (wpAny_pure z)
    | (wp_walk; exact z)

theorem chk_tcall {kw : List (Str × Value)} {Q : Unit → Shared → Prop} (hC : h.get? C = some (excClassObj nm q C N bs bm hdct sn sub ab col dd k0 k1 k2 k3 k5 newId))
    (hq : Q () ⟨h, g, d, t, os⟩) : wpAny M A (checkBuiltinCall "type.__call__" ⟨[.ref C], kw⟩) Q E ⟨h, g, d, t, os⟩ := by
  have f3 := tc_sub
  have hT : (⟨h, g, d, t, os⟩ : Shared).TypeIs (.ref C) "type" := ⟨_, hC, rfl⟩
  simp only [checkBuiltinCall, tc_kind, tc_split]
  repeat (any_goals (first | assumption | with_reducible refine wpAny_loadPart_at hC ?_ | with_reducible refine wpAny_onRaise ?_ | with_reducible refine wpAny_map ?_ | wp_step))

theorem call_kw (F : ExcBaseFacts B newId initId bmB) (hT : ∀ X : String, bm.contains (.type X) = bmB.contains (.type X)) {kw : List (Str × Value)} {fI : Addr}
    (hC : h.get? C = some (excClassObj nm q C N bs bm hdct sn sub ab col dd k0 k1 k2 k3 k5 newId))
    (hi : Looks (model prog w) h (typeLookup (.ref C) "__init__") (some (.ref fI))) (hb : ∀ self, Looks (model prog w) h (bindSpecial (.ref fI) self) (.ref fI, [self]))
    (hq : codeAny (model prog w) (A.under (.builtin "type.__call__" ⟨[.ref C], kw⟩)) (.call (.ref fI) ⟨[.ref (h.objs.size + 1)], kw⟩) (InitBack (h.objs.size + 1) R)
      ⟨(h.push (kdv_tup [])).push (excO C h.objs.size), g, d, t, os⟩) :
    codeAny (model prog w) A (.call (.ref C) ⟨[], kw⟩) R ⟨h, g, d, t, os⟩ := by
  have f1 := tc_lookup
  have f2 := tc_bind (.ref C)
  have hTy : (⟨h, g, d, t, os⟩ : Shared).TypeIs (.ref C) "type" := ⟨_, hC, rfl⟩
  refine codeAny_of_tree ?_
  show wpAny _ _ (callAny (.ref C) _) _ _ _
  repeat (any_goals (first | assumption | with_reducible refine wpAny_loadPart_at hC ?_ | wp_step))
  refine ⟨rfl, ?_⟩
  refine codeAny_call_builtin_at (Code.quiet_builtin _ (by decide +kernel)) entry_typeCall (chk_tcall hC (tcall_kw F hT hC hi hb ?_))
  refine codeAny_mono hq fun r s' z => ?_
  rcases r with e | (v | _ | _ | _) <;> exact z
end
end ShX

namespace ShX
open PySem PySem.W PySem.Calls PyProof.Rows PySem.HandSPX
section
variable {prog : Program} {w : World} {A : Around} {E : Value → Shared → Prop} {h : Heap} {g : Array GenState} {d : Drawn} {t : Nat} {os : OsState}
variable {nm q : Str} {C N : Addr} {bs bm : List Value} {hdct : Bool} {sn : List Str} {sub : List Value} {ab : Bool} {col : Option Bool} {dd : Option Addr} {k0 k1 k2 k3 k5 : Option Value}
abbrev veI : String := "ValueError.__init__"
/-- ValueError's __init__, bound to the exception at e, called -/
theorem call_mw {u e t0 : Addr} {rest : List Value} {Q : Value → Shared → Prop}
    (hC : h.get? C = some (excClassObj nm q C N bs bm hdct sn sub ab col dd k0 k1 k2 k3 k5 "ValueError.__new__")) (he : h.get? e = some (excO C t0))
    (hu : h.get? u = some (kxs_mw veI e)) (hz : rest.length ≤ sizeLine)
    (hq : ∀ h' t1, (∀ b o, b ≠ e → h.get? b = some o → h'.get? b = some o) → h'.get? e = some (excO C t1) → Q .none ⟨h', g, d, t, os⟩) :
    wpAny (model prog w) A (call (.ref u) rest) Q E ⟨h, g, d, t, os⟩ := by
  refine wpAny_call (codeAny_of_tree ?_)
  show wpAny _ A.in1 (callAny (.ref u) ⟨rest, []⟩) _ _ _
  simp only [callAny]
  refine wpAny_bind (wpAny_load hu ?_)
  have yes : (Value.type "method-wrapper" == Value.type "method" || Value.type "method-wrapper" == Value.type "builtin_function_or_method" || Value.type "method-wrapper" == Value.type "method-wrapper") = true := by decide
  simp only [kxs_mw, yes, if_true]
  refine KFB.if_so (by decide) ?_
  refine wpAny_bind (check_bound_init F.excBase_ValueError.toExcCallFacts hC he rfl ?_)
  refine wpAny_bind (wpAny_pure (wpAny_pure ?_))
  refine ⟨plainId_quiet F.excBase_ValueError.init.plain _, codeAny_builtin F.excBase_ValueError.initEntry ?_⟩
  exact exc_init_tree (cls := .ref C) (t0 := t0) (dv := none) (c2 := .none) (c3 := .none) (b4 := .bool false) he hz fun h' k e' _ => hq h' _ k e'
end
end ShX
set_option Elab.async false
set_option linter.all false
set_option maxRecDepth 100000
set_option maxHeartbeats 4000000

namespace Sho
open PySem PySem.Spec PyProof.Rows L2 NdefX
/-- what the written part says of an own error's __init__ at f that says super() -/
structure SupTxt (P : Program) (K : PySem.W.Frag) (mg : Str → Option Value) (F : NF) (f cc D : Addr) : Prop where
  fn : ∃ (oc : Value) (od : Option Addr) (doc pm : Value) (an : Option Addr) (ct : Value) (osl : Array (Option Value)),
    K.lookup f = some ⟨oc, od, .func (PySem.W.ksFn F.name F.qual F.params F.body F.scope .none .none doc pm an (.ref F.c) ct cc), osl⟩
  cd : PySem.W.codeIn K (.ref F.c) F.qual = true
  cell : ∃ (cl : Value) (cld : Option Addr) (csl : Array (Option Value)), K.lookup cc = some ⟨cl, cld, .cell (some (.ref D)), csl⟩
  cls : F.cl = [(("__class__" : Str), cc)]
  file : ∃ (oc : Value) (od : Option Addr) (vs : Array Value) (sl : Array (Option Value)) (fl : Str) (tf : Tok), K.lookup F.c = some ⟨oc, od, .fields vs, sl⟩ ∧ vs[2]? = some (.str fl tf) ∧ ((P.main.file : Str) == fl) = true
  first : ∃ ar : Arg, (F.params.posonlyargs ++ F.params.args).head? = some ar ∧ ar.arg = ("self" : Str)
  sup : mg "super" = none
  top : (P.main.scope.names.lookup ("super" : Str)).isSome = false
  ks : F.scope.names.lookup ("super" : Str) = some .globalImplicit
  kc : F.scope.names.lookup ("__class__" : Str) = some .free
  kse : F.scope.names.lookup ("self" : Str) = some .local
  isD : PySem.W.isClsIn K D = true
  opq : PySem.W.nsIn K cStatics "thirdparty.any" = some none
/-- the context's class: C's __init__ from D on is ValueError's -/
structure SupCls (K : PySem.W.Frag) (C D : Addr) : Prop where
  o : OexC K C
  sub : PySem.W.mroIn K C (.ref D) = some true
  nxt : PySem.W.ks_superIn K C D "__init__" = some (some (.builtin ShX.veI))
  ve : PySem.W.subIn K (.ref C) (.type "ValueError") = some true
section
variable {X : Cx} {pins : List (Addr × Obj)} {σ : L2.St} {H : Hp} {s : Shared} {F : NF} {f cc D a C : Addr}
theorem cls_at {K : PySem.W.Frag} {h : Heap} {D : Addr} (X : K.In h) (i : PySem.W.isClsIn K D = true) : ∃ (o : Obj) (cd : ClassData), h.get? D = some o ∧ o.data = .cls cd ∧ PySem.W.clsIn K D = some cd := by
  have i2 : (PySem.W.clsIn K D).isSome = true := i
  cases e : PySem.W.clsIn K D with
  | none =>
    rw [e] at i2
    cases i2
  | some cd =>
    have e0 := e
    unfold PySem.W.clsIn at e
    split at e
    · rename_i c d cd' sl ho
      cases e
      exact ⟨_, _, X _ _ ho, rfl, rfl⟩
    · cases e
/-- super().__init__(e), the exception at a being made -/
theorem sup_stmt {pl : Sem Bool} {R : Hp → Prop} {body : List Stmt} {e : Expr} {te : TA} {p0 p1 p2 p3 p4 : Pos} {Qf : PySem.Flow → Shared → Prop} {Ex : Value → Shared → Prop} (T : SupTxt X.prog X.K X.mg F f cc D) (V : SupCls X.K C D)
    (hX : X.env = envF F f X.env.locals) (I : Inv X pins σ H s) (hi : X.N[0]? = some ("self" : Str)) (hv : σ[0]? = some (some (.ref a))) (ha : H a = some (exo a C none))
    (he : PA X [e] te) (hxe : ∀ v s', X.xe v s' → Ex v s') (hq : te σ H fun xs H1 => xs.length ≤ 1000 ∧ H1 a = some (exo a C none) ∧ R H1) (hR : ∀ H1 s', Inv X pins σ H1 s' → R H1 → Qf .next s')
    (hce : eval (.Call (.Attribute (.Call (.Name "super" p0) [] [] p1) "__init__" p2) [e] [] p3) X.env = (do
      let ov ← attributeBase (.Call (.Name "super" p0) [] [] p1) "__init__" X.env (eval (.Call (.Name "super" p0) [] [] p1) X.env)
      standAt p2.atName
      let (fx, first) ← holding [ov] (getMethod ov "__init__" pl)
      callWith p3 fx first (backTo p3 (starEach [e] X.env)) []))
    (hst : starEach [e] X.env = (false, eval e X.env) :: starEach [] X.env) :
    PySem.wpAt (model X.prog X.w) X.A (.func body X.env) (exec (.Expr (.Call (.Attribute (.Call (.Name "super" p0) [] [] p1) "__init__" p2) [e] [] p3) p4) X.env) Qf Ex s := by
  obtain ⟨fc, fod, doc, pm, an, ct, osl, hf⟩ := T.fn
  obtain ⟨cl, cld, csl, hcell⟩ := T.cell
  obtain ⟨oc, od, vs, sl, fl, tf, hcode, hvs, hfile⟩ := T.file
  obtain ⟨ar, hfirst, har⟩ := T.first
  obtain ⟨oD, cdD, hD1, hD2, _⟩ := cls_at I.kIn T.isD
  obtain ⟨t0, hx⟩ := exo_at I.hok ha
  obtain ⟨nm, q, N, bs, bm, sn, sub, ab, col, dd, k0, k1, k2, k3, k5, hC, hbm⟩ := V.o.cls
  have hclC : PySem.W.clsIn X.K C = some { name := nm, bases := bs, mro := .ref C :: bm, ns := N, qualname := q, hasDict := true, slotNames := sn, subclasses := sub, abstract := ab, collection := col, hasDel := false } := by unfold PySem.W.clsIn; rw [hC] <;> rfl
  have IA : PySem.W.InstAt s.heap a ({ cls := .ref C, data := .fields #[.ref t0, .none, .none, .none, .bool false, .none] } : Obj) C none := ⟨hx, rfl, rfl, True.intro⟩
  have kD : X.env.kindOf ("self" : Str) = some .local := by rw [hX]; exact T.kse
  have selfv : ∃ m, s.heap.Ns X.env.locals m ∧ m ("self" : Str) = some (.ref a) := by
    obtain ⟨m, hm, hl⟩ := I.loc
    obtain ⟨u, ru, lk⟩ := hl 0 _ _ hi hv (.inl (by have := kD; rw [hX] at this; rw [hX]; exact this))
    obtain rfl : u = Value.ref a := ru
    rcases lk with ⟨_, e⟩ | ⟨e, _⟩
    · exact ⟨m, hm, e⟩
    · rw [kD] at e
      rcases e with e | e <;> cases e
  obtain ⟨m, hm, hself⟩ := selfv
  obtain ⟨mb, hb1, hb2⟩ := I.mod.blt
  have ek : X.env.scope.kind = .function := I.ok.kind
  have e1 : X.env.kindOf ("super" : Str) = some .globalImplicit := by rw [hX]; exact T.ks
  have e2 : X.env.kindOf ("__class__" : Str) = some .free := by rw [hX]; exact T.kc
  have e3 : X.env.cells.lookup ("__class__" : Str) = some cc := by
    rw [hX]
    show F.cl.lookup _ = _
    rw [T.cls]
    rfl
  refine ks_wpAt_Expr_any ?_ (I.quiet) (by rfl)
  refine ks_wpAt_MethodCall ?_ hce
  refine ks_wpAt_super_base (prog := X.prog) (w := X.w) (f := f) (cc := F.c) e1 e2 (by rfl) (by rw [hX]) (I.kIn _ _ hf) rfl hfirst (by rw [hX]) (I.kIn _ _ hcode) rfl hvs hfile T.top ?_
  refine PySem.W.ks_loadName_global ek e1 (PySem.Calls.loadGlobal_builtin (by rw [I.ok.glob]; exact I.mod.glob.keeps I.bk) T.sup (by rw [I.ok.blt]; exact hb1.keeps I.bk) ((hb2 _ (by decide)).trans (by decide +kernel)) ⟨rfl, ?_⟩)
  refine wpAny_loadName_free ek e2 e3 ⟨_, I.kIn _ _ hcell, rfl⟩ ?_
  rw [har]
  refine wpAny_loadName_local ek kD hm hself ?_
  refine ks_wpAny_isType_cls hD1 hD2 ⟨rfl, ?_⟩
  obtain ⟨hp, g, d, tk, os⟩ := s
  refine ks_wpAny_call_super hD1 hD2 hx rfl (fun c z => by cases z) (PySem.W.looks_mroIn I.kIn V.sub) fun h1 so1 kp1 => ?_
  have I1 : Inv X pins σ H ⟨h1, g, d, tk, os⟩ := I.kept (t' := tk) kp1
  have nx := V.nxt
  unfold PySem.W.ks_superIn at nx
  rw [hclC] at nx
  have hxC : a ≠ C := by
    rintro rfl
    have z := I.kIn _ _ hC
    have z2 : hp.get? a = some (excClassObj nm q a N bs bm true sn sub ab col dd k0 k1 k2 k3 k5 "ValueError.__new__") := z
    rw [z2] at hx
    cases hx
  have hmro : PySem.W.Looks (model X.prog X.w) h1 (mroOf (.ref C)) (.ref C :: bm) := (PySem.W.looks_clsIn I1.kIn hclC).andThen .now
  have hinst : PySem.W.Looks (model X.prog X.w) h1 (isInstance (.ref a) (.type "ValueError")) true :=
    PySem.W.Looks.andThen (PySem.W.InstAt.type (⟨kp1 _ _ hx, rfl, rfl, True.intro⟩ : PySem.W.InstAt h1 a _ C none)) (PySem.W.looks_subIn I1.kIn V.ve)
  refine PySem.W.kxs_getMethod PySem.W.kxs_ValueError so1 (PySem.W.looks_opaque I1.kIn T.opq) hmro rfl I1.kIn nx hinst hxC (by decide) ?_
  generalize hu : h1.objs.size = u
  have kp2 : ∀ b o, h1.get? b = some o → (h1.push (PySem.W.kxs_mw ShX.veI a)).get? b = some o := fun b o z => Heap.get?_push_of_some _ z
  have I2 : Inv X pins σ H ⟨h1.push (PySem.W.kxs_mw ShX.veI a), g, d, tk + 1, os⟩ := I1.kept (t' := tk + 1) kp2
  have gu : (h1.push (PySem.W.kxs_mw ShX.veI a)).get? u = some (PySem.W.kxs_mw ShX.veI a) := by rw [← hu]; exact Heap.get?_push_size _ rfl
  have fu : FpOk X pins H u := I1.fpOk (by rw [← hu]; exact Nat.le_refl _) (I1.hok.fresh (by rw [← hu]; exact Nat.le_refl _))
  have I3 : Inv X ((u, PySem.W.kxs_mw ShX.veI a) :: pins) σ H ⟨h1.push (PySem.W.kxs_mw ShX.veI a), g, d, tk + 1, os⟩ := I2.pins_of fun p hp => by
    rcases List.mem_cons.mp hp with rfl | hp
    · exact ⟨gu, fu.1, fu.2.1, fu.2.2.1, fun v z => by cases z⟩
    · exact I2.pin p (List.mem_append_right _ hp)
  refine wpAny_mono (PySem.W.kxs_callWith (i := ShX.veI) (x := a) (Q := fun _ s' => Qf .next s') (E := X.xe) (by rw [hst]; rfl) ?_) (fun _ _ z => z) hxe
  rw [hst]
  refine PySem.Calls.evalArgs_plain ?_
  have hr := he.run p3 ((u, PySem.W.kxs_mw ShX.veI a) :: pins) _ σ H _ I3 hq
  rw [hst] at hr
  refine thn hr fun us s2 ⟨xs, H2, I4, rv, hl, ha2, q⟩ => ?_
  have gu2 := (I4.pin (u, PySem.W.kxs_mw ShX.veI a) (List.mem_append_right _ List.mem_cons_self)).1
  refine ⟨gu2, ?_⟩
  obtain ⟨t2, hx2⟩ := exo_at I4.hok ha2
  obtain ⟨hp2, g2, d2, tk2, os2⟩ := s2
  refine ShX.call_mw (I4.kIn _ _ hC) hx2 gu2 ?_ fun h' t3 k3 e3 => ?_
  · show us.length ≤ sizeLine
    rw [← rv.length, sizeLine_eq]
    omega
  · have J := I4.write (t' := tk2) (x := a) (e := a) (o := exo a C none) (by rw [ha2]; exact True.intro) (.inl rfl) k3 ⟨_, e3⟩ (exo_ok e3)
    have eu : upd H2 a (exo a C none) = H2 := by
      funext b
      by_cases hb : b = a
      · rw [hb, upd_same, ha2]
      · rw [upd_ne hb]
    rw [eu] at J
    refine hR _ _ (J.pins_of fun p hp => J.pin p (by
      rcases List.mem_append.mp (List.mem_append_right X.pn hp) with z | z
      · exact List.mem_append_left _ z
      · exact List.mem_append_right _ (List.mem_cons_of_mem _ z))) q
end
section
variable {CX : CXT} {P : Program} {w : World} {K : PySem.W.Frag} {mg : Str → Option Value} {base : Heap} {N ps : List Str} {F : NF} {f cc D C a : Addr} {A : Around} {outer : List Env} {s : Shared} {H : Hp} {E : XK} {Q : VK} {us : List Value} {vs : List V} {k : Nat}
/-- the __init__ of an own error that says super() first, run: a is the exception -/
theorem run_sup {pl : Sem Bool} {args : Args} {e : Expr} {te : TA} {tr : TS} {rest : List Stmt} {p0 p1 p2 p3 p4 : Pos} (T : SupTxt P K mg F f cc D) (VC : SupCls K C D) (S : NScope N ps ["__class__"] F.scope) (hr : Room (k + 1) A) (e0 : Env0 P w K mg base A outer s H)
    (hb : ∀ doc pm an ct, BindsTo s (PySem.W.ksFn F.name F.qual F.params F.body F.scope .none .none doc pm an (.ref F.c) ct cc) args (ps.zip us)) (hl : vs.length = ps.length) (r : Vals vs us)
    (h0 : vs[0]? = some (.ref a)) (hN : N[0]? = some ("self" : Str)) (ha : H a = some (exo a C none))
    (hbody : F.body = .Expr (.Call (.Attribute (.Call (.Name "super" p0) [] [] p1) "__init__" p2) [e] [] p3) p4 :: rest)
    (he : PA (ncx CX P w K mg base N F f A outer s H E) [e] te) (hrest : PSs (ncx CX P w K mg base N F f A outer s H E) rest tr)
    (hq : te (startF N vs [none]) H fun xs H1 => xs.length ≤ 1000 ∧ H1 a = some (exo a C none) ∧ tr { nx := fun _ H' => Q .non H', rt := Q } (startF N vs [none]) H1)
    (hce : ∀ L : Addr, eval (.Call (.Attribute (.Call (.Name "super" p0) [] [] p1) "__init__" p2) [e] [] p3) (envF F f L) = (do
      let ov ← attributeBase (.Call (.Name "super" p0) [] [] p1) "__init__" (envF F f L) (eval (.Call (.Name "super" p0) [] [] p1) (envF F f L))
      standAt p2.atName
      let (fx, first) ← holding [ov] (getMethod ov "__init__" pl)
      callWith p3 fx first (backTo p3 (starEach [e] (envF F f L))) []))
    (hst : ∀ L : Addr, starEach [e] (envF F f L) = (false, eval e (envF F f L)) :: starEach [] (envF F f L)) :
    codeAny (model P w) A (.call (.ref f) args) (CR CX outer P w H s Q E) s := by
  obtain ⟨fc, fod, doc, pm, an, ct, osl, hf⟩ := T.fn
  have kin : K.In s.heap := e0.mod.kin.keeps fun b o z => (e0.bs b o z).1
  have lim : s.heap.NoLimit := e0.mod.nolimit.keeps fun b o z => (e0.bs b o z).1
  obtain ⟨cl, cld, csl, hcell⟩ := T.cell
  have hcb : base.get? cc = some ⟨cl, cld, .cell (some (.ref D)), csl⟩ := e0.mod.kin _ _ hcell
  have CA : CellsAt F.cl ["__class__"] [none] s.heap H := by
    rw [T.cls]
    have one : ∀ {y : Str} {c : Addr}, List.lookup y [(("__class__" : Str), cc)] = some c → y = "__class__" ∧ c = cc := fun {y c} z => by
      by_cases hy : y = ("__class__" : Str)
      · subst hy
        rw [List.lookup_cons_self] at z
        exact ⟨rfl, (Option.some.inj z).symm⟩
      · have q : (y == ("__class__" : Str)) = false := by simpa using hy
        rw [List.lookup_cons, q] at z
        cases z
    refine ⟨rfl, fun y c z => ?_, fun x y c z1 z2 => (one z1).1.trans (one z2).1.symm, fun i y z => ?_⟩
    · obtain ⟨_, rfl⟩ := one z
      exact ⟨(e0.bs _ _ hcb).2, _, _, (e0.bs _ _ hcb).1, rfl⟩
    · match i with
      | 0 =>
        simp at z
        subst z
        exact ⟨cc, List.lookup_cons_self, fun v z => by simp at z⟩
      | i + 1 => simp at z
  refine ks_codeAny_call_defAt (fd := PySem.W.ksFn F.name F.qual F.params F.body F.scope .none .none doc pm an (.ref F.c) ct cc) (body := F.body) (binds := ps.zip us) hr.depth (kin _ _ hf) rfl lim (PySem.W.codeRec_of kin T.cd) rfl (hb _ _ _ _)
    S.nocell (fun ⟨n, _⟩ hy => S.par n (List.of_mem_zip hy).1) (fun h₁ hns kp => ?_) S.co S.gen S.kind
  have I : Inv (ncx CX P w K mg base N F f A outer s H E) [] (startF N vs [none]) H { s with heap := h₁, toks := s.toks + (ps.zip us).length } := inv_startN S hr.hd e0 hl r CA hns kp
  have env_eq : callEnv (PySem.W.ksFn F.name F.qual F.params F.body F.scope .none .none doc pm an (.ref F.c) ct cc) s.heap.objs.size f = envF F f s.heap.objs.size := by
    show PySem.W.envX _ _ _ _ _ [(("__class__" : Str), cc)] = PySem.W.envX _ _ _ _ _ F.cl
    rw [T.cls]
  rw [env_eq]
  show PySem.wpAt (model P w) (ncx CX P w K mg base N F f A outer s H E).A (.func F.body (envF F f s.heap.objs.size)) (execs F.body (envF F f s.heap.objs.size)) _ _ _
  rw [hbody]
  refine ks_wpAt_execs_cons ?_
  have hs0 : (startF N vs [none])[0]? = some (some (.ref a)) := by
    unfold startF
    cases vs with
    | nil => simp at h0
    | cons v vs =>
      simp at h0
      subst h0
      rfl
  refine sup_stmt (X := ncx CX P w K mg base N F f A outer s H E) (Ex := (ncx CX P w K mg base N F f A outer s H E).xe) T VC rfl I hN hs0 ha he (fun _ _ z => z) hq (fun H1 s1 I1 q1 => ?_) (hce _) (hst _)
  refine wpAt_of_wpAny (wpAny_mono (hrest.run [] s1 (startF N vs [none]) H1 _ I1 q1) (fun fl s' hs => ?_) fun e s' hs => hs)
  have fin : ∀ {σ' : L2.St} {H' : Hp} {v : V} {u : Value}, Inv (ncx CX P w K mg base N F f A outer s H E) [] σ' H' s' → L2.RelV v u → Q v H' → CE outer P w H s Q u s' :=
    fun {σ' H' v u} J rv q => ⟨v, H', J.os, J.bare, J.base, J.hok, rv, q⟩
  cases fl with
  | ret u =>
    obtain ⟨v, σ', H', J, rv, q⟩ := hs
    exact fin J rv q
  | next =>
    obtain ⟨σ', H', J, q⟩ := hs
    exact fin (v := V.non) (u := Value.none) J rfl q
  | brk =>
    obtain ⟨_, _, _, q⟩ := hs
    exact False.elim q
  | cont =>
    obtain ⟨_, _, _, q⟩ := hs
    exact False.elim q
end
/-- a value that an error's message may tell -/
def Tells (v : V) : Prop := (∃ y : Str, v = .str y ∧ y.length ≤ 100000) ∨ ∃ i : Int, v = .int i ∧ i.natAbs.log2 < 1920
/-- C(f = e) -/
def tMkW (C : Addr) (fld : Str) (te : TA) : L2.St → Hp → XK → Prop := fun σ H Q => te σ H fun xs H1 => ∃ v, xs = [v] ∧ Tells v ∧ ∀ d, H1 d = none → Q (.ref C) (some d) (upd H1 d (.xd [(fld, v)]))
section
variable {X : Cx} {CX : CXT} {C f cc D : Addr} {F : NF} {k : Nat} {fld x : Str} {e msg : Expr} {kws : List Keyword} {te : TA} {p pos p0 p1 p2 p3 p4 r1 r2 r3 r4 : Pos} {pl : Sem Bool}
theorem pmk_kw (T : SupTxt X.prog X.K X.mg F f cc D) (VC : SupCls X.K C D) (XC : XfC X.K C) (hno : PySem.W.findIn X.K (.ref C) fld = some none)
    (iC : PySem.W.findIn X.K (.ref C) "__init__" = some (some (.ref f))) (tI : PySem.W.typeIn X.K (.ref f) = some (.type "function"))
    (S : NScope ["self", fld, "__class__"] ["self", fld] ["__class__"] F.scope) (hr : Room (k + 2) X.A) (hx : Passes CX X (fun _ _ _ => False)) (hg : Gl X x) (hm : X.mg x = some (.ref C))
    (hkw : PK X kws te) (hall : (backToKw pos (keywordEach kws X.env)).all (·.1.isSome) = true) (hks : (backToKw pos (keywordEach kws X.env)).filterMap (·.1) = [fld])
    (hpl : ((backTo pos (starEach [] X.env)).any (·.1) || (backToKw pos (keywordEach kws X.env)).any (·.1.isNone)) = false)
    (hbody : F.body = [.Expr (.Call (.Attribute (.Call (.Name "super" p0) [] [] p1) "__init__" p2) [msg] [] p3) p4, .Assign [.Attribute (.Name "self" r1) fld r2] (.Name fld r3) r4])
    (hb : ∀ (s : Shared) (doc pm : Value) (an : Option Addr) (ct : Value) (xa : Addr) (u : Value), BindsTo s (PySem.W.ksFn F.name F.qual F.params F.body F.scope .none .none doc pm an (.ref F.c) ct cc) ⟨[.ref xa], [(fld, u)]⟩ [(("self" : Str), .ref xa), (fld, u)])
    (hmsg : ∀ (A : Around) (outer : List Env) (s : Shared) (H : Hp) (E : XK) (xa : Addr) (v : V), Tells v → ∃ tm, PA (ncx CX X.prog X.w X.K X.mg X.base ["self", fld, "__class__"] F f A outer s H E) [msg] tm ∧
      ∀ R : List V → Hp → Prop, (∀ y : Str, R [.str y] H) → tm (startF ["self", fld, "__class__"] [.ref xa, v] [none]) H R)
    (hce : ∀ L : Addr, eval (.Call (.Attribute (.Call (.Name "super" p0) [] [] p1) "__init__" p2) [msg] [] p3) (envF F f L) = (do
      let ov ← attributeBase (.Call (.Name "super" p0) [] [] p1) "__init__" (envF F f L) (eval (.Call (.Name "super" p0) [] [] p1) (envF F f L))
      standAt p2.atName
      let (fx, first) ← holding [ov] (getMethod ov "__init__" pl)
      callWith p3 fx first (backTo p3 (starEach [msg] (envF F f L))) []))
    (hst : ∀ L : Addr, starEach [msg] (envF F f L) = (false, eval msg (envF F f L)) :: starEach [] (envF F f L))
    (hsw : ∀ L : Addr, swapsWith (.Name fld r3) (some (.Attribute (.Name "self" r1) fld r2)) r4.line (envF F f L) = pure false)
    (hf1 : (fld == ("__debug__" : Str)) = false := by decide) (hf2 : (fld == ("__classdict__" : Str)) = false := by decide)
    (hdb : (x == ("__debug__" : Str)) = false := by decide) : PMk X (.Call (.Name x p) [] kws pos) (tMkW C fld te) := by
  intro pins s σ H Q I h
  obtain ⟨nm, q, N, bs, bm, sn, sub, ab, col, dd, k0, k1, k2, k3, k5, hC, hbm⟩ := VC.o.cls
  refine wpAny_Call_Name_kw (ld_glob I hg hm ?_ hdb)
  refine PySem.W.callWith_KW0 (h₀ := X.base) I.ok.mod.kin VC.o.kC hall ?_ hpl
  refine thn (hkw.run pos pins s σ H _ I h) fun ws s1 ⟨zs, H1, I1, rz, v, ezs, hv, q1⟩ => ⟨I1.kIn, ?_⟩
  subst ezs
  cases rz with
  | @cons _ u _ _ rv rn =>
  cases rn
  rw [hks]
  obtain ⟨hp, g, dr, tk, os⟩ := s1
  have hsz : hp.objs.size ≤ hp.objs.size + 1 := Nat.le_succ _
  have hn : H1 (hp.objs.size + 1) = none := I1.hok.fresh hsz
  generalize ha : hp.objs.size + 1 = a at hn hsz
  have kk : ∀ b o, hp.get? b = some o → ((hp.push (PySem.W.kdv_tup [])).push (PySem.HandSPX.excO C hp.objs.size)).get? b = some o := fun b o e => Heap.get?_push_of_some _ (Heap.get?_push_of_some _ e)
  have hget : ((hp.push (PySem.W.kdv_tup [])).push (PySem.HandSPX.excO C hp.objs.size)).get? a = some (PySem.HandSPX.excO C hp.objs.size) := by
    rw [← ha]
    heap_get
  generalize hh2 : (hp.push (PySem.W.kdv_tup [])).push (PySem.HandSPX.excO C hp.objs.size) = h2 at kk hget
  have I2 : Inv X pins σ (upd H1 a (exo a C none)) ⟨h2, g, dr, tk, os⟩ := I1.laid (t' := tk) (a := a) (o := exo a C none) (h' := h2) kk hsz (exo_ok hget)
  obtain ⟨tm, hpm, htm⟩ := hmsg (X.A.under (.builtin "type.__call__" ⟨[.ref C], [(fld, u)]⟩)) X.stack ⟨h2, g, dr, tk, os⟩ (upd H1 a (exo a C none)) (fun _ _ _ => False) a v hv
  refine wpAny_call (ShX.call_kw PySem.F.excBase_ValueError (fun Y => PySem.HandSPX.refsVE_contains Y bm hbm) (I1.kIn _ _ hC) (PySem.W.looks_findIn I1.kIn iC) (fun self => PySem.W.bind_fn I1.kIn self tI) ?_)
  rw [ha, hh2]
  have vis0 : Vis F.scope ("self" : Str) := .inl (S.par _ List.mem_cons_self)
  have vis1 : Vis F.scope fld := .inl (S.par _ (List.mem_cons_of_mem _ List.mem_cons_self))
  refine codeAny_mono (run_sup (CX := CX) (k := k) (N := ["self", fld, "__class__"]) (ps := ["self", fld]) (us := [.ref a, u]) (vs := [.ref a, v]) (E := fun _ _ _ => False)
    (Q := fun r H2 => r = .non ∧ ∃ (d : Addr) (fs : List (Str × V)), H2 a = some (exo a C (some d)) ∧ H2 d = some (exd d fs) ∧ H1 d = none ∧ Q (.ref C) (some d) (upd (del H2 a) d (.xd fs)))
    T VC S (hr.make C [] _) (I2.env0.make C [] _) ?_ rfl (.cons rfl (.cons rv .nil)) rfl rfl upd_same hbody hpm
    (pss_one (ps_ost (pe_var (i := 0) rfl vis0) (pe_var (i := 1) rfl vis1 hf1 hf2) (hsw _))) ?_ hce hst) fun r s' hq' => ?_
  · intro doc pm an ct
    exact hb _ doc pm an ct a u
  · refine htm _ fun y => ⟨by simp, upd_same, v, rfl, .ref a, rfl, a, C, rfl, VC.o, hno, .inl ⟨upd_same, fun dx hdx ndx => ?_⟩⟩
    have hdx1 : H1 dx = none := by
      rw [upd_ne ndx] at hdx
      exact hdx
    refine ⟨rfl, dx, [(fld, v)], upd_same, ?_, hdx1, ?_⟩
    · rw [upd_ne ndx, upd_same]
    · have eH : upd (del (upd (upd (upd H1 a (exo a C none)) dx (exd dx [(fld, v)])) a (exo a C (some dx))) a) dx (.xd [(fld, v)]) = upd H1 dx (.xd [(fld, v)]) := by
        funext b
        by_cases h1 : b = dx
        · rw [h1, upd_same, upd_same]
        · rw [upd_ne h1, upd_ne h1]
          by_cases h2 : b = a
          · rw [h2, del_same, hn]
          · rw [del_ne h2, upd_ne h2, upd_ne h1, upd_ne h2]
      rw [eH]
      exact q1 dx hdx1
  · cases r with
    | error er => exact hx pins σ _ _ er s' I2 hq'
    | ok fl =>
      cases fl with
      | ret uu =>
        obtain ⟨vv, H2, os2, bare2, un2, hok2, rv2, ev, d2, fs, ea, ed, hd1, q2⟩ := hq'
        subst ev
        obtain ⟨h3, g2, dr2, t2, os'⟩ := s'
        exact ⟨rv2, mk_end (raises_own VC.o.exC VC.o.tyC) I1 hsz kk un2 hok2 os2 bare2 ea ed hd1 q2⟩
      | next => exact False.elim hq'
      | brk => exact False.elim hq'
      | cont => exact False.elim hq'
end
end Sho
set_option Elab.async false
set_option linter.all false
set_option maxRecDepth 100000
set_option maxHeartbeats 2000000
/-! The head of a law with facts: defs with and without a closure, Bools of the written part, empty tables of code objects left out. -/
namespace Shh
open PySem PySem.Spec PyProof.Rows L2 He Sho
abbrev Fr : Type := PySem.W.Frag
/-! ### a def -/
abbrev FnS : Type := Option (Str × Str × Arguments × FuncBody × Scope)
def fnS (K : Fr) (a : Addr) : FnS := match K.lookup a with
  | some ⟨_, _, .func fd, _⟩ => some (fd.name, fd.qualname, fd.params, fd.body, fd.scope)
  | _ => none
def noneB : Value → Bool
  | .none => true
  | _ => false
theorem noneB_ok {v : Value} (h : noneB v = true) : v = .none := by
  cases v with
  | none => rfl
  | _ => cases h
def fnB (K : Fr) (a : Addr) (q : Str) (cl : List (Str × Addr)) : Bool := match K.lookup a with
  | some ⟨_, _, .func fd, _⟩ => decide (fd.globals = mainGlobals) && (decide (fd.closure = cl) && (decide (fd.builtins = builtinsNs) && (noneB fd.defaults && (noneB fd.kwdefaults && PySem.W.codeIn K fd.code q))))
  | _ => false
def codeA (K : Fr) (a : Addr) : Addr := match K.lookup a with
  | some ⟨_, _, .func fd, _⟩ => (match fd.code with
    | .ref c => c
    | _ => 0)
  | _ => 0
/-- the first cell of a function's closure -/
def cellA (K : Fr) (a : Addr) : Addr := match K.lookup a with
  | some ⟨_, _, .func fd, _⟩ => (match fd.closure with
    | (_, c) :: _ => c
    | _ => 0)
  | _ => 0
structure FunF (K : Fr) (x qual : Str) (st : Stmt) (cl : List (Str × Addr)) (f : Addr) : Prop where
  ex : ∃ (oc : Value) (od : Option Addr) (doc pm : Value) (an : Option Addr) (ct : Value) (osl : Array (Option Value)),
    K.lookup f = some ⟨oc, od, .func (PySem.W.fnX x qual (defArgs st) (defBody st) (defScope st) cl .none .none doc pm an (.ref (codeA K f)) ct), osl⟩ ∧ PySem.W.codeIn K (.ref (codeA K f)) qual = true
/-- one def: where it stands, its name, qualified name, statement, closure -/
structure Dn where
  at_ : Fr → Addr
  name : Str
  qual : Str
  st : Stmt
  cl : Fr → List (Str × Addr) := fun _ => []
def Dn.val (d : Dn) : FnS := some (d.name, d.qual, defArgs d.st, .stmts (defBody d.st), defScope d.st)
def Dn.ok (K : Fr) (d : Dn) : Bool := fnB K (d.at_ K) d.qual (d.cl K)
theorem Dn.funF {K : Fr} {d : Dn} (e : fnS K (d.at_ K) = d.val) (c : d.ok K = true) : FunF K d.name d.qual d.st (d.cl K) (d.at_ K) := by
  unfold Dn.ok fnB at c
  unfold fnS at e
  have ec : ∀ fd oc od osl, K.lookup (d.at_ K) = some ⟨oc, od, .func fd, osl⟩ → ∀ c, fd.code = .ref c → codeA K (d.at_ K) = c := fun fd oc od osl q c h => by
    unfold codeA
    rw [q]
    show (match fd.code with | .ref c => c | _ => 0) = c
    rw [h]
  cases q : K.lookup (d.at_ K) with
  | none =>
    rw [q] at c
    cases c
  | some o =>
    obtain ⟨oc, od, dt, osl⟩ := o
    rw [q] at c e
    cases dt with
    | func fd =>
      have ec' := ec fd oc od osl q
      obtain ⟨n1, n2, n3, n4, n5, n6, n7, n8, n9, n10, n11, n12, n13, n14, n15⟩ := fd
      have e2 : (some (n1, n2, n3, n4, n5) : FnS) = some (d.name, d.qual, defArgs d.st, .stmts (defBody d.st), defScope d.st) := e
      simp only [Option.some.injEq, Prod.mk.injEq] at e2
      obtain ⟨h1, h2, h3, h4, h5⟩ := e2
      obtain ⟨c1, c⟩ := ba c
      obtain ⟨c2, c⟩ := ba c
      obtain ⟨c3, c⟩ := ba c
      obtain ⟨c4, c⟩ := ba c
      obtain ⟨c5, c6⟩ := ba c
      have g1 : n6 = mainGlobals := of_decide_eq_true c1
      have g2 : n7 = d.cl K := of_decide_eq_true c2
      have g3 : n15 = builtinsNs := of_decide_eq_true c3
      have g4 : n8 = .none := noneB_ok c4
      have g5 : n9 = .none := noneB_ok c5
      obtain ⟨cc, hc⟩ := codeIn_ref c6
      have hc' : n13 = .ref cc := hc
      have e3 := ec' cc hc'
      subst h1 h2 h3 h4 h5 g1 g2 g3 g4 g5 hc'
      exact ⟨oc, od, n10, n11, n12, n14, osl, by rw [e3]; exact q, by rw [e3]; exact c6⟩
    | _ => cases c
/-! ### the Hook -/
def okAll (fa : List (Fr → Bool)) (fn : List Dn) (K : Fr) : Bool := (fa.all fun f => f K) && fn.all fun d => d.ok K
def tabsS (g : Addr → Option Obj) (tf : List (Fr → Addr)) (K : Fr) : Bool := tf.all fun p => PySem.W.codeHdIn K (codeA K (p K)) (tabOf K (codeA K (p K))) && (match g (tabOf K (codeA K (p K))) with
  | some o => emptyTab o
  | none => false)
def fragS (n : Nat) (g : Addr → Option Obj) : Fr := frT g (asD g n ++ [cStatics])
abbrev AlS : Type := Bool × List FnS
def obsS (n : Nat) (fa : List (Fr → Bool)) (fn : List Dn) (tf : List (Fr → Addr)) (g : Addr → Option Obj) : AlS := (okAll fa fn (fragS n g) && tabsS g tf (fragS n g), fn.map fun d => fnS (fragS n g) (d.at_ (fragS n g)))
def valS (fn : List Dn) : AlS := (true, fn.map Dn.val)
structure SaysS (fa : List (Fr → Bool)) (fn : List Dn) (tf : List (Fr → Addr)) (h : Heap) (K : Fr) : Prop where
  fa : ∀ f ∈ fa, f K = true
  fn : ∀ d ∈ fn, FunF K d.name d.qual d.st (d.cl K) (d.at_ K)
  hd : ∀ p ∈ tf, PySem.W.codeHdIn K (codeA K (p K)) (tabOf K (codeA K (p K))) = true
  out : ∀ p ∈ tf, K.lookup (tabOf K (codeA K (p K))) = none
  empty : ∀ p ∈ tf, h.get? (tabOf K (codeA K (p K))) = some { cls := .none, data := .fields #[] }
theorem saysS_of {n : Nat} {fa : List (Fr → Bool)} {fn : List Dn} {tf : List (Fr → Addr)} {h : Heap} (e : obsS n fa fn tf h.get? = valS fn) : SaysS fa fn tf h (fragS n h.get?) := by
  have e1 : (okAll fa fn (fragS n h.get?) && tabsS h.get? tf (fragS n h.get?)) = true := congrArg (fun z : AlS => z.1) e
  have e2 : (fn.map fun d => fnS (fragS n h.get?) (d.at_ (fragS n h.get?))) = fn.map Dn.val := congrArg (fun z : AlS => z.2) e
  obtain ⟨h1, h2⟩ := ba e1
  obtain ⟨h3, h4⟩ := ba h1
  have key : ∀ p ∈ tf, PySem.W.codeHdIn (fragS n h.get?) (codeA (fragS n h.get?) (p (fragS n h.get?))) (tabOf (fragS n h.get?) (codeA (fragS n h.get?) (p (fragS n h.get?)))) = true ∧
      ∃ o, h.get? (tabOf (fragS n h.get?) (codeA (fragS n h.get?) (p (fragS n h.get?)))) = some o ∧ emptyTab o = true := fun p hp => by
    obtain ⟨h5, h6⟩ := ba (List.all_eq_true.mp h2 p hp)
    refine ⟨h5, ?_⟩
    cases q : h.get? (tabOf (fragS n h.get?) (codeA (fragS n h.get?) (p (fragS n h.get?)))) with
    | none =>
      rw [q] at h6
      cases h6
    | some o =>
      rw [q] at h6
      exact ⟨o, rfl, h6⟩
  refine ⟨fun f hf => List.all_eq_true.mp h3 f hf, fun d hd => ?_, fun p hp => (key p hp).1, fun p hp => ?_, fun p hp => ?_⟩
  · obtain ⟨i, hi, ei⟩ := List.mem_iff_getElem.mp hd
    have e3 : (fn.map fun d => fnS (fragS n h.get?) (d.at_ (fragS n h.get?)))[i]? = (fn.map Dn.val)[i]? := by rw [e2]
    rw [List.getElem?_map, List.getElem?_map, List.getElem?_eq_getElem hi, ei] at e3
    exact Dn.funF (Option.some.inj e3) (List.all_eq_true.mp h4 d hd)
  · obtain ⟨_, o, q, z⟩ := key p hp
    exact frT_none q z
  · obtain ⟨_, o, q, z⟩ := key p hp
    rw [q, emptyTab_eq z]
def hookS (n : Nat) (fa : List (Fr → Bool)) (fn : List Dn) (tf : List (Fr → Addr)) : PySem.W.Hook where
  α := AlS
  obs := fun s => obsS n fa fn tf s.heap.get?
  val := fun _ => valS fn
  says := fun _ h => ∃ K : PySem.W.Frag, K.In h ∧ SaysS fa fn tf h K
  of := fun _ _ e => ⟨_, frT_in, saysS_of e⟩
  keeps := fun _ _ _ ⟨K, hK, c⟩ k => ⟨K, PySem.W.Frag.In.keeps hK k, ⟨c.fa, c.fn, c.hd, c.out, fun p hp => k _ _ (c.empty p hp)⟩⟩
theorem obsS_eq {n : Nat} {fa : List (Fr → Bool)} {fn : List Dn} {tf : List (Fr → Addr)} {g : Addr → Option Obj} {s : Shared} (h : ∀ a, g a = s.heap.get? a) : obsS n fa fn tf g = (hookS n fa fn tf).obs s := by
  have e : g = s.heap.get? := funext h
  rw [e] <;> rfl
section
variable {fa : List (Fr → Bool)} {fn : List Dn} {tf : List (Fr → Addr)} {h : Heap} {K : Fr}
theorem SaysS.fact (c : SaysS fa fn tf h K) (i : Nat) {f : Fr → Bool} (e : fa[i]? = some f := by rfl) : f K = true := c.fa f (List.mem_of_getElem? e)
theorem SaysS.def_ (c : SaysS fa fn tf h K) (i : Nat) {d : Dn} (e : fn[i]? = some d := by rfl) : FunF K d.name d.qual d.st (d.cl K) (d.at_ K) := c.fn d (List.mem_of_getElem? e)
end
/-! ### names of the module -/
section
variable {K : Fr} {h : Heap} {mg : Str → Option Value}
def gloB (K : Fr) (xs : List Str) : Bool := xs.all fun x => eqO (PySem.W.nsIn K mainGlobals x) (some (some (.ref (ga K x))))
theorem gloB_ok (X : K.In h) (G : h.Ns mainGlobals mg) {xs : List Str} (c : gloB K xs = true) {x : Str} (hx : x ∈ xs) : mg x = some (.ref (ga K x)) := PySem.W.mg_of X G (eqO_ok (List.all_eq_true.mp c x hx))
def freeB (K : Fr) (xs : List Str) : Bool := xs.all fun x => eqO (PySem.W.nsIn K mainGlobals x) (some none)
theorem freeB_ok (X : K.In h) (G : h.Ns mainGlobals mg) {xs : List Str} (c : freeB K xs = true) {x : Str} (hx : x ∈ xs) : mg x = none := PySem.W.mg_none_of X G (eqO_ok (List.all_eq_true.mp c x hx))
def keepB (K : Fr) (xs : List Str) : Bool := xs.all fun x => PySem.W.keepIn K (.ref (ga K x))
theorem keepB_ok {xs : List Str} (c : keepB K xs = true) {x : Str} (hx : x ∈ xs) : PySem.W.keepIn K (.ref (ga K x)) = true := List.all_eq_true.mp c x hx
end
/-! ### an own error whose __init__ says super().__init__(text) and stores a field -/
def oexB (K : Fr) (C : Addr) : Bool := match K.lookup C with
  | some ⟨.type t, _, .cls cd, sl⟩ => decide (t = "type") && (decide (cd.mro.head? = some (.ref C)) && (PySem.HandSPX.refsVE cd.mro.tail && (cd.hasDict && (!cd.hasDel && (match sl.toList with
    | [_, _, _, _, some (.builtin n), _] => decide (n = "ValueError.__new__")
    | _ => false)))))
  | _ => false
theorem oexB_ok {K : Fr} {C : Addr} (h : oexB K C = true) : ∃ nm q N bs bm sn sub ab col dd k0 k1 k2 k3 k5, K.lookup C = some (excClassObj nm q C N bs bm true sn sub ab col dd k0 k1 k2 k3 k5 "ValueError.__new__") ∧ PySem.HandSPX.refsVE bm = true := by
  unfold oexB at h
  split at h
  · rename_i t dd cd sl e
    obtain ⟨h1, h⟩ := ba h
    obtain ⟨h2, h⟩ := ba h
    obtain ⟨h3, h⟩ := ba h
    obtain ⟨h4, h⟩ := ba h
    obtain ⟨h5, h6⟩ := ba h
    split at h6
    · rename_i k0 k1 k2 k3 n k5 hs
      obtain ⟨nm, bs, mro, N, q, hd, sn, sub, ab, col, hdel⟩ := cd
      have a1 : t = "type" := of_decide_eq_true h1
      have a2 : mro.head? = some (.ref C) := of_decide_eq_true h2
      have a4 : hd = true := h4
      have a5 : hdel = false := by
        cases z : hdel with
        | false => rfl
        | true =>
          have h5' : (!hdel) = true := h5
          rw [z] at h5'
          cases h5'
      have a6 : n = "ValueError.__new__" := of_decide_eq_true h6
      have a7 : sl = #[k0, k1, k2, k3, some (.builtin n), k5] := by
        have z : sl.toList.toArray = [k0, k1, k2, k3, some (.builtin n), k5].toArray := by rw [hs]
        simpa using z
      cases mro with
      | nil => cases a2
      | cons m0 bm =>
        have a8 : m0 = .ref C := Option.some.inj a2
        subst a1 a4 a5 a6 a7 a8
        exact ⟨nm, q, N, bs, bm, sn, sub, ab, col, dd, k0, k1, k2, k3, k5, e, h3⟩
    · cases h6
  · cases h
def cellB (K : Fr) (cc C : Addr) : Bool := match K.lookup cc with
  | some ⟨_, _, .cell (some (.ref D)), _⟩ => decide (D = C)
  | _ => false
theorem cellB_ok {K : Fr} {cc C : Addr} (h : cellB K cc C = true) : ∃ (cl : Value) (cld : Option Addr) (csl : Array (Option Value)), K.lookup cc = some ⟨cl, cld, .cell (some (.ref C)), csl⟩ := by
  unfold cellB at h
  split at h
  · rename_i cl cld D csl e
    rw [of_decide_eq_true h] at e
    exact ⟨cl, cld, csl, e⟩
  · cases h
def fileB (K : Fr) (c : Addr) (file : Str) : Bool := match K.lookup c with
  | some ⟨_, _, .fields vs, _⟩ => (match (vs[2]? : Option Value) with
    | some (.str fl _) => file == fl
    | _ => false)
  | _ => false
theorem fileB_ok {K : Fr} {c : Addr} {file : Str} (h : fileB K c file = true) : ∃ (oc : Value) (od : Option Addr) (vs : Array Value) (sl : Array (Option Value)) (fl : Str) (tf : Tok), K.lookup c = some ⟨oc, od, .fields vs, sl⟩ ∧ vs[2]? = some (.str fl tf) ∧ (file == fl) = true := by
  unfold fileB at h
  split at h
  · rename_i oc od vs sl e
    split at h
    · rename_i fl tf e2
      exact ⟨oc, od, vs, sl, fl, tf, e, e2, h⟩
    · cases h
  · cases h
/-- where an error's __init__ stands -/
def eInit (K : Fr) (x : Str) : Addr := ma K (ga K x) "__init__"
def errB (file : Str) (K : Fr) (x fld : Str) : Bool :=
  oexB K (ga K x) && (cellB K (cellA K (eInit K x)) (ga K x) && (fileB K (codeA K (eInit K x)) file && (PySem.W.isClsIn K (ga K x) && (eqO (PySem.W.nsIn K cStatics "thirdparty.any") (some none) &&
  (decide (PySem.W.mroIn K (ga K x) (.ref (ga K x)) = some true) && (eqO (PySem.W.ks_superIn K (ga K x) (ga K x) "__init__") (some (some (.builtin ShX.veI))) && (decide (PySem.W.subIn K (.ref (ga K x)) (.type "ValueError") = some true) &&
  (xfB K (ga K x) && (eqO (PySem.W.findIn K (.ref (ga K x)) fld) (some none) && (decide (PySem.W.exmOne K (.ref (ga K x)) (.ref (ga K x)) = some true) && (eqO (PySem.W.findIn K (.ref (ga K x)) "__init__") (some (some (.ref (eInit K x)))) &&
  (decide (PySem.W.typeIn K (.ref (eInit K x)) = some (.type "function")) && (eqO (PySem.W.findIn K (.ref (ga K x)) "__setattr__") (some (some (.builtin "object.__setattr__"))) && (decide (PySem.W.subIn K (.ref (ga K x)) (.type "BaseException") = some true) &&
  (decide (PySem.W.typeIn K (.ref (ga K x)) = some (.type "type")) && PySem.W.keepIn K (.ref (ga K x)))))))))))))))))
section
variable {K : Fr} {h : Heap} {mg : Str → Option Value} {P : Program}
/-- the pieces of errB -/
structure ErrF (file : Str) (K : Fr) (x fld : Str) : Prop where
  oex : OexC K (ga K x)
  cell : ∃ (cl : Value) (cld : Option Addr) (csl : Array (Option Value)), K.lookup (cellA K (eInit K x)) = some ⟨cl, cld, .cell (some (.ref (ga K x))), csl⟩
  file : ∃ (oc : Value) (od : Option Addr) (vs : Array Value) (sl : Array (Option Value)) (fl : Str) (tf : Tok), K.lookup (codeA K (eInit K x)) = some ⟨oc, od, .fields vs, sl⟩ ∧ vs[2]? = some (.str fl tf) ∧ (file == fl) = true
  isC : PySem.W.isClsIn K (ga K x) = true
  opq : PySem.W.nsIn K cStatics "thirdparty.any" = some none
  sup : SupCls K (ga K x) (ga K x)
  xf : XfC K (ga K x)
  no : PySem.W.findIn K (.ref (ga K x)) fld = some none
  exm : PySem.W.exmOne K (.ref (ga K x)) (.ref (ga K x)) = some true
  ini : PySem.W.findIn K (.ref (ga K x)) "__init__" = some (some (.ref (eInit K x)))
  ity : PySem.W.typeIn K (.ref (eInit K x)) = some (.type "function")
theorem errB_ok {file x fld : Str} (c : errB file K x fld = true) : ErrF file K x fld := by
  obtain ⟨c1, c⟩ := ba c
  obtain ⟨c2, c⟩ := ba c
  obtain ⟨c3, c⟩ := ba c
  obtain ⟨c4, c⟩ := ba c
  obtain ⟨c5, c⟩ := ba c
  obtain ⟨c6, c⟩ := ba c
  obtain ⟨c7, c⟩ := ba c
  obtain ⟨c8, c⟩ := ba c
  obtain ⟨c9, c⟩ := ba c
  obtain ⟨c10, c⟩ := ba c
  obtain ⟨c11, c⟩ := ba c
  obtain ⟨c12, c⟩ := ba c
  obtain ⟨c13, c⟩ := ba c
  obtain ⟨c14, c⟩ := ba c
  obtain ⟨c15, c⟩ := ba c
  obtain ⟨c16, c17⟩ := ba c
  have O : OexC K (ga K x) := ⟨oexB_ok c1, eqO_ok c14, of_decide_eq_true c15, of_decide_eq_true c16, c17⟩
  exact ⟨O, cellB_ok c2, fileB_ok c3, c4, eqO_ok c5, ⟨O, of_decide_eq_true c6, eqO_ok c7, of_decide_eq_true c8⟩, xfB_ok c9, eqO_ok c10, of_decide_eq_true c11, eqO_ok c12, of_decide_eq_true c13⟩
/-- the text of its __init__ -/
theorem err_txt {file x fld qual : Str} {st : Stmt} (E : ErrF file K x fld) (D : FunF K "__init__" qual st [(("__class__" : Str), cellA K (eInit K x))] (eInit K x)) (hf : P.main.file = file) (sup : mg "super" = none)
    (h1 : ∃ ar : Arg, ((defArgs st).posonlyargs ++ (defArgs st).args).head? = some ar ∧ ar.arg = ("self" : Str)) (h2 : (P.main.scope.names.lookup ("super" : Str)).isSome = false)
    (h3 : (defScope st).names.lookup ("super" : Str) = some .globalImplicit) (h4 : (defScope st).names.lookup ("__class__" : Str) = some .free) (h5 : (defScope st).names.lookup ("self" : Str) = some .local) :
    SupTxt P K mg ⟨"__init__", qual, defArgs st, defBody st, defScope st, [(("__class__" : Str), cellA K (eInit K x))], codeA K (eInit K x)⟩ (eInit K x) (cellA K (eInit K x)) (ga K x) := by
  obtain ⟨oc, od, doc, pm, an, ct, osl, lk, hcd⟩ := D.ex
  exact ⟨⟨oc, od, doc, pm, an, ct, osl, lk⟩, hcd, E.cell, rfl, by rw [hf]; exact E.file, h1, sup, h2, h3, h4, h5, E.isC, E.opq⟩
end
/-! ### an own error without a field, a property, an operator -/
def ernB (K : Fr) (x : Str) : Bool := PySem.W.excIn K (ga K x) veBase "ValueError.__new__" && (PySem.W.keepIn K (.ref (ga K x)) && (decide (PySem.W.subIn K (.ref (ga K x)) (.type "BaseException") = some true) && (decide (PySem.W.typeIn K (.ref (ga K x)) = some (.type "type")) &&
  decide (PySem.W.exmOne K (.ref (ga K x)) (.ref (ga K x)) = some true))))
/-- the getter of a property -/
def getA (K : Fr) (C : Addr) (m : Str) : Addr := He5.wf K C "property" m
def propB (K : Fr) (C : Addr) (m : Str) : Bool := eqO (PySem.W.findIn K (.ref C) m) (some (some (.ref (ma K C m)))) && (eqO (PySem.W.specialIn K (.ref (ma K C m)) "__get__") (some (some (.builtin "property.__get__"))) && (decide (PySem.W.takesIn K (.ref (ma K C m)) = some true) &&
  (match PySem.W.recIn K (ma K C m) "property" with
    | some (.ref _ :: _) => true
    | _ => false)))
theorem propB_ok {K : Fr} {C : Addr} {m : Str} (c : propB K C m = true) : PropOf K C m (ma K C m) (getA K C m) := by
  obtain ⟨c1, c⟩ := ba c
  obtain ⟨c2, c⟩ := ba c
  obtain ⟨c3, c4⟩ := ba c
  refine ⟨eqO_ok c1, eqO_ok c2, of_decide_eq_true c3, ?_⟩
  unfold getA He5.wf
  split at c4
  · rename_i f r e
    exact ⟨r, by rw [e]⟩
  · cases c4
/-- a def of the class under a name that Python itself looks up -/
def dunB (K : Fr) (C : Addr) (m : Str) : Bool := eqO (PySem.W.findIn K (.ref C) m) (some (some (.ref (ma K C m)))) && (PySem.W.isFn K (.ref (ma K C m)) && (PySem.W.fnIn K (ma K C m) && PySem.W.keepIn K (.ref (ma K C m))))
structure DunF (K : Fr) (C : Addr) (m : Str) : Prop where
  at_ : PySem.W.findIn K (.ref C) m = some (some (.ref (ma K C m)))
  isF : PySem.W.isFn K (.ref (ma K C m)) = true
  fn : PySem.W.fnIn K (ma K C m) = true
  kp : PySem.W.keepIn K (.ref (ma K C m)) = true
theorem dunB_ok {K : Fr} {C : Addr} {m : Str} (c : dunB K C m = true) : DunF K C m := by
  obtain ⟨c1, c⟩ := ba c
  obtain ⟨c2, c⟩ := ba c
  obtain ⟨c3, c4⟩ := ba c
  exact ⟨eqO_ok c1, c2, c3, c4⟩
theorem DunF.meth {K : Fr} {C : Addr} {m : Str} (d : DunF K C m) : Meth K C m (ma K C m) := ⟨d.at_, d.isF, d.kp⟩
theorem DunF.mkr {K : Fr} {C : Addr} (d : DunF K C "__init__") (m : PySem.W.makesIn K C = true) (k : PySem.W.keepIn K (.ref C) = true) : Mk K C (ma K C "__init__") := ⟨m, d.at_, d.isF, k⟩
theorem DunF.callO {K : Fr} {C : Addr} (d : DunF K C "__call__") : StX.CallO K C (ma K C "__call__") := ⟨d.at_, d.isF, d.fn⟩
/-! ### functions without a closure -/
section
variable {K : Fr} {x qual : Str} {st : Stmt} {f : Addr}
/-- its object -/
theorem FunF.funW (F : FunF K x qual st [] f) (kp : PySem.W.keepIn K (.ref f) = true) : ∃ fd, L2.Fun K x qual st f fd ∧ (∀ ps : List Str, (∀ (kV doc pm : Value) (an : Option Addr) (cdv ct : Value) (us : List Value), us.length = ps.length → bindArgs (PySem.W.fnOf x qual (defArgs st) (defBody st) (defScope st) .none kV doc pm an cdv ct) ⟨us, []⟩ = pure (ps.zip us)) → Binds K fd ps []) ∧
    ∀ ps : List Str, (∀ (kV doc pm : Value) (an : Option Addr) (cdv ct : Value) (us : List Value), us.length = ps.length → bindArgs (PySem.W.fnOf x qual (defArgs st) (defBody st) (defScope st) .none kV doc pm an cdv ct) ⟨us, []⟩ = pure (ps.zip us)) → ∀ (s : Shared) (us : List Value), us.length = ps.length → BindsTo s fd ⟨us, []⟩ (ps.zip us) := by
  obtain ⟨oc, od, doc, pm, an, ct, osl, lk, hcd⟩ := F.ex
  exact ⟨_, ⟨⟨oc, od, .none, doc, pm, an, _, ct, osl, rfl, lk, hcd⟩, kp⟩, fun ps h => .all (h .none doc pm an _ ct), fun ps h s us hl => .of_eq (h .none doc pm an _ ct us hl)⟩
end
end Shh
set_option Elab.async false
set_option linter.all false
set_option maxRecDepth 100000
set_option maxHeartbeats 2000000
/-! A list comprehension whose element may rest on what the block's start knows of the heap itself. -/
namespace Sho
open PySem PySem.Spec PyProof.Rows L2
section
variable {X : Cx} {scope : Scope} {fp : List Addr} {own : List (Str × Nat)}
/-- the block's environment, made at s -/
abbrev blkEnv (X : Cx) (scope : Scope) (s : Shared) : Env := compEnvC scope (cellsFrom (s.heap.objs.size + 1) scope.names (cloFrom X.env.cells scope.names [])) s.heap.objs.size X.env
abbrev blkS (scope : Scope) (s : Shared) : Shared := { s with heap := pushCells (s.heap.push { cls := .type "dict", data := .dict #[] }) scope.names }
/-- out of the block: its state is one of the def's -/
theorem blk_out {pins : List (Addr × Obj)} {σ σ' : L2.St} {H H' : Hp} {s s' : Shared} (I : Inv X pins σ H s) (hfp : ∀ b ∈ fp, FpOk X pins H b)
    (J : Inv (X.blk s H scope (blkEnv X scope s) fp) [] σ' H' s') : Inv X pins σ H' s' ∧ ∃ m, s'.heap.Ns s.heap.objs.size m ∧ FpOk X pins H' s.heap.objs.size := by
  obtain ⟨m, hm, _⟩ := J.loc
  refine ⟨I.call' (ch := fp) J.os J.base J.hok J.bare fun b hb => ?_, m, hm, I.fpOk (Nat.le_refl _) J.free⟩
  obtain ⟨_, z1, z2, z3, z4, z5⟩ := hfp b hb
  exact ⟨z3, z1, z4, z5⟩
/-- a tracked list that grows -/
theorem grow {pins : List (Addr × Obj)} {σ : L2.St} {H : Hp} {s : Shared} (I : Inv X pins σ H s) :
    Inv X pins σ (upd H s.heap.objs.size (.lst [])) { s with heap := s.heap.push { cls := .type "list", data := .seq ([] : List Value).toArray } } :=
  I.laid (t' := s.toks) (fun b o e => Heap.get?_push_of_some _ e) (Nat.le_refl _) ⟨Nat.zero_le _, [], 0, .nil, Heap.get?_push_size _ rfl⟩

/-- the block's loop, by the readings of its target, tests and element -/
theorem lc_loop {B : Cx} {R : Result → Shared → Prop} {elt tg iter : Expr} {ifs : List Expr} {pos : Pos} {g : TG} {tt : TT} {te : TE} {J : It} {it D : Addr} {tn : Nat → Heap → Prop} {W : Nat → Nat → Hp → Prop} {σ : L2.St} {vs : List Nat}
    (hc : B.calm = true) (hxe : B.xe = fun _ _ => False) (T : Turn B.prog B.w B.K tg J fp it tn) (pg : PG B tg g) (pt : PTs B ifs tt) (pe : PE B elt te)
    (fpok : ∀ (pins : List (Addr × Obj)) (τ : L2.St) (H : Hp) (s : Shared), Inv B [] τ H s → (∀ b ∈ fp, H b = none) → ∀ b ∈ fp, FpOk B [] H b)
    (turn : ∀ (i m : Nat) (H : Hp), W i m H → (J.stop i H ∧ ∀ s, Inv B [] σ H s → R (.ok .next) s) ∨
      (J.go i H ∧ ∃ Nx : Hp → Prop, (∀ H', Nx H' → ∃ m', m' < m ∧ W (i + 1) m' H') ∧ ∀ x H', J.yld i H x H' → g x σ H' fun σ2 H2 => wipe σ2 vs = σ ∧ tt σ2 H2 fun b H3 =>
        if b = true then te σ2 H3 fun y H4 => ∃ acc, H4 D = some (.lst acc) ∧ acc.length < sizeLine ∧ Nx (upd H4 D (.lst (acc ++ [y]))) else Nx H3))
    {m : Nat} {H : Hp} {s : Shared} (I : Inv B [] σ H s) (st : tn 0 s.heap) (hn : ∀ b ∈ fp, H b = none) (w : W 0 m H) :
    codeAny (model B.prog B.w) B.A (.compLoop (.ListComp elt [⟨tg, iter, ifs, 0⟩] scope pos) 0 (.ref it) (.ref D) B.env) R s := by
  refine compLoop_any (fun n s' => ∃ i H', Inv B [] σ H' s' ∧ tn i s'.heap ∧ (∀ b ∈ fp, H' b = none) ∧ W i n H') ?_ m ⟨0, H, I, st, hn, w⟩
  rintro n s5 ⟨i, H5, I5, st5, n5, w5⟩
  rcases turn i n H5 w5 with ⟨stop, fin⟩ | ⟨go, Nx, less, step⟩
  · refine thnF (T.done B rfl rfl rfl hc i [] s5 σ H5 (fun _ _ => False) I5 (fpok [] _ _ _ I5 n5) st5 stop) fun r s6 x => ?_
    obtain ⟨rfl, I6⟩ := x
    exact fin _ I6
  · refine thnF (T.item B rfl rfl rfl hc i [] s5 σ H5 (fun _ _ => False) I5 (fpok [] _ _ _ I5 n5) st5 go) fun r s6 x => ?_
    obtain ⟨u, rfl, x⟩ := x
    refine thnF x fun _ s7 y => ?_
    obtain ⟨v, H7, I7, rv, yl, st7, n7⟩ := y
    have P7 := I7.pinned (fpok [] _ _ _ I7 n7) (T.obj _ _ st7)
    have pg1 := pg.run _ s7 σ H7 v u _ P7 rv (step v H7 yl)
    rw [hxe] at pg1
    refine thnF pg1 fun _ s8 x8 => ?_
    obtain ⟨σ8, H8, I8, back, q8⟩ := x8
    have pt1 := pt.run _ s8 σ8 H8 _ I8 q8
    rw [hxe] at pt1
    refine thnF pt1 fun b s9 x9 => ?_
    obtain ⟨H9, I9, q9⟩ := x9
    have next : ∀ (H' : Hp) (s' : Shared), Inv B ([] ++ pinsAt fp s7.heap) σ8 H' s' → Nx H' → ∃ m, m < n ∧ ∃ i H', Inv B [] σ H' s' ∧ tn i s'.heap ∧ (∀ b ∈ fp, H' b = none) ∧ W i m H' := fun H' s' I' nx => by
      obtain ⟨m', lt, w'⟩ := less H' nx
      have stay : ∀ b ∈ fp, ∀ o, s7.heap.get? b = some o → s'.heap.get? b = some o ∧ H' b = none := fun b hb o e => by
        have z := I'.pin (b, o) (List.mem_append_right _ (List.mem_append_right _ (mem_pinsAt hb e)))
        exact ⟨z.1, z.2.1⟩
      have lens : σ.length = σ8.length := by rw [← back, wipe_length]
      refine ⟨m', lt, i + 1, H', (I'.unpinned (pins := [])).weak lens (fun j v e => ?_), T.keep _ _ _ st7 fun b hb o e => (stay b hb o e).1, fun b hb => ?_, w'⟩
      · rw [← back] at e
        exact (wipe_some e).1
      · obtain ⟨o, e, _⟩ := T.obj _ _ st7 b hb
        exact (stay b hb o e).2
    cases b with
    | false =>
      rw [if_neg Bool.false_ne_true] at q9
      rw [if_neg Bool.false_ne_true]
      exact next _ _ I9 q9
    | true =>
      rw [if_pos rfl] at q9
      rw [if_pos rfl]
      have pe1 := pe.run _ s9 σ8 H9 _ I9 q9
      rw [hxe] at pe1
      refine thnF pe1 fun z s10 x10 => ?_
      obtain ⟨yv, H10, I10, r10, acc, hD, hz, nx⟩ := x10
      exact app_ok (X := B) I10 hD hz r10 fun s11 I11 => next _ _ I11 nx
/-- P: what the start of the block knows, of the slots and of the state; te: the element's reading, by the slots -/
theorem pe_lcS {P : L2.St → Shared → Hp → Prop} {elt tg iter : Expr} {ifs : List Expr} {pos : Pos} {wi : TI} {g : TG} {tt : TT} {te : L2.St → TE} (hc : X.calm = true) (hN : X.N.Nodup) (hi : PI X tg iter wi) (ok : BlkOk X.N X.env.scope scope own)
    (hP : ∀ (pins : List (Addr × Obj)) (σ : L2.St) (H : Hp) (s : Shared), Inv X pins σ H s → P σ s H)
    (hg : ∀ (s : Shared) (H : Hp) (C : Addr) (cl : List (Str × Addr)) (fp : List Addr), PG (X.blk s H scope (compEnvC scope cl C X.env) fp) tg g)
    (ht : ∀ (s : Shared) (H : Hp) (C : Addr) (cl : List (Str × Addr)) (fp : List Addr), PTs (X.blk s H scope (compEnvC scope cl C X.env) fp) ifs tt)
    (he : ∀ (σ : L2.St) (s : Shared) (H : Hp) (C : Addr) (cl : List (Str × Addr)) (fp : List Addr), P σ s H → (∀ b ∈ fp, ∃ o, s.heap.get? b = some o ∧ ∀ v, o.data ≠ .cell v) → PE (X.blk s H scope (compEnvC scope cl C X.env) fp) elt (te σ)) (hs : ∀ x, foldedSetIterable iter X.env x = pure x := by intro _; rfl) :
    PE X (.ListComp elt [⟨tg, iter, ifs, 0⟩] scope pos) (fun σ H Q => tLc wi g tt (te σ) (own.map (·.2)) σ H Q) := by
  refine ⟨fun pins s σ H Q I h => ?_⟩
  rw [eval_ListComp]
  have clo : ∀ y ∈ scope.names, y.2 = .free → ∃ c, X.env.cells.lookup y.1 = some c := fun y hy e => (ok.free y hy e).elim (fun k => I.ok.has _ (.inl k)) fun k => I.ok.has _ (.inr k)
  refine wpAny_comprehension_free (use := none) rfl hs (closure_ok clo) ok.kind (fun y hy e => (ok.uniq y hy).trans (congrArg some e))
    (thn (hi.run pins s σ H _ I h) fun xv s1 hx => thn hx fun itv s2 h2 => ?_)
  obtain ⟨it, fp, tn, J, H2, rfl, I2, T, st2, f2, q⟩ := h2
  refine wpAny_newObj_type (newEnv_comp ?_) (show 0 ≤ sizeLine by decide)
  have hDn : H2 s2.heap.objs.size = none := I2.hok.fresh (Nat.le_refl _)
  obtain ⟨W, ⟨m0, w0⟩, turn⟩ := q _ hDn
  have I3 := grow I2
  have old : ∀ b ∈ fp, b < s2.heap.objs.size := fun b hb => (T.obj _ _ st2 b hb).elim fun o e => Heap.lt_size e.1
  generalize hD : s2.heap.objs.size = D at *
  generalize hs3 : ({ s2 with heap := s2.heap.push { cls := .type "list", data := .seq ([] : List Value).toArray } } : Shared) = s3 at *
  have k3 : ∀ b o, s2.heap.get? b = some o → s3.heap.get? b = some o := fun b o e => by
    rw [← hs3]
    exact Heap.get?_push_of_some _ e
  have z3 : s3.heap.objs.size = D + 1 := by
    rw [← hs3, ← hD]
    exact Heap.size_push ..
  have st3 : tn 0 s3.heap := T.keep _ _ _ st2 fun b _ o e => k3 b o e
  have f3 : ∀ b ∈ fp, FpOk X pins (upd H2 D (.lst [])) b ∧ b < s3.heap.objs.size := fun b hb =>
    ⟨⟨(upd_ne (Nat.ne_of_lt (old b hb))).trans (f2 b hb).1, (f2 b hb).2⟩, by rw [z3]; exact Nat.lt_succ_of_lt (old b hb)⟩
  generalize hH3 : upd H2 D (.lst []) = H3 at *
  have know := hP pins σ H3 s3 I3
  have I4 := block_start I3 ok hN f3
  have pe := he σ s3 H3 s3.heap.objs.size (cellsFrom (s3.heap.objs.size + 1) scope.names (cloFrom X.env.cells scope.names [])) fp know (T.obj _ _ st3)
  have pg := hg s3 H3 s3.heap.objs.size (cellsFrom (s3.heap.objs.size + 1) scope.names (cloFrom X.env.cells scope.names [])) fp
  have pt := ht s3 H3 s3.heap.objs.size (cellsFrom (s3.heap.objs.size + 1) scope.names (cloFrom X.env.cells scope.names [])) fp
  show codeAny _ _ (.compStart (.ListComp elt [⟨tg, iter, ifs, 0⟩] scope pos) 0 (.ref it) (.ref D) (blkEnv X scope s3)) (compPost (model X.prog X.w) X.A X.xe none _ (.ref D) s3.heap.objs.size) (blkS scope s3)
  have st4 : tn 0 (blkS scope s3).heap := T.keep _ _ _ st3 fun b _ o e => pushCells_keeps _ _ _ _ (Heap.get?_push_of_some _ e)
  have nfp : ∀ b ∈ fp, H3 b = none := fun b hb => (f3 b hb).1.1
  have loop : codeAny (model X.prog X.w) X.A (.compLoop (.ListComp elt [⟨tg, iter, ifs, 0⟩] scope pos) 0 (.ref it) (.ref D) (blkEnv X scope s3))
      (compPost (model X.prog X.w) X.A X.xe none (EP X pins σ Q) (.ref D) s3.heap.objs.size) (blkS scope s3) := by
    refine lc_loop (B := X.blk s3 H3 scope (blkEnv X scope s3) fp) (σ := wipe σ (own.map (·.2))) (vs := own.map (·.2)) (W := W) hc rfl T pg pt pe (fun _ τ H' s' J' n' b hb => ?_) (fun i m H' w' => ?_) I4 st4 nfp w0
    · refine ⟨n' b hb, (J'.ok.exf b hb).1, J'.ok.exfs b hb, .inl hb, fun x c e => (J'.ok.exf b hb).2 x c e, fun p hp => ?_⟩
      exact absurd (show p ∈ ([] : List (Addr × Obj)) ++ [] from hp) (by simp)
    · rcases turn i m H' w' with ⟨a, b⟩ | ⟨a, Nx, b, c⟩
      · refine .inl ⟨a, fun s' J' => ?_⟩
        obtain ⟨I6, m6, ns6, f6⟩ := blk_out I3 (fun b hb => (f3 b hb).1) J'
        obtain ⟨f0, f1, f2, f3', f4, f5⟩ := f6
        exact ⟨m6, ns6, fun h'' sb => ⟨.ref D, H', I6.turned (t' := s'.toks) (fun b o hb e => (sb.2 b hb).trans e) f0 f1 f3' f4 f5, rfl, b⟩⟩
      · exact .inr ⟨a, Nx, b, c⟩
  exact codeAny_compStart_list loop (T.self X.A 0 _ _ _ st4 loop)
end

/-! ### what a comprehension gathers -/
section
/-- the values of the first n turns -/
def gather (f : Nat → Option V) (n : Nat) : List V := (List.range n).filterMap f
theorem gather_zero (f : Nat → Option V) : gather f 0 = [] := rfl
theorem gather_some {f : Nat → Option V} {n : Nat} {y : V} (h : f n = some y) : gather f (n + 1) = gather f n ++ [y] := by
  unfold gather
  rw [List.range_succ, List.filterMap_append]
  simp [h]
theorem gather_none {f : Nat → Option V} {n : Nat} (h : f n = none) : gather f (n + 1) = gather f n := by
  unfold gather
  rw [List.range_succ, List.filterMap_append]
  simp [h]
theorem gather_len (f : Nat → Option V) (n : Nat) : (gather f n).length ≤ n := by
  unfold gather
  exact Nat.le_trans (List.length_filterMap_le ..) (by simp)
/-- over a list: the items kept, each made anew -/
theorem gather_take {α : Type} (xs : List α) (p : α → Option V) : ∀ n, n ≤ xs.length → gather (fun i => (xs[i]?).bind p) n = (xs.take n).filterMap p
  | 0, _ => rfl
  | n + 1, h => by
    have ih := gather_take xs p n (by omega)
    have hn : xs[n]? = some (xs[n]'(by omega)) := List.getElem?_eq_getElem (by omega)
    rw [List.take_add_one, hn, List.filterMap_append, ← ih]
    cases e : p (xs[n]'(by omega)) with
    | none =>
      rw [gather_none (by rw [hn]; exact e)]
      simp [e]
    | some y =>
      rw [gather_some (y := y) (by rw [hn]; exact e)]
      simp [e]
theorem gather_list {α : Type} (xs : List α) (p : α → Option V) : gather (fun i => (xs[i]?).bind p) xs.length = xs.filterMap p := by
  rw [gather_take xs p _ (Nat.le_refl _), List.take_length]
theorem gather_map {α : Type} (xs : List α) (f : α → V) : gather (fun i => (xs[i]?).map f) xs.length = xs.map f := by
  have e : (fun i : Nat => (xs[i]?).map f) = fun i : Nat => (xs[i]?).bind fun x => some (f x) := by
    funext i
    cases xs[i]? <;> rfl
  rw [e, gather_list]
  simp
theorem gather_fn (f : Nat → V) (n : Nat) : gather (fun i => some (f i)) n = (List.range n).map f := by
  unfold gather
  simp
/-- a comprehension whose turns leave what is known: f i, what the i-th turn gives -/
theorem lc_gather {J : It} {n : Nat} {G : Hp → Prop} {Y : Nat → Hp → V → Hp → Prop} (w : Walk J n G Y) {g : TG} {tt : TT} {te : TE} {vs : List Nat} {σ : L2.St} {H1 : Hp} {D : Addr} {Qd : Hp → Prop} (f : Nat → Option V) (hD : H1 D = none) (hz : n ≤ sizeLine)
    (hG : ∀ H, Same H1 H → G H)
    (hs : ∀ i x H H', i < n → Same H1 H → Y i H x H' → ∀ R : Option V → Hp → Prop, (∀ H4, Same H H4 → R (f i) H4) →
      g x (wipe σ vs) H' fun σ2 H2 => wipe σ2 vs = wipe σ vs ∧ tt σ2 H2 fun b H3 => if b = true then te σ2 H3 fun y H4 => R (some y) H4 else R none H3)
    (hd : ∀ H, Same H1 H → H D = some (.lst (gather f n)) → Qd H) :
    ∃ W : Nat → Nat → Hp → Prop, (∃ m, W 0 m (upd H1 D (.lst []))) ∧ ∀ i m H, W i m H →
      (J.stop i H ∧ Qd H) ∨ (J.go i H ∧ ∃ Nx : Hp → Prop, (∀ H', Nx H' → ∃ m', m' < m ∧ W (i + 1) m' H') ∧ ∀ x H', J.yld i H x H' → g x (wipe σ vs) H' fun σ2 H2 => wipe σ2 vs = wipe σ vs ∧ tt σ2 H2 fun b H3 =>
        if b = true then te σ2 H3 fun y H4 => ∃ acc, H4 D = some (.lst acc) ∧ acc.length < sizeLine ∧ Nx (upd H4 D (.lst (acc ++ [y]))) else Nx H3) := by
  have s0 : ∀ o, Same H1 (upd H1 D o) := fun o b u e => by rw [upd_ne (ne_of_none e hD)]; exact e
  refine lc_it w (fun i H => Same H1 H ∧ H D = some (.lst (gather f i))) ⟨s0 _, upd_same⟩ (fun i H _ p => hG H p.1) (fun i x H H' hi p y => ?_) fun H p => hd H p.1 p.2
  obtain ⟨p1, p2⟩ := p
  refine hs i x H H' hi p1 y (fun oy H4 => match oy with
    | some y => ∃ acc, H4 D = some (.lst acc) ∧ acc.length < sizeLine ∧ Same H1 (upd H4 D (.lst (acc ++ [y]))) ∧ upd H4 D (.lst (acc ++ [y])) D = some (.lst (gather f (i + 1)))
    | none => Same H1 H4 ∧ H4 D = some (.lst (gather f (i + 1)))) fun H4 q => ?_
  have p4 := p1.trans q
  cases e : f i with
  | none => exact ⟨p4, by rw [gather_none e]; exact q _ _ p2⟩
  | some y =>
    refine ⟨gather f i, q _ _ p2, Nat.lt_of_le_of_lt (gather_len f i) (Nat.lt_of_lt_of_le hi hz), fun b u z => ?_, by rw [upd_same, gather_some e]⟩
    rw [upd_ne (ne_of_none z hD)]
    exact p4 b u z
/-- .. without tests -/
theorem lc_map {J : It} {n : Nat} {G : Hp → Prop} {Y : Nat → Hp → V → Hp → Prop} (w : Walk J n G Y) {g : TG} {te : TE} {vs : List Nat} {σ : L2.St} {H1 : Hp} {D : Addr} {Qd : Hp → Prop} (f : Nat → Option V) (hD : H1 D = none) (hz : n ≤ sizeLine)
    (hG : ∀ H, Same H1 H → G H)
    (hs : ∀ i x H H', i < n → Same H1 H → Y i H x H' → ∀ R : V → Hp → Prop, (∀ y H4, Same H H4 → f i = some y → R y H4) →
      g x (wipe σ vs) H' fun σ2 H2 => wipe σ2 vs = wipe σ vs ∧ te σ2 H2 R) (hf : ∀ i, i < n → ∃ y, f i = some y)
    (hd : ∀ H, Same H1 H → H D = some (.lst (gather f n)) → Qd H) :
    ∃ W : Nat → Nat → Hp → Prop, (∃ m, W 0 m (upd H1 D (.lst []))) ∧ ∀ i m H, W i m H →
      (J.stop i H ∧ Qd H) ∨ (J.go i H ∧ ∃ Nx : Hp → Prop, (∀ H', Nx H' → ∃ m', m' < m ∧ W (i + 1) m' H') ∧ ∀ x H', J.yld i H x H' → g x (wipe σ vs) H' fun σ2 H2 => wipe σ2 vs = wipe σ vs ∧ tYes σ2 H2 fun b H3 =>
        if b = true then te σ2 H3 fun y H4 => ∃ acc, H4 D = some (.lst acc) ∧ acc.length < sizeLine ∧ Nx (upd H4 D (.lst (acc ++ [y]))) else Nx H3) := by
  refine lc_gather w f hD hz hG (fun i x H H' hi s y R k => ?_) hd
  have z := hs i x H H' hi s y (fun y H4 => R (some y) H4) fun y H4 q e => by
    have := k H4 q
    rw [e] at this
    exact this
  exact z
/-- .. whose turns make new things: Rl i y H, what holds of the i-th -/
theorem lc_rel {J : It} {n : Nat} {G : Hp → Prop} {Y : Nat → Hp → V → Hp → Prop} (w : Walk J n G Y) {g : TG} {te : TE} {vs : List Nat} {σ : L2.St} {H1 : Hp} {D : Addr} {Qd : Hp → Prop} (Rl : Nat → V → Hp → Prop) (hD : H1 D = none) (hz : n ≤ sizeLine)
    (hG : ∀ H, Same H1 H → G H) (stable : ∀ i y H H', (∀ b xs, H b = some (.tup xs) → H' b = some (.tup xs)) → Rl i y H → Rl i y H')
    (hs : ∀ i x H H', i < n → Same H1 H → Y i H x H' → ∀ R : V → Hp → Prop, (∀ y H4, Same H H4 → Rl i y H4 → R y H4) →
      g x (wipe σ vs) H' fun σ2 H2 => wipe σ2 vs = wipe σ vs ∧ te σ2 H2 R)
    (hd : ∀ H ys, Same H1 H → H D = some (.lst ys) → ys.length = n → (∀ i y, ys[i]? = some y → Rl i y H) → Qd H) :
    ∃ W : Nat → Nat → Hp → Prop, (∃ m, W 0 m (upd H1 D (.lst []))) ∧ ∀ i m H, W i m H →
      (J.stop i H ∧ Qd H) ∨ (J.go i H ∧ ∃ Nx : Hp → Prop, (∀ H', Nx H' → ∃ m', m' < m ∧ W (i + 1) m' H') ∧ ∀ x H', J.yld i H x H' → g x (wipe σ vs) H' fun σ2 H2 => wipe σ2 vs = wipe σ vs ∧ tYes σ2 H2 fun b H3 =>
        if b = true then te σ2 H3 fun y H4 => ∃ acc, H4 D = some (.lst acc) ∧ acc.length < sizeLine ∧ Nx (upd H4 D (.lst (acc ++ [y]))) else Nx H3) := by
  have s0 : ∀ o, Same H1 (upd H1 D o) := fun o b u e => by rw [upd_ne (ne_of_none e hD)]; exact e
  refine lc_it w (fun i H => Same H1 H ∧ ∃ ys, H D = some (.lst ys) ∧ ys.length = i ∧ ∀ j y, ys[j]? = some y → Rl j y H) ⟨s0 _, [], upd_same, rfl, fun j y e => by simp at e⟩ (fun i H _ p => hG H p.1) (fun i x H H' hi p y => ?_) fun H p => ?_
  · obtain ⟨p1, ys, p2, p3, p4⟩ := p
    have z := hs i x H H' hi p1 y (fun y H4 => ∃ acc, H4 D = some (.lst acc) ∧ acc.length < sizeLine ∧ Same H1 (upd H4 D (.lst (acc ++ [y]))) ∧
      ∃ ys, upd H4 D (.lst (acc ++ [y])) D = some (.lst ys) ∧ ys.length = i + 1 ∧ ∀ j y', ys[j]? = some y' → Rl j y' (upd H4 D (.lst (acc ++ [y])))) fun y H4 q r => by
        have e4 := q _ _ p2
        have tups : ∀ o b xs, H4 b = some (.tup xs) → upd H4 D o b = some (.tup xs) := fun o b xs e => by
          by_cases hb : b = D
          · rw [hb, e4] at e
            cases e
          · rw [upd_ne hb]
            exact e
        refine ⟨ys, e4, by rw [p3]; exact Nat.lt_of_lt_of_le hi hz, fun b u e => by rw [upd_ne (ne_of_none e hD)]; exact (p1.trans q) b u e, ys ++ [y], upd_same, by simp [p3], fun j y' e => ?_⟩
        by_cases hj : j < ys.length
        · rw [List.getElem?_append_left hj] at e
          exact stable j y' H4 _ (tups _) (stable j y' H H4 (fun b xs e => q _ _ e) (p4 j y' e))
        · rw [List.getElem?_append_right (by omega)] at e
          have ej : j = ys.length := by
            have := (List.getElem?_eq_some_iff.mp e).1
            simp at this
            omega
          subst ej
          simp at e
          subst e
          rw [p3]
          exact stable _ _ H4 _ (tups _) r
    exact z
  · obtain ⟨p1, ys, p2, p3, p4⟩ := p
    exact hd H ys p1 p2 p3 p4
end
end Sho
set_option Elab.async false
set_option linter.all false
set_option maxRecDepth 100000
set_option maxHeartbeats 2000000
/-! Lambdas as objects that are known: made (with a default or without), called. -/
namespace Sho
open PySem PySem.Spec PyProof.Rows L2 LamX NdefX

/-- a lambda's words: those of a def without a body, its expression, its defaults -/
structure LF where
  F : NF
  e : Expr
  dV : Value
abbrev LF.fd (Z : LF) (pm ctv : Value) : FuncData :=
  { PySem.W.kla_fn Z.F.name Z.F.qual Z.F.params Z.e Z.F.scope Z.F.cl pm (.ref Z.F.c) ctv with defaults := Z.dV }
/-- the object at f is that lambda -/
def LamO (f : Addr) (Z : LF) : HO :=
  .ext fun g => ∃ pm ctv : Value, g.get? f = some (({ cls := .type "function", data := .func (Z.fd pm ctv) }) : Obj)
theorem lamO_ne {f : Addr} {Z : LF} (qs : Array Value) : LamO f Z ≠ .tbl qs := fun h => nomatch h
theorem lamO_at {P : Program} {w : World} {H : Hp} {h : Heap} {f : Addr} {Z : LF} (ok : HOk P w H h) (hf : H f = some (LamO f Z)) :
    ∃ pm ctv : Value, h.get? f = some (({ cls := .type "function", data := .func (Z.fd pm ctv) }) : Obj) := by
  obtain ⟨x, _, _⟩ := ok f _ hf
  exact x
/-- nothing that was known is forgotten, but for the tables -/
structure Grows (T : List (Addr × Str)) (H H1 : Hp) : Prop where
  ext : ExtN H H1
  tab : Tabs T H → Tabs T H1
theorem Grows.rfl' {T : List (Addr × Str)} (H : Hp) : Grows T H H := ⟨ExtN.refl H, id⟩
theorem Grows.trans {T : List (Addr × Str)} {H H1 H2 : Hp} (a : Grows T H H1) (b : Grows T H1 H2) : Grows T H H2 := ⟨a.ext.trans b.ext, fun t => b.tab (a.tab t)⟩
theorem Grows.upd {T : List (Addr × Str)} {H : Hp} {p : Addr} {o : HO} (hp : H p = none) : Grows T H (L2.upd H p o) := by
  have e : ∀ b u, H b = some u → L2.upd H p o b = some u := fun b u q => (upd_ne (ne_of_none q hp)).trans q
  exact ⟨ExtN.of e, fun t => Tabs.ext t e⟩
/-- the words of a lambda that is made in X -/
abbrev mkLF (X : Cx) (params : Arguments) (body : Expr) (scope : Scope) (c' : Addr) (dV : Value) : LF :=
  ⟨⟨"<lambda>", X.env.qual ++ "<lambda>", params, [], scope, cloFrom X.env.cells scope.names [], c'⟩, body, dV⟩
section
variable {M : Model} {A : Around} {E : Value → Shared → Prop} {s : Shared}
/-- the making's end, the code object by a premise -/
theorem tail_d {name qual : Str} {params : Arguments} {body : Expr} {scope : Scope} {env : Env} {dV : Value} {pos : Pos} {fl : Nat} {clos : List (Str × Addr)} {mg : Str → Option Value} {Pl : Addr} {Q : Value → Shared → Prop}
    (hcl : closureFor scope env = pure clos) (hge : env.globals = mainGlobals)
    (h : ∀ h1 ctv, (∀ b o, s.heap.get? b = some o → h1.get? b = some o) → s.heap.objs.size ≤ h1.objs.size →
      wpAny M A (functionCode env pos fl name qual params scope (.expr body)) (fun cv s2 => s2.heap.Ns mainGlobals mg ∧ s2.heap.BuiltinsAt mg Pl ∧
        Q (.ref s2.heap.objs.size) { s2 with heap := s2.heap.push { cls := .type "function", data := .func { PySem.W.kla_fn name qual params body scope clos ((mg "__name__").getD .none) cv ctv with defaults := dV } } }) E { s with heap := h1 }) :
    wpAny M A (makeTail name qual params (.expr body) scope env dV .none none pos fl) Q E s := by
  unfold makeTail
  rw [hcl]
  refine wpAny_bind (wpAny_pure ?_)
  cases clos with
  | nil =>
    simp only [List.isEmpty_nil, if_true]
    refine wpAny_bind (wpAny_pure (wpAny_bind (wpAny_mono (h s.heap .none (fun _ _ e => e) (Nat.le_refl _)) (fun cv s2 x => ?_) fun _ _ x => x)))
    obtain ⟨g2, ⟨bm, ob, b1, b2, _, _, b5, b6, b7, b8⟩, q⟩ := x
    rw [hge]
    exact wpAny_bind (wpAny_builtinsFor g2 b1 b2 b5 b6 b7 b8 (wpAny_bind (wpAny_nsGet g2 (wpAny_bind (wpAny_pure (wpAny_newObj_type q (by size_fits)))))))
  | cons c r =>
    simp only [List.isEmpty_cons, Bool.false_eq_true, if_false]
    refine wpAny_bind (wpAny_newTextTuple (wpAny_bind (wpAny_mono (h _ (.ref s.heap.objs.size) (fun _ _ e => Heap.get?_push_of_some _ e) (by rw [Heap.size_push]; omega)) (fun cv s2 x => ?_) fun _ _ x => x)))
    obtain ⟨g2, ⟨bm, ob, b1, b2, _, _, b5, b6, b7, b8⟩, q⟩ := x
    rw [hge]
    exact wpAny_bind (wpAny_builtinsFor g2 b1 b2 b5 b6 b7 b8 (wpAny_bind (wpAny_nsGet g2 (wpAny_bind (wpAny_pure (wpAny_newObj_type q (by size_fits)))))))
end
section
variable {X : Cx} {pins : List (Addr × Obj)} {σ : L2.St} {H : Hp} {s : Shared}
theorem lamO_new {Z : LF} {tk : Nat} {pm ctv : Value} (I : Inv X pins σ H s) :
    Inv X pins σ (upd H s.heap.objs.size (LamO s.heap.objs.size Z))
      { s with heap := s.heap.push (({ cls := .type "function", data := .func (Z.fd pm ctv) }) : Obj), toks := tk } := by
  refine I.laid (fun b u e => Heap.get?_push_of_some _ e) (Nat.le_refl _) ?_
  have here : (s.heap.push (({ cls := .type "function", data := .func (Z.fd pm ctv) }) : Obj)).get? s.heap.objs.size = some (({ cls := .type "function", data := .func (Z.fd pm ctv) }) : Obj) :=
    Heap.get?_push_size _ rfl
  exact ⟨⟨pm, ctv, here⟩, ⟨_, here⟩, fun g1 g2 ⟨p, t, z⟩ st => ⟨p, t, st _ z⟩⟩

theorem lam_made {T : List (Addr × Str)} {c P : Addr} {params : Arguments} {body : Expr} {scope : Scope} {pos : Pos} {dV : Value} {E : Value → Shared → Prop} {Q : Value → Shared → Prop}
    (I : Inv X pins σ H s) (TB : TabB X.base X.mg c P) (hcode : X.env.code = .ref c)
    (hm : (P, X.env.qual ++ "<lambda>") ∈ T) (hu : ∀ p ∈ T, p.1 = P → p.2 = X.env.qual ++ "<lambda>") (hT : Tabs T H)
    (hcl : ∀ y ∈ scope.names, y.2 = .free → ∃ c, X.env.cells.lookup y.1 = some c)
    (h : ∀ (f c' : Addr) (H1 : Hp) (s' : Shared), Inv X pins σ H1 s' → Grows T H H1 → H f = none →
      H1 f = some (LamO f (mkLF X params body scope c' dV)) → H1 c' = some (CodeO c' (X.env.qual ++ "<lambda>")) → Q (.ref f) s') :
    wpAny (model X.prog X.w) X.A (makeTail "<lambda>" (X.env.qual ++ "<lambda>") params (.expr body) scope X.env dV .none none pos pos.line) Q E s := by
  obtain ⟨qs, hP, tri, among⟩ := (show TabS H P (X.env.qual ++ "<lambda>") from hT _ hm)
  refine tail_d (mg := X.mg) (Pl := P) (closure_ok hcl) I.ok.glob fun h1 ctv k1 z1 => ?_
  have I1 : Inv X pins σ H { s with heap := h1 } := I.kept (t' := s.toks) k1
  have hgP : h1.get? P = some { cls := .none, data := .fields qs } := I1.hok P _ hP
  have hbP := TB.bm.keeps I1.bk
  have CH := TB.code.keeps I1.bk
  cases hit : codeAmong pos qs.toList with
  | some cv =>
    obtain ⟨c', rfl, kc⟩ := among pos cv hit
    refine wpAny_functionCode_hit hcode (CH.code hgP tri) hit ⟨I1.mod.glob.keeps I1.bk, hbP, ?_⟩
    have nF : H h1.objs.size = none := I1.hok.fresh (Nat.le_refl _)
    exact h h1.objs.size c' _ _ (lamO_new (Z := mkLF X params body scope c' dV) (pm := (X.mg "__name__").getD .none) (ctv := ctv) (tk := s.toks) I1) (Grows.upd nF) nF upd_same
      ((upd_ne (ne_of_none kc nF)).trans kc)
  | none =>
    refine wpAny_functionCodeX hcode (CH.code hgP tri) (CH.tab hgP) hit fun c' h' tk hx hge hlt _ hrec htb _ => ?_
    have gl := (I1.mod.glob.keeps I1.bk).extBut hx TB.gP
    have bl : h'.BuiltinsAt X.mg P := by
      obtain ⟨bm, ob, b1, b2, b3, b4, b5, b6⟩ := hbP
      exact ⟨bm, ob, b1, b2, b3, b4, hx _ _ b4 b5, b6⟩
    refine ⟨gl, bl, ?_⟩
    obtain ⟨c2, oc, vs, t, e2, hoc, hd, hv⟩ := hrec
    cases e2
    have nC : H c' = none := I1.hok.fresh hge
    have J := inv_table (q := X.env.qual ++ "<lambda>") (t' := tk) (more := #[rawInt pos.line, rawInt pos.col, .ref c']) (h' := h') I1 hP (fun b o hb e => hx b o hb e) htb.2 hge ⟨oc, vs, t, hoc, hd, hv⟩
    generalize hH2 : L2.upd (L2.upd H P (.tbl (qs ++ #[rawInt pos.line, rawInt pos.col, .ref c']))) c' (CodeO c' (X.env.qual ++ "<lambda>")) = H2 at J
    have kC : H2 c' = some (CodeO c' (X.env.qual ++ "<lambda>")) := by rw [← hH2]; exact upd_same
    have ext : ExtN H H2 := fun b o e n => by
      have nP : b ≠ P := by
        rintro rfl
        exact n qs (Option.some.inj (e.symm.trans hP))
      rw [← hH2, upd_ne (ne_of_none e nC), upd_ne nP]
      exact e
    have eL : (qs ++ #[rawInt pos.line, rawInt pos.col, .ref c']).toList = qs.toList ++ [rawInt pos.line, rawInt pos.col, .ref c'] := by simp
    have tabs2 : Tabs T H2 := by
      intro p hp
      by_cases hb : p.1 = P
      · rw [hu p hp hb, hb]
        refine ⟨qs ++ #[rawInt pos.line, rawInt pos.col, .ref c'], ?_, ?_, ?_⟩
        · rw [← hH2, upd_ne (ne_of_none hP nC), upd_same]
        · rw [eL]
          exact PySem.TriplesOk_snoc _ _ _ _ tri
        · intro p' cv hcv
          rw [eL] at hcv
          rcases among_app _ tri hcv with z | z
          · obtain ⟨c0, f1, f2⟩ := among p' cv z
            exact ⟨c0, f1, ext _ _ f2 codeO_ne⟩
          · exact ⟨c', z, kC⟩
      · obtain ⟨qs', q1, q2, q3⟩ := hT p hp
        refine ⟨qs', ?_, q2, ?_⟩
        · rw [← hH2, upd_ne (ne_of_none q1 nC), upd_ne hb]
          exact q1
        · intro p' cv hcv
          obtain ⟨c0, f1, f2⟩ := q3 p' cv hcv
          exact ⟨c0, f1, ext _ _ f2 codeO_ne⟩
    have nF : H2 h'.objs.size = none := J.hok.fresh (Nat.le_refl _)
    have g2 : Grows T H2 (L2.upd H2 h'.objs.size (LamO h'.objs.size (mkLF X params body scope c' dV))) := Grows.upd nF
    exact h h'.objs.size c' _ _ (lamO_new (Z := mkLF X params body scope c' dV) (pm := (X.mg "__name__").getD .none) (ctv := ctv) (tk := tk) J) (Grows.trans ⟨ext, fun _ => tabs2⟩ g2)
      (I1.hok.fresh (Nat.le_trans hge (Nat.le_of_lt hlt))) upd_same (g2.ext _ _ kC codeO_ne)
end

/-! ### calls -/
section
variable {CX : CXT} {P : Program} {w : World} {K : PySem.W.Frag} {mg : Str → Option Value} {base : Heap} {N ps fr : List Str} {Z : LF} {f : Addr} {k : Nat}
/-- the body's context, at its entry -/
abbrev lcx (CX : CXT) (P : Program) (w : World) (K : PySem.W.Frag) (mg : Str → Option Value) (base : Heap) (N : List Str) (Z : LF) (f : Addr) (A : Around) (outer : List Env) (s : Shared) (H : Hp) (E : XK) : Cx :=
  ncx CX P w K mg base N Z.F f A outer s H E
theorem lam_call {A : Around} {outer : List Env} {s : Shared} {H : Hp} {args : Args} {us : List Value} {vs : List V} {ws : List (Option V)} {Q : VK} {E : XK} {t : TE} {pm ctv : Value}
    (S : NScope N ps fr Z.F.scope) (hr : Room (k + 1) A) (e0 : Env0 P w K mg base A outer s H)
    (ho : s.heap.get? f = some (({ cls := .type "function", data := .func (Z.fd pm ctv) }) : Obj)) (hcr : s.heap.CodeRec (.ref Z.F.c) Z.F.qual)
    (hb : BindsTo s (Z.fd pm ctv) args (ps.zip us)) (hl : vs.length = ps.length) (C : CellsAt Z.F.cl fr ws s.heap H) (r : Vals vs us)
    (hbody : Room k (A.deeper (envF Z.F f s.heap.objs.size)) → PE (lcx CX P w K mg base N Z f A outer s H E) Z.e t) (hq : t (startF N vs ws) H Q) :
    codeAny (model P w) A (.call (.ref f) args) (CR CX outer P w H s Q E) s := by
  have nolim : s.heap.NoLimit := e0.mod.nolimit.keeps fun b o e => (e0.bs b o e).1
  refine PySem.W.kla_callFunE hr.depth ho rfl S.co S.gen rfl hcr ?_
  refine hb _ _ _ _ ?_
  refine wpAny_newFunctionEnv S.nocell (fun ⟨n, _⟩ hy => S.par n (List.of_mem_zip hy).1) (fun h₁ hns hsb => ⟨nolim.fresh _ hsb, ?_⟩) S.kind
  show codeAny _ _ (.expr Z.e (envF Z.F f s.heap.objs.size)) _ _
  have kp : ∀ b o, s.heap.get? b = some o → h₁.get? b = some o :=
    fun b o e => hsb.extBut b o (Nat.ne_of_lt (Heap.lt_size e)) (Heap.get?_push_of_some _ e)
  have J : Inv (lcx CX P w K mg base N Z f A outer s H E) [] (startF N vs ws) H { s with heap := h₁, toks := s.toks + (ps.zip us).length } :=
    inv_startN S hr.hd e0 hl r C hns kp
  refine PySem.W.kla_codeExpr (wpAny_mono ((hbody (hr.deeper _)).run [] _ _ H Q J hq) (fun v s' hh => ?_) fun e s' hh => hh)
  obtain ⟨v', H', J', rv, q⟩ := hh
  exact ⟨v', H', J'.os, J'.bare, J'.base, J'.hok, rv, q⟩
/-- what the heap knows of a lambda at f -/
structure LamAt (H : Hp) (f : Addr) (Z : LF) : Prop where
  o : H f = some (LamO f Z)
  c : H Z.F.c = some (CodeO Z.F.c Z.F.qual)
  d : ∀ T : Addr, Z.dV = .ref T → ∃ xs, H T = some (.tup xs) ∧ xs = [.int 0]
theorem LamAt.ext {H H1 : Hp} (a : LamAt H f Z) (e : ExtN H H1) : LamAt H1 f Z :=
  ⟨e _ _ a.o lamO_ne, e _ _ a.c codeO_ne, fun T h => (a.d T h).elim fun xs q => ⟨xs, e _ _ q.1 (fun ps z => nomatch z), q.2⟩⟩
abbrev SpL := List (Option V) → Hp → VK → XK → Prop
/-- f may be called without arguments; cl, fr: its captured cells; sp: by what they hold -/
def Act (P : Program) (w : World) (K : PySem.W.Frag) (mg : Str → Option Value) (base : Heap) (CX : CXT) (k : Nat) (cl : List (Str × Addr)) (fr : List Str) (sp : SpL) (f : Addr) (H : Hp) : Prop :=
  ∃ Z : LF, Z.F.cl = cl ∧ LamAt H f Z ∧ ∀ (A : Around) (outer : List Env) (s : Shared) (H' : Hp) (ws : List (Option V)) (Q : VK) (E : XK), Room k A → Env0 P w K mg base A outer s H' → LamAt H' f Z →
    CellsAt cl fr ws s.heap H' → sp ws H' Q E → codeAny (model P w) A (.call (.ref f) ⟨[], []⟩) (CR CX outer P w H' s Q E) s
theorem Act.ext {cl : List (Str × Addr)} {sp : SpL} {H H1 : Hp} (a : Act P w K mg base CX k cl fr sp f H) (e : ExtN H H1) : Act P w K mg base CX k cl fr sp f H1 := by
  obtain ⟨Z, h1, h2, h3⟩ := a
  exact ⟨Z, h1, h2.ext e, h3⟩
theorem Act.mono {cl : List (Str × Addr)} {sp sp' : SpL} {H : Hp} {k' : Nat} (a : Act P w K mg base CX k cl fr sp f H) (h : k ≤ k') (i : ∀ ws H Q E, sp' ws H Q E → sp ws H Q E) : Act P w K mg base CX k' cl fr sp' f H := by
  obtain ⟨Z, h1, h2, h3⟩ := a
  exact ⟨Z, h1, h2, fun A outer s H' ws Q E hr e0 l c q => h3 A outer s H' ws Q E (hr.mono h) e0 l c (i _ _ _ _ q)⟩
/-- a lambda without parameters -/
theorem act0 {sp : SpL} {H : Hp} (l : LamAt H f Z) (S : NScope N [] fr Z.F.scope) (hb : ∀ pm ctv : Value, bindArgs (Z.fd pm ctv) ⟨[], []⟩ = pure [])
    (hbody : ∀ (A : Around) (outer : List Env) (s : Shared) (H : Hp) (ws : List (Option V)) (Q : VK) (E : XK), Room k (A.deeper (envF Z.F f s.heap.objs.size)) → ws.length = fr.length → sp ws H Q E →
      ∃ t, PE (lcx CX P w K mg base N Z f A outer s H E) Z.e t ∧ t (startF N [] ws) H Q) : Act P w K mg base CX (k + 1) Z.F.cl fr sp f H := by
  refine ⟨Z, rfl, l, fun A outer s H' ws Q E hr e0 l' C h => ?_⟩
  obtain ⟨pm, ctv, ho⟩ := lamO_at e0.hok l'.o
  obtain ⟨t, ht, hq⟩ := hbody A outer s H' ws Q E (hr.deeper _) C.len h
  exact lam_call (ps := []) (us := []) S hr e0 ho (codeO_at e0.hok l'.c) (.of_eq (hb pm ctv)) rfl C .nil (fun _ => ht) hq
/-- .. of one parameter, whose default is 0 -/
theorem act1 {x : Str} {T : Addr} {sp : SpL} {H : Hp} (l : LamAt H f Z) (hT : Z.dV = .ref T) (S : NScope N [x] fr Z.F.scope)
    (hb : ∀ (pm ctv u : Value), ∃ kk, bindArgs (Z.fd pm ctv) ⟨[], []⟩ = seqItems? Z.dV >>= kk ∧ kk (some #[u]) = pure [(x, u)])
    (hbody : ∀ (A : Around) (outer : List Env) (s : Shared) (H : Hp) (ws : List (Option V)) (Q : VK) (E : XK), Room k (A.deeper (envF Z.F f s.heap.objs.size)) → ws.length = fr.length → sp ws H Q E →
      ∃ t, PE (lcx CX P w K mg base N Z f A outer s H E) Z.e t ∧ t (startF N [.int 0] ws) H Q) : Act P w K mg base CX (k + 1) Z.F.cl fr sp f H := by
  refine ⟨Z, rfl, l, fun A outer s H' ws Q E hr e0 l' C h => ?_⟩
  obtain ⟨pm, ctv, ho⟩ := lamO_at e0.hok l'.o
  obtain ⟨xs, hx, rfl⟩ := l'.d T hT
  obtain ⟨_, its, rv, ht1⟩ := e0.hok T _ hx
  cases rv with
  | @cons _ u _ _ ru rn =>
  cases rn
  obtain ⟨t, ht, hq⟩ := hbody A outer s H' ws Q E (hr.deeper _) C.len h
  obtain ⟨kk, b1, b2⟩ := hb pm ctv u
  obtain ⟨oT, g1, _, n, g3⟩ := ht1
  refine lam_call (ps := [x]) (us := [u]) S hr e0 ho (codeO_at e0.hok l'.c) ?_ rfl C (.cons ru .nil) (fun _ => ht) hq
  exact BindsTo.of_defaults (fd := Z.fd pm ctv) (k := kk) hT g1 g3 b1 b2
end

/-! ### the rules: a lambda as a value -/
section
variable {X : Cx} {T : List (Addr × Str)} {c P : Addr} {params : Arguments} {body : Expr} {scope : Scope} {pos : Pos}
/-- the new lambda stands at f; mk: its words by its code object and its defaults -/
def tLamO (T : List (Addr × Str)) (mk : Addr → Value → LF) : TE := fun σ H Q => Tabs T H ∧ ∀ (f c' : Addr) (H1 : Hp), Grows T H H1 → H f = none → LamAt H1 f (mk c' .none) → Q (.ref f) H1
def tLamD (T : List (Addr × Str)) (mk : Addr → Value → LF) : TE := fun σ H Q => Tabs T H ∧ ∀ (f c' t : Addr) (H1 : Hp), Grows T H H1 → H f = none → LamAt H1 f (mk c' (.ref t)) → Q (.ref f) H1
theorem pe_lam (TB : TabB X.base X.mg c P) (hcode : X.env.code = .ref c)
    (hm : (P, X.env.qual ++ "<lambda>") ∈ T) (hu : ∀ p ∈ T, p.1 = P → p.2 = X.env.qual ++ "<lambda>")
    (hfree : ∀ y ∈ scope.names, y.2 = .free → X.env.scope.names.lookup y.1 = some .cell ∨ X.env.scope.names.lookup y.1 = some .free) (hdef : defaultsOf params X.env = ([], []) := by exact rfl) :
    PE X (.Lambda params body scope pos) (tLamO T (mkLF X params body scope)) := by
  refine ⟨fun pins s σ H Q I ⟨hT, h⟩ => PySem.W.kla_eval hdef ?_⟩
  rw [makeFunction_eq]
  simp only [List.zip_nil_right, List.filterMap_nil, List.isEmpty_nil, if_true, pure_bind]
  refine lam_made I TB hcode hm hu hT (fun y hy e => I.ok.has _ (hfree y hy e)) fun f c' H1 s' I1 g n1 e1 e2 => ?_
  exact ⟨.ref f, H1, I1, rfl, h f c' H1 g n1 ⟨e1, e2, fun t z => nomatch z⟩⟩
/-- a default that is an int: 0 -/
theorem pe_lamD {d : Expr} (TB : TabB X.base X.mg c P) (hcode : X.env.code = .ref c)
    (hm : (P, X.env.qual ++ "<lambda>") ∈ T) (hu : ∀ p ∈ T, p.1 = P → p.2 = X.env.qual ++ "<lambda>")
    (hfree : ∀ y ∈ scope.names, y.2 = .free → X.env.scope.names.lookup y.1 = some .cell ∨ X.env.scope.names.lookup y.1 = some .free)
    (hd : PE X d (tC (.int 0))) (hdef : defaultsOf params X.env = ([eval d X.env], []) := by exact rfl) :
    PE X (.Lambda params body scope pos) (tLamD T (mkLF X params body scope)) := by
  refine ⟨fun pins s σ H Q I ⟨hT, h⟩ => ?_⟩
  rw [arm_eval_Lambda, hdef]
  show wpAny _ X.A (do
    let dv ← evalAll [eval d X.env]
    let kdv ← holding dv (evalAllOpt [])
    makeFunction "<lambda>" (X.env.qual ++ "<lambda>") params (.expr body) scope X.env dv kdv [] pos pos.line) _ _ s
  refine wpAny_bind ?_
  show wpAny _ X.A (eval d X.env >>= fun v => _) _ _ s
  refine wpAny_bind (thn (hd.run pins s σ H (fun v H1 => v = .int 0 ∧ H1 = H) I ⟨rfl, rfl⟩) fun v s1 x => ?_)
  obtain ⟨v0, H1, I1, rv, rfl, rfl⟩ := x
  refine wpAny_bind (wpAny_holding (wpAny_pure (wpAny_pure ?_)))
  refine wpAny_bind (wpAny_holding (wpAny_pure ?_))
  rw [makeFunction_eq]
  simp only [List.zip_nil_right, List.filterMap_nil, List.isEmpty_nil, List.isEmpty_cons, Bool.false_eq_true, if_true, if_false, pure_bind]
  refine wpAny_bind (wpAny_newTextTuple ?_)
  have nT : H1 s1.heap.objs.size = none := I1.hok.fresh (Nat.le_refl _)
  have I2 : Inv X pins σ (upd H1 s1.heap.objs.size (.tup [.int 0])) { s1 with heap := s1.heap.push { cls := .type "tuple", data := .seq [v].toArray } } :=
    I1.laid (t' := s1.toks) (fun b o e => Heap.get?_push_of_some _ e) (Nat.le_refl _) ⟨by decide, [v], .cons rv .nil, _, Heap.get?_push_size _ rfl, rfl, 0, rfl⟩
  have G2 : Grows T H1 (upd H1 s1.heap.objs.size (.tup [.int 0])) := Grows.upd nT
  refine lam_made I2 TB hcode hm hu (G2.tab hT) (fun y hy e => I2.ok.has _ (hfree y hy e)) fun f c' H3 s' I3 g n1 e1 e2 => ?_
  have tT : H3 s1.heap.objs.size = some (.tup [.int 0]) := g.ext _ _ upd_same fun ps z => nomatch z
  have nf : H1 f = none := by
    by_cases z : f = s1.heap.objs.size
    · rw [z]
      exact nT
    · rw [upd_ne z] at n1
      exact n1
  exact ⟨.ref f, H3, I3, rfl, h f c' s1.heap.objs.size H3 (G2.trans g) nf ⟨e1, e2, fun t z => by cases z; exact ⟨_, tT, rfl⟩⟩⟩
end
end Sho
set_option Elab.async false
set_option linter.all false
set_option maxRecDepth 100000
set_option maxHeartbeats 2000000
/-! A try whose clauses may each bind the exception or not. -/
namespace Sho
open PySem PySem.Spec PyProof.Rows L2
/-- a clause: the class, the slot of its name (if it has one), its suite's reading -/
structure Clause where
  c : Value
  i : Option Nat
  ts : Addr → Value → Option Addr → TS
def setO (σ : L2.St) : Option Nat → Option V → L2.St
  | none, _ => σ
  | some i, v => σ.set i v
/-- a suite's ends: the clause's name is gone -/
def endsO (D : Ends) (i : Option Nat) : Ends :=
  { nx := fun σ H => D.nx (setO σ i none) H, rt := D.rt, bk := fun σ H => D.bk (setO σ i none) H, ct := fun σ H => D.ct (setO σ i none) H }
def wClauses (K : PySem.W.Frag) (Wout : WX) (D : Ends) : List Clause → WX
  | [] => Wout
  | C :: r => fun cls d σ H => ∃ b, PySem.W.exmOne K cls C.c = some b ∧
    (b = true → ∀ a, H a = none → C.ts a cls d (endsO D C.i) (setO σ C.i (some (.ref a))) H) ∧ (b = false → wClauses K Wout D r cls d σ H)
def Bound (X : Cx) : Option Str → Option Nat → Prop
  | none, none => True
  | some n, some i => X.N[i]? = some n ∧ X.env.kindOf n = some .local
  | _, _ => False
inductive ClausesOk (X : Cx) : List ExceptHandler → List Clause → Prop
  | nil : ClausesOk X [] []
  | cons {x : Str} {n : Option Str} {C : Clause} {b₀ : Stmt} {suite : List Stmt} {np hp : Pos} {hds : List ExceptHandler} {l : List Clause} (hc : Names X x C.c) (hn : Bound X n C.i)
      (body : ∀ (a : Addr) (oe : Obj) (cls : Value) (d : Option Addr) (pn : List (Addr × Obj)), Zc cls d oe → (∃ vs, oe.data = .fields vs) → PSs (X.suite a ((a, oe) :: pn)) (b₀ :: suite) (C.ts a cls d))
      (rest : ClausesOk X hds l) : ClausesOk X (.ExceptHandler (some (.Name x np)) n (b₀ :: suite) hp :: hds) (C :: l)
/-- an exception that X's frame has caught, in the state s -/
structure Caught (X : Cx) (pins : List (Addr × Obj)) (σ : L2.St) (H : Hp) (B : Heap) (a : Addr) (cls : Value) (d : Option Addr) (s : Shared) : Prop where
  fly : HandSPX.FlyingZ B (X.env :: X.outer) a (Zc cls d) s.heap
  back : ∀ h, HandSPX.FlyingZ B (X.env :: X.outer) a (Zc cls d) h → s.heap.UpToSlots h → Inv X pins σ H { s with heap := h }
  on : ∀ h (W : WX), HandSPX.HeldZ B (X.env :: X.outer) a (Zc cls d) X.env.locals h → s.heap.UpToSlots h → W cls d σ H → XE X W (.ref a) { s with heap := h }
  free : H a = none
section
variable {X : Cx} {pins : List (Addr × Obj)} {σ : L2.St} {H : Hp} {B : Heap} {a : Addr} {cls : Value} {d : Option Addr} {s : Shared}
theorem Caught.inv (c : Caught X pins σ H B a cls d s) : Inv X pins σ H s := c.back s.heap c.fly (.refl _)
theorem Caught.apart (c : Caught X pins σ H B a cls d s) (hf : X.env.frame = some X.env.locals) : a ≠ X.env.locals ∧ a ∉ X.fs := by
  obtain ⟨oe, vs, he, _, hd⟩ := c.fly.there
  have out : a ∉ frs (X.env :: X.outer) := fun hm => by
    obtain ⟨_, o, e, nf⟩ := c.fly.2.2.1.mem hm
    rw [he] at e
    cases e
    exact nf _ hd
  refine ⟨fun z => out (List.mem_filterMap.mpr ⟨X.env, .head _, hf.trans (congrArg some z.symm)⟩), fun hm => ?_⟩
  obtain ⟨e, he2, q⟩ := List.mem_filterMap.mp hm
  exact out (List.mem_filterMap.mpr ⟨e, .tail _ he2, q⟩)
theorem caught_of {xe : Value → Shared → Prop} {W : WX} {u : Value} {Q : Shared → Prop} {E : Value → Shared → Prop} (hs : X.stack = X.env :: X.outer) (hf : X.env.frame = some X.env.locals) (ok : X.Ok)
    (x : XE (X.tr (X.pn ++ pins) xe) W u s)
    (h : ∀ a B σ H cls d h3, u = .ref a → Caught X pins σ H B a cls d { s with heap := h3 } → W cls d σ H → Q { s with heap := h3 }) :
    wpAny (model X.prog X.w) X.A (noteFrame u X.env) (fun _ s2 => wpAny (model X.prog X.w) X.A (setFlight u none) (fun _ s3 => Q s3) E s2) E s := by
  obtain ⟨a, B, s0, pins', σ1, H1, cls, d, rfl, J1, ground, up, sky, na, os, ag, w⟩ := x
  have J : Inv X pins σ1 H1 s0 := J1.ofTry ok
  have sky2 : Sky B (X.env :: X.outer) a (Zc cls d) X.env.locals s.heap := hs ▸ sky
  refine Sky.land Zc.steady (ok.frames.trans (congrArg some hs)) hf sky2 fun h3 fly up3 => ?_
  refine h a B σ1 H1 cls d h3 rfl ⟨fly, fun g fg ug => J.landed ground fg.1 (up.trans (up3.trans ug)) os ag, fun g W2 hg ug w2 => ?_, na⟩ w
  exact ⟨a, B, s0, pins, σ1, H1, cls, d, rfl, J, ground, up.trans (up3.trans ug), .inr (.inr (by rw [hs]; exact hg)), na, os, ag, w2⟩

theorem clauses_run {Wout : WX} {D : Ends} (hs : X.stack = X.env :: X.outer) (hf : X.env.frame = some X.env.locals) (hN : X.N.Nodup) (tk : Takes X Wout) (c : Caught X pins σ H B a cls d s)
    {hds : List ExceptHandler} {l : List Clause} (hk : ClausesOk X hds l) : wClauses X.K Wout D l cls d σ H →
    wpAny (model X.prog X.w) X.A (handleBy (.ref a) X.env hds) (SP X pins D) X.xe s := by
  have ok := c.inv.ok
  induction hk with
  | nil =>
    intro w
    refine wpAny_handleBy_nil ?_
    obtain ⟨_, _, _, oe, vs, T, oT, ts', he, hz, hd, h1, _⟩ := id c.fly
    unfold PySem.passOn
    refine wpAny_bind (wpAny_field he hd h1 ?_)
    rw [if_neg (show ¬ ((Value.ref T == Value.none) = true) by simp)]
    have up : wpAny (model X.prog X.w) X.A (setFlight (.ref a) X.env.frame) (fun _ s4 => wpAny (model X.prog X.w) X.A (throw (.ref a) : Sem PySem.Flow) (SP X pins D) X.xe s4) X.xe s := by
      rw [hf]
      exact HandSPX.setFlight_upZ c.fly fun g hg ug => wpAny_throw (tk _ _ (c.on g Wout hg ug w))
    first
      | exact wpAny_bind (wpAny_pure (wpAny_bind up))
      | exact wpAny_bind up
  | @cons x n C b₀ suite np hp hds2 l2 hc hn body rest ih =>
    intro w
    obtain ⟨b, hb, yes, no⟩ := w
    obtain ⟨oe, vs, he, hz, hd⟩ := c.fly.there
    obtain ⟨nL, nF⟩ := c.apart hf
    have I := c.inv
    have IS := I.suite he hd c.free nL nF
    refine wpAny_handleBy_cons (codeAny_handlers_test ?_) (by intro q; cases q)
    have lt : PySem.W.Looks (model X.prog X.w) s.heap (typeOf (.ref a)) cls := fun A Q E s k q => wpAny_typeOf_ref (k _ _ he) (by rw [hz.1]; exact q)
    have lm := PySem.W.exm_one (M := model X.prog X.w) I.kIn lt hb
    have named : ∀ {Q : Value → Shared → Prop} {E : Value → Shared → Prop}, Q C.c s → wpAny (model X.prog X.w) (X.A.mark (some (.ref a))) (eval (.Name x np) X.env) Q E s := fun {Q E} q => by
      obtain ⟨g1, g2, g3⟩ := hc
      rcases g3 with g3 | ⟨g3, g4, g5⟩
      · exact ld_glob (X := X.suite a ((a, oe) :: (X.pn ++ pins))) IS g1 g3 q g2
      · exact ld_blt (X := X.suite a ((a, oe) :: (X.pn ++ pins))) IS g1 g3 g4 q g5 g2
    refine named (lm.here ?_)
    cases b with
    | false => exact ih (no rfl)
    | true =>
      have go : ∀ g, HandSPX.FlyingZ B (X.env :: X.outer) a (Zc cls d) g → s.heap.UpToSlots g → ∃ oe4 vs4, Zc cls d oe4 ∧ oe4.data = .fields vs4 ∧ Inv (X.suite a ((a, oe4) :: (X.pn ++ pins))) [] σ H { s with heap := g } := fun g fg ug => by
        obtain ⟨oe4, vs4, he4, hz4, hd4⟩ := fg.there
        exact ⟨oe4, vs4, hz4, hd4, (c.back g fg ug).suite he4 hd4 c.free nL nF⟩
      cases n with
      | none =>
        match hi : C.i with
        | some i =>
          rw [hi] at hn
          exact hn.elim
        | none =>
          rw [hi] at yes
          refine codeAny_handlers_suite ?_
          refine HandSPX.lands_againZ c.fly fun g fg ug => ?_
          obtain ⟨oe4, vs4, hz4, hd4, I4⟩ := go g fg ug
          refine wpAny_mono ((body a oe4 cls d (X.pn ++ pins) hz4 ⟨_, hd4⟩).run [] _ _ H _ I4 (yes rfl a c.free)) (fun f s6 r => ?_) fun _ _ z => False.elim z
          cases f with
          | ret u =>
            obtain ⟨v6, σ6, H6, I6, r6, q6⟩ := r
            exact ⟨v6, σ6, H6, I6.unsuite ok, r6, q6⟩
          | next => obtain ⟨σ6, H6, I6, q6⟩ := r; exact ⟨σ6, H6, I6.unsuite ok, q6⟩
          | brk => obtain ⟨σ6, H6, I6, q6⟩ := r; exact ⟨σ6, H6, I6.unsuite ok, q6⟩
          | cont => obtain ⟨σ6, H6, I6, q6⟩ := r; exact ⟨σ6, H6, I6.unsuite ok, q6⟩
      | some n =>
        match hi : C.i with
        | none =>
          rw [hi] at hn
          exact hn.elim
        | some i =>
          rw [hi] at hn yes
          obtain ⟨hni, hln⟩ := hn
          refine codeAny_handlers_suite_as ?_
          refine HandSPX.lands_againZ c.fly fun g fg ug => ?_
          obtain ⟨oe4, vs4, hz4, hd4, I4⟩ := go g fg ug
          refine store_ok (X := X.suite a ((a, oe4) :: (X.pn ++ pins))) (v := .ref a) I4 hN hni (.inl hln) rfl (fun s5 I5 => ?_) (.inr hln)
          refine wpAny_mono ((body a oe4 cls d (X.pn ++ pins) hz4 ⟨_, hd4⟩).run [] s5 _ H _ I5 (yes rfl a c.free)) (fun f s6 r => ?_) fun _ _ z => False.elim z
          have gone : ∀ {σ6 : L2.St} {H6 : Hp} {Q : Shared → Prop}, Inv (X.suite a ((a, oe4) :: (X.pn ++ pins))) [] σ6 H6 s6 → (∀ s7, Inv X pins (σ6.set i none) H6 s7 → Q s7) →
              wpAny (model X.prog X.w) X.A (do bindName X.env n .none; unbindBehindTheSuite X.env n hp) (fun _ s7 => Q s7) X.xe s6 := fun {σ6 H6 Q} I6 k => gone_ok (I6.unsuite ok) hN hni hln k
          cases f with
          | ret u =>
            obtain ⟨v6, σ6, H6, I6, r6, q6⟩ := r
            exact gone I6 fun s7 I7 => ⟨v6, _, H6, I7, r6, q6⟩
          | next => obtain ⟨σ6, H6, I6, q6⟩ := r; exact gone I6 fun s7 I7 => ⟨_, H6, I7, q6⟩
          | brk => obtain ⟨σ6, H6, I6, q6⟩ := r; exact gone I6 fun s7 I7 => ⟨_, H6, I7, q6⟩
          | cont => obtain ⟨σ6, H6, I6, q6⟩ := r; exact gone I6 fun s7 I7 => ⟨_, H6, I7, q6⟩
end
section
variable {X : Cx} {body : List Stmt} {h₀ : ExceptHandler} {hds : List ExceptHandler} {l : List Clause} {pos : Pos} {tb : WX → TS} {Wout : WX}
/-- try: body / except A as e: .. / except B: .. -/
theorem ps_try (hs : X.stack = X.env :: X.outer) (hf : X.env.frame = some X.env.locals) (hN : X.N.Nodup) (tk : Takes X Wout)
    (hb : ∀ (W : WX) (pn : List (Addr × Obj)) (xe : Value → Shared → Prop), Takes (X.tr pn xe) W → PassesOwn (model X.prog X.w) X.A X.env xe → PSs (X.tr pn xe) body (tb W))
    (hk : ClausesOk X (h₀ :: hds) l) : PS X (.Try body (h₀ :: hds) [] [] pos) (fun D σ H => tb (wClauses X.K Wout D l) D σ H) := by
  refine ⟨fun pins s σ H D I h => wpAny_Try_except ?_⟩
  have ok := I.ok
  refine wpAny_mono ((hb (wClauses X.K Wout D l) (X.pn ++ pins) (fun e s₁ => wpAny (model X.prog X.w) X.A (noteFrame e X.env)
    (fun _ s₂ => wpAny (model X.prog X.w) X.A (setFlight e none) (fun _ s₃ => wpAny (model X.prog X.w) X.A (handleBy e X.env (h₀ :: hds)) (SP X pins D) X.xe s₃) X.xe s₂) X.xe s₁)
    (fun u s' x => ?_) PassesOwn.looking).run [] s σ H D (I.toTry _) h) (fun f s1 r => ?_) fun _ _ z => z
  · refine caught_of hs hf ok x fun a B σ1 H1 cls d h3 e c w => ?_
    subst e
    exact clauses_run hs hf hN tk c hk w
  · cases f with
    | ret u =>
      obtain ⟨v6, σ6, H6, I6, r6, q6⟩ := r
      exact ⟨v6, σ6, H6, I6.ofTry ok, r6, q6⟩
    | next => obtain ⟨σ6, H6, I6, q6⟩ := r; exact wpAny_execs_nil ⟨σ6, H6, I6.ofTry ok, q6⟩
    | brk => obtain ⟨σ6, H6, I6, q6⟩ := r; exact ⟨σ6, H6, I6.ofTry ok, q6⟩
    | cont => obtain ⟨σ6, H6, I6, q6⟩ := r; exact ⟨σ6, H6, I6.ofTry ok, q6⟩
end
end Sho
set_option Elab.async false
set_option linter.all false
set_option maxRecDepth 100000
set_option maxHeartbeats 2000000
/-! A callable that is handed on, called without arguments. -/
namespace Sho
open PySem PySem.Spec PyProof.Rows L2 LamX NdefX
section
variable {X : Cx} {pins : List (Addr × Obj)} {σ : L2.St} {H : Hp} {s : Shared} {cl : List (Str × Addr)} {fr : List Str} {ws : List (Option V)}
theorem cells_un {fs ex : List Addr} {H0 : Hp} {h0 h : Heap} (C : CellsAt cl fr ws h0 H0) (U : Un fs ex H0 H h0 h) (hex : ∀ y c, cl.lookup y = some c → c ∉ ex) : CellsAt cl fr ws h H := by
  have one : ∀ {y : Str} {c : Addr} {v : Option Value}, cl.lookup y = some c → h0.IsCell c v → h.IsCell c v := fun {y c v} e ⟨o, ho, hd⟩ => by
    by_cases hm : c ∈ fs
    · obtain ⟨sl, q⟩ := U.slot c o ho (C.all y c e).1 hm (hex y c e)
      exact ⟨_, q, hd⟩
    · exact ⟨o, U.keep c o ho (C.all y c e).1 hm (hex y c e), hd⟩
  refine ⟨C.len, fun y c e => ?_, C.inj, fun i y hi => ?_⟩
  · obtain ⟨n, v, o, ho, hd⟩ := C.all y c e
    exact ⟨U.free c o ho n (hex y c e), v, one e ⟨o, ho, hd⟩⟩
  · obtain ⟨c, e, k⟩ := C.has i y hi
    refine ⟨c, e, fun v hv => ?_⟩
    obtain ⟨u, r, z⟩ := k v hv
    exact ⟨u, r, one e z⟩
/-- cells of the entry's time stand as they stood -/
theorem cells_kept (I : Inv X pins σ H s) (C : CellsAt cl fr ws X.s_0.heap X.H_0) (hex : ∀ y c, cl.lookup y = some c → c ∉ X.ex) : CellsAt cl fr ws s.heap H := cells_un C I.base hex

/-- x(): x's slot holds a callable -/
def tAct (P : Program) (w : World) (K : PySem.W.Frag) (mg : Str → Option Value) (base : Heap) (CX : CXT) (k : Nat) (i : Nat) (cl : List (Str × Addr)) (fr : List Str) (ws : List (Option V)) (E : L2.St → XK) : TE := fun σ H Q =>
  ∃ f sp, σ[i]? = some (some (.ref f)) ∧ Act P w K mg base CX k cl fr sp f H ∧ sp ws H Q (E σ)
theorem pe_act {CX : CXT} {k i : Nat} {E : L2.St → XK} {x : Str} {p pos : Pos} (hr : Room k X.A) (C : CellsAt cl fr ws X.s_0.heap X.H_0) (hex : ∀ y c, cl.lookup y = some c → c ∉ X.ex) (hx : ∀ σ, PassesAt CX X σ (E σ))
    (hN : X.N[i]? = some x) (hv : Vis X.env.scope x) (hd : (x == ("__debug__" : Str)) = false := by decide) (hcd : (x == ("__classdict__" : Str)) = false := by decide) :
    PE X (.Call (.Name x p) [] [] pos) (tAct X.prog X.w X.K X.mg X.base CX k i cl fr ws E) := by
  refine ⟨fun pins s σ H Q I ⟨f, sp, hs, ⟨Z, ecl, hl, run⟩, h⟩ => ?_⟩
  refine wpAny_Call_Name_kw (thn ((pe_var (pos := p) (i := i) hN hv hd hcd).run pins s σ H (fun v H1 => v = .ref f ∧ H1 = H) I ⟨.ref f, hs, rfl, rfl⟩) fun u s1 y => ?_)
  obtain ⟨v, H1, I1, rv, rfl, rfl⟩ := y
  obtain rfl : u = Value.ref f := rv
  obtain ⟨pm, ctv, ho⟩ := lamO_at I1.hok hl.o
  refine PySem.W.callWith_F0 ⟨_, _, _, _, ho⟩ ?_
  refine wpAny_call (codeAny_mono (run X.A X.stack s1 H1 ws Q (E σ) hr I1.env0 hl (cells_kept I1 C hex) h) fun r s' hq => ?_)
  cases r with
  | error e => exact hx σ pins H1 s1 e s' I1 hq
  | ok fl =>
    cases fl with
    | ret u => exact I1.after hq
    | next => exact hq.elim
    | brk => exact hq.elim
    | cont => exact hq.elim

/-- g(e): a def of the module, its promise told of the very state; know: what the state at the call shows -/
theorem pe_callAt {CX : CXT} {E : XK} {know : L2.St → Shared → Hp → Prop} {sp : L2.St → V → Hp → VK → Prop} {g : Addr} {x : Str} {e : Expr} {ta : TA} {p pos : Pos} (hg : Gl X x) (hm : X.mg x = some (.ref g)) (hk : PySem.W.keepIn X.K (.ref g) = true)
    (hx : Passes CX X E) (hP : ∀ (pins : List (Addr × Obj)) (σ : L2.St) (H : Hp) (s : Shared), Inv X pins σ H s → know σ s H) (ha : PA X [e] ta)
    (run : ∀ (σ : L2.St) (s : Shared) (H : Hp) (u : Value) (v : V) (Q : VK), Env0 X.prog X.w X.K X.mg X.base X.A X.stack s H → know σ s H → RelV v u → sp σ v H Q →
      codeAny (model X.prog X.w) X.A (.call (.ref g) ⟨[u], []⟩) (CR CX X.stack X.prog X.w H s Q E) s)
    (hdb : (x == ("__debug__" : Str)) = false := by decide) (hst : starEach [e] X.env = (false, eval e X.env) :: starEach [] X.env := by rfl) :
    PE X (.Call (.Name x p) [e] [] pos) (fun σ H Q => ta σ H fun vs H1 => ∃ v, vs = [v] ∧ sp σ v H1 Q) := by
  refine ⟨fun pins s σ H Q I h => ?_⟩
  refine wpAny_Call_Name_kw (ld_glob I hg hm ?_ hdb)
  refine PySem.W.callWith_K (h₀ := X.base) I.ok.mod.kin hk (thn (ha.run pos pins s σ H _ I h) fun us s1 y => ?_) hst rfl
  · obtain ⟨vs, H1, I1, rv, v, rfl, q⟩ := y
    cases rv with
    | @cons _ u _ _ ru rn =>
    cases rn
    refine ⟨I1.kIn, wpAny_call (codeAny_mono (run σ s1 H1 u v Q I1.env0 (hP pins σ H1 s1 I1) ru q) fun r s' hq => ?_)⟩
    cases r with
    | error er => exact hx pins σ H1 s1 er s' I1 hq
    | ok fl =>
      cases fl with
      | ret w2 => exact I1.after hq
      | next => exact hq.elim
      | brk => exact hq.elim
      | cont => exact hq.elim
end
end Sho
set_option Elab.async false
set_option linter.all false
set_option maxRecDepth 100000
set_option maxHeartbeats 2000000
/-! Small words that every law's text uses. -/
namespace Shg
open PySem L2 Sho
theorem pair_len {α β : Type} {R : α → β → Prop} : ∀ {as : List α} {bs : List β}, PySem.Paired R as bs → as.length = bs.length
  | _, _, .nil => rfl
  | _, _, .cons _ r => congrArg Nat.succ (pair_len r)
theorem pair_get {α β : Type} {R : α → β → Prop} : ∀ {as : List α} {bs : List β} {i : Nat} {a : α}, PySem.Paired R as bs → as[i]? = some a → ∃ b, bs[i]? = some b ∧ R a b
  | _, _, i, a, .nil, h => by simp at h
  | _, _, 0, a, .cons h r, e => by
    simp at e
    subst e
    exact ⟨_, rfl, h⟩
  | _, _, i + 1, a, .cons h r, e => by
    simp at e
    obtain ⟨b, e2, r2⟩ := pair_get r e
    exact ⟨b, by simpa using e2, r2⟩
theorem pair_mono {α β : Type} {R S : α → β → Prop} (k : ∀ a b, R a b → S a b) : ∀ {as : List α} {bs : List β}, PySem.Paired R as bs → PySem.Paired S as bs
  | _, _, .nil => .nil
  | _, _, .cons h r => .cons (k _ _ h) (pair_mono k r)
theorem pair_app {α β : Type} {R : α → β → Prop} : ∀ {as : List α} {bs : List β} {cs : List α} {ds : List β}, PySem.Paired R as bs → PySem.Paired R cs ds → PySem.Paired R (as ++ cs) (bs ++ ds)
  | _, _, _, _, .nil, k => k
  | _, _, _, _, .cons h r, k => .cons h (pair_app r k)
theorem same_upd {p : Addr} {H : Hp} {o : HO} (hp : H p = none) : Same H (upd H p o) := fun b u e => by rw [upd_ne (ne_of_none e hp)]; exact e
theorem asg_seq {te : TE} {g : TG} {u : TS} {D : Ends} {σ : L2.St} {H : Hp} (h : te σ H fun x H1 => g x σ H1 (u D)) : tSeq (tAsg te g) u D σ H := h
theorem asg_one {te : TE} {g : TG} {D : Ends} {σ : L2.St} {H : Hp} (h : te σ H fun x H1 => g x σ H1 D.nx) : tAsg te g D σ H := h
theorem cons_of {te : TE} {ta : L2.TA} {σ : L2.St} {H : Hp} {Q : List V → Hp → Prop} (h : te σ H fun v H1 => ta σ H1 fun vs H2 => Q (v :: vs) H2) : tCons te ta σ H Q := h
theorem name_of {i : Nat} {v : V} {σ : L2.St} {H : Hp} {N : L2.St → Hp → Prop} {r : VK} {b c : L2.St → Hp → Prop} (h : N (σ.set i (some v)) H) : gName i v σ H (L2.Ends.nx { nx := N, rt := r, bk := b, ct := c }) := h
theorem name_at {i : Nat} {v : V} {σ : L2.St} {H : Hp} {N : L2.St → Hp → Prop} (h : N (σ.set i (some v)) H) : gName i v σ H N := h
theorem lst_of {t : L2.TA} {σ : L2.St} {H : Hp} {Q : VK} (h : t σ H fun xs H1 => xs.length ≤ sizeLine ∧ ∀ p, H1 p = none → Q (.ref p) (upd H1 p (.lst xs))) : tLst t σ H Q := h
theorem nx_of {N : L2.St → Hp → Prop} {r : VK} {b c : L2.St → Hp → Prop} {σ : L2.St} {H : Hp} (h : N σ H) : L2.Ends.nx { nx := N, rt := r, bk := b, ct := c } σ H := h
theorem asg_val {te : TE} {g : TG} {u : TS} {D : Ends} {σ : L2.St} {H : Hp} (v : V) (h1 : ∀ R : VK, (∀ H', Same H H' → R v H') → te σ H R) (h2 : ∀ H', Same H H' → g v σ H' (u D)) : tSeq (tAsg te g) u D σ H := h1 _ h2
theorem asg_rel {te : TE} {g : TG} {u : TS} {D : Ends} {σ : L2.St} {H : Hp} (P : V → Hp → Prop) (h1 : ∀ R : VK, (∀ v H', P v H' → R v H') → te σ H R) (h2 : ∀ v H', P v H' → g v σ H' (u D)) : tSeq (tAsg te g) u D σ H := h1 _ h2
theorem if_rel {c : TT} {A u : TS} {D : Ends} {σ : L2.St} {H : Hp} (P : Hp → Prop) (h1 : ∀ R : Bool → Hp → Prop, (∀ H', P H' → R false H') → c σ H R) (h2 : ∀ H', P H' → u D σ H') : tSeq (tIfS c A tNext) u D σ H :=
  h1 _ fun H' p => iteF (h2 H' p)
theorem if_rel1 {c : TT} {A : TS} {D : Ends} {σ : L2.St} {H : Hp} (P : Hp → Prop) (h1 : ∀ R : Bool → Hp → Prop, (∀ H', P H' → R false H') → c σ H R) (h2 : ∀ H', P H' → D.nx σ H') : tIfS c A tNext D σ H :=
  h1 _ fun H' p => iteF (h2 H' p)
theorem ok_no {P : Program} {w : World} {K : PySem.W.Frag} {mg : Str → Option Value} {base : Heap} {CX : CXT} {k : Nat} {f : Addr} {fd : FuncData} {ps : List Str} : FnOk P w K mg base CX k f fd ps (fun _ _ _ _ => False) :=
  ⟨fun _ _ _ _ h => h.elim, fun _ _ _ _ _ _ _ _ _ _ _ _ _ h => h.elim⟩
theorem free_by {sn os : List (Str × NameKind)} (h : (sn.all fun y => !decide (y.2 = .free) || (decide (os.lookup y.1 = some .cell) || decide (os.lookup y.1 = some .free))) = true) :
    ∀ y ∈ sn, y.2 = .free → os.lookup y.1 = some .cell ∨ os.lookup y.1 = some .free := fun y hy e => by
  have q := List.all_eq_true.mp h y hy
  rw [decide_eq_true e] at q
  simpa using q
abbrev scL (l : List (Str × NameKind)) : Scope := { kind := .function, names := l, isGenerator := false, isCoroutine := false }
theorem ne_lst {L b : Addr} {H : Hp} {xs : List V} {o : HO} (hL : H L = some (.lst xs)) (e : H b = some o) (n : ∀ ys, o ≠ .lst ys) : b ≠ L := fun z => by
  rw [z, hL] at e
  exact n xs (Option.some.inj e).symm
theorem seq_nat {j n : Nat} (h : j < n) : seqIndex? (j : Int) n = some j := by
  have e0 : (if (j : Int) < 0 then (j : Int) + n else (j : Int)) = (j : Int) := if_neg (by omega)
  show (if (decide (0 ≤ (if (j : Int) < 0 then (j : Int) + n else (j : Int))) && decide ((if (j : Int) < 0 then (j : Int) + n else (j : Int)) < (n : Int))) = true then some (if (j : Int) < 0 then (j : Int) + n else (j : Int)).toNat else none) = some j
  rw [e0]
  have e : (decide (0 ≤ (j : Int)) && decide ((j : Int) < (n : Int))) = true := by simp; omega
  rw [if_pos e]
  simp
theorem ixN_nat {n j : Nat} (hj : j < n) : ixN n (j : Int) = some j := by
  unfold ixN
  rw [if_pos (by omega), if_pos (by omega)]
  simp
theorem gather_filter {α : Type} (xs : List α) (p : α → Bool) (f : α → V) : gather (fun i => (xs[i]?).bind fun x => if p x = true then some (f x) else none) xs.length = (xs.filter p).map f := by
  rw [gather_list]
  induction xs with
  | nil => rfl
  | cons x xs ih =>
    rw [List.filterMap_cons, List.filter_cons]
    cases h : p x with
    | true =>
      simp only [if_true, List.map_cons, ih]
    | false =>
      simp only [Bool.false_eq_true, if_false, ih]
/-- an expression read in one of two ways -/
theorem pe_either {X : Cx} {e : Expr} {t1 t2 : TE} (h1 : PE X e t1) (h2 : PE X e t2) : PE X e (fun σ H Q => t1 σ H Q ∨ t2 σ H Q) :=
  ⟨fun pins s σ H Q I h => h.elim (h1.run pins s σ H Q I) (h2.run pins s σ H Q I)⟩
/-- the builtins that the text calls -/
structure Blt (mg : Str → Option Value) : Prop where
  len : mg "len" = none
  all : mg "all" = none
  isi : mg "isinstance" = none
  bool : mg "bool" = none
  tuple : mg "tuple" = none
  list : mg "list" = none
  range : mg "range" = none
  enum : mg "enumerate" = none
  int : mg "int" = none
  sup : mg "super" = none
  sorted : mg "sorted" = none
  dict : mg "dict" = none
  str : mg "str" = none
  min : mg "min" = none
  max : mg "max" = none
  ve : mg "ValueError" = none
  set : mg "set" = none
  sum : mg "sum" = none
  any : mg "any" = none
/-- all but two objects stay -/
def But2 (l S : Addr) (H H' : Hp) : Prop := ∀ b o, H b = some o → b ≠ l → b ≠ S → H' b = some o
theorem But2.refl {l S : Addr} (H : Hp) : But2 l S H H := fun _ _ e _ _ => e
theorem But2.trans {l S : Addr} {H H1 H2 : Hp} (a : But2 l S H H1) (b : But2 l S H1 H2) : But2 l S H H2 := fun c o e n m => b c o (a c o e n m) n m
theorem But2.of {l S : Addr} {H H' : Hp} (s : Same H H') : But2 l S H H' := fun b o e _ _ => s b o e
theorem But2.upd1 {l S : Addr} {H : Hp} {o : HO} : But2 l S H (upd H l o) := fun b u e nb _ => by rw [upd_ne nb]; exact e
theorem But2.upd2 {l S : Addr} {H : Hp} {o : HO} : But2 l S H (upd H S o) := fun b u e _ nb => by rw [upd_ne nb]; exact e
/-- all but two objects and the tables stay -/
def Keep2 (l S : Addr) (H H' : Hp) : Prop := ∀ b o, H b = some o → b ≠ l → b ≠ S → (∀ ps, o ≠ .tbl ps) → H' b = some o
theorem Keep2.trans {l S : Addr} {H H1 H2 : Hp} (a : Keep2 l S H H1) (b : Keep2 l S H1 H2) : Keep2 l S H H2 := fun c o e n m t => b c o (a c o e n m t) n m t
theorem Keep2.of {l S : Addr} {H H' : Hp} (s : Same H H') : Keep2 l S H H' := fun b o e _ _ _ => s b o e
theorem Keep2.but {l S : Addr} {H H' : Hp} (s : But2 l S H H') : Keep2 l S H H' := fun b o e n m _ => s b o e n m
theorem Keep2.ext {l S : Addr} {H H' : Hp} (s : LamX.ExtN H H') : Keep2 l S H H' := fun b o e _ _ t => s b o e t
/-- a def whose code object is known -/
structure FunL (K : PySem.W.Frag) (x qual : Str) (st : Stmt) (f c : Addr) (fd : FuncData) : Prop where
  ex : ∃ (oc : Value) (od : Option Addr) (kV doc pm : Value) (an : Option Addr) (ct : Value) (osl : Array (Option Value)),
    fd = PySem.W.fnOf x qual (defArgs st) (defBody st) (defScope st) .none kV doc pm an (.ref c) ct ∧ K.lookup f = some ⟨oc, od, .func (PySem.W.fnOf x qual (defArgs st) (defBody st) (defScope st) .none kV doc pm an (.ref c) ct), osl⟩ ∧ PySem.W.codeIn K (.ref c) qual = true
theorem FunL.okX {P : Program} {w : World} {K : PySem.W.Frag} {mg : Str → Option Value} {base : Heap} {x qual : Str} {st : Stmt} {f c : Addr} {fd : FuncData} {N ps : List Str} {k : Nat} {sp : Sp} (F : FunL K x qual st f c fd) (S : FnScope N ps (defScope st)) (len : ∀ vs H Q E, sp vs H Q E → vs.length = ps.length)
    (hbody : ∀ (A : Around) (outer : List Env) (s : Shared) (H : Hp) (vs : List V) (Q : VK) (E : XK), Room k (A.deeper (PyProof.Rows.envOfC qual (defScope st) s.heap.objs.size f (.ref c))) → sp vs H Q E →
      ∃ t, PSs (cxOf (L2.CX P w) P w K mg base N qual (defScope st) f (.ref c) A outer s H E) (defBody st) t ∧ t { nx := fun _ H' => Q .non H', rt := Q } (L2.start N vs) H) : FnOk P w K mg base (L2.CX P w) (k + 1) f fd ps sp := by
  obtain ⟨oc, od, kV, doc, pm, an, ct, osl, rfl, lk, hcd⟩ := F.ex
  exact fn_of lk hcd S len fun A outer s H vs Q E hr hsp => hbody A outer s H vs Q E hr hsp
theorem FunL.ok0 {P : Program} {w : World} {K : PySem.W.Frag} {mg : Str → Option Value} {base : Heap} {x qual : Str} {st : Stmt} {f c : Addr} {fd : FuncData} {N ps : List Str} {k : Nat} {sp : Sp} (F : FunL K x qual st f c fd) (S : FnScope N ps (defScope st)) (len : ∀ vs H Q E, sp vs H Q E → vs.length = ps.length)
    (hbody : ∀ (A : Around) (outer : List Env) (s : Shared) (H : Hp) (vs : List V) (Q : VK) (E : XK), Room k (A.deeper (PyProof.Rows.envOfC qual (defScope st) s.heap.objs.size f (.ref c))) → sp vs H Q E →
      ∃ t, PSs (cxOf CX0 P w K mg base N qual (defScope st) f (.ref c) A outer s H E).nox (defBody st) t ∧ t { nx := fun _ H' => Q .non H', rt := Q } (L2.start N vs) H) : FnOk P w K mg base CX0 (k + 1) f fd ps sp := by
  obtain ⟨oc, od, kV, doc, pm, an, ct, osl, rfl, lk, hcd⟩ := F.ex
  refine fn_of lk hcd S len fun A outer s H vs Q E hr hsp => ?_
  obtain ⟨t, h, q⟩ := hbody A outer s H vs Q E hr hsp
  exact ⟨t, h.nox, q⟩
end Shg
set_option Elab.async false
set_option linter.all false
set_option maxRecDepth 100000
set_option maxHeartbeats 2000000
/-! Operators of own classes by a promise; instances made with a star. -/
namespace Sho
open PySem PySem.Spec PyProof.Rows L2 StX

section
variable {P : Program} {w : World} {K : PySem.W.Frag} {mg : Str → Option Value} {base : Heap} {CX : CXT} {k : Nat} {f : Addr} {fd : FuncData} {ps : List Str} {sp : Sp}
/-- a def's promise by its values alone -/
theorem fnr_of (F : FnOk P w K mg base CX k f fd ps sp) (hb : Binds K fd ps []) : FnR P w K mg base CX k f sp := by
  intro A outer s H us vs Q E hr e0 r h
  have hl := F.len _ _ _ _ h
  have hk : K.In s.heap := e0.mod.kin.keeps fun b o e => (e0.bs b o e).1
  have b := hb s us hk (by rw [List.append_nil, ← r.length]; exact hl)
  rw [List.append_nil] at b
  exact F.run A outer s H ⟨us, []⟩ us vs Q E hr e0 b r h
end

section
variable {X : Cx} {CX : CXT} {k : Nat} {f C : Addr} {sp : Sp} {E : XK}
theorem run_r {pins : List (Addr × Obj)} {σ : L2.St} {H : Hp} {s : Shared} {Q : VK} {us : List Value} {vs : List V} (F : FnR X.prog X.w X.K X.mg X.base CX k f sp) (hr : Room k X.A) (hx : Passes CX X E)
    (I : Inv X pins σ H s) (r : Vals vs us) (h : sp vs H Q E) : wpAny (model X.prog X.w) X.A (call (.ref f) us) (EP X pins σ Q) X.xe s := by
  refine wpAny_call (codeAny_mono (F X.A X.stack s H us vs Q E hr I.env0 r h) fun r s' hq => ?_)
  cases r with
  | error e => exact hx pins σ H s e s' I hq
  | ok fl =>
    cases fl with
    | ret u => exact I.after hq
    | next => exact False.elim hq
    | brk => exact False.elim hq
    | cont => exact False.elim hq

theorem back_of {pins : List (Addr × Obj)} {σ : L2.St} {Q : VK} {u : Value} {s' : Shared} (h : EP X pins σ Q u s') : PySem.W.CmpBack (EP X pins σ Q) u s' := by
  obtain ⟨v, H', I, r, q⟩ := h
  cases u with
  | notImplemented => exact nomatch (show absV Value.notImplemented = some v from RelV.abs r)
  | _ => exact ⟨v, H', I, r, q⟩

/-- an own instance, the instance's own place in the heap -/
def InsAt (H : Hp) (a C : Addr) : Prop := ∃ dx fs, H a = some (.ins C dx fs)

/-- a op b, both of the class at C, C's own method -/
def rOwn2 (C : Addr) (sp : Sp) (E : XK) : R2 := fun x y H Q => ∃ a b, x = .ref a ∧ y = .ref b ∧ InsAt H a C ∧ InsAt H b C ∧ sp [.ref a, .ref b] H Q E
theorem op_own2 {op : Operator} (F : FnR X.prog X.w X.K X.mg X.base CX k f sp) (hr : Room k X.A) (hx : Passes CX X E) (hc : PySem.W.selfFirst X.K C = true)
    (hs : PySem.W.findIn X.K (.ref C) (PySem.dunder op.info.2) = some (some (.ref f))) (hf : PySem.W.isFn X.K (.ref f) = true) : OpR X (binaryOp op) (rOwn2 C sp E) := by
  rintro pins s σ H x y u v Q I rx ry ⟨a, b, rfl, rfl, ⟨dx, fs, ha⟩, ⟨dy, gs, hb⟩, h⟩
  cases rx
  cases ry
  obtain ⟨mA, J, _⟩ := ins_get I.hok ha
  obtain ⟨mB, J', _⟩ := ins_get I.hok hb
  obtain ⟨od, J, _⟩ := J.look
  obtain ⟨od', J', _⟩ := J'.look
  obtain ⟨m, hF⟩ := I.fr
  exact PySem.W.binop_K hF I.ok.mod.kin J J'.type hc hs hf (thn (run_r (vs := [.ref a, .ref b]) F hr hx I (.cons rfl (.cons rfl .nil)) h) fun u s' q => back_of q)

/-- a op b, a of the class at C, b of the built-in type T -/
def rOwnT (C : Addr) (sp : Sp) (E : XK) (isT : V → Prop) : R2 := fun x y H Q => ∃ a, x = .ref a ∧ isT y ∧ InsAt H a C ∧ sp [.ref a, y] H Q E
theorem op_ownT {op : Operator} {T : String} {isT : V → Prop} {fo ro rc : Option Value} (F : FnR X.prog X.w X.K X.mg X.base CX k f sp) (hr : Room k X.A) (hx : Passes CX X E) (hc : PySem.W.selfFirst X.K C = true)
    (hT : ∀ y v, isT y → RelV y v → typeOf v = pure (.type T))
    (hs : PySem.W.findIn X.K (.ref C) (PySem.dunder op.info.2) = some (some (.ref f))) (hf : PySem.W.isFn X.K (.ref f) = true)
    (hr2 : PySem.W.findIn X.K (.ref C) (dunderR op.info.2) = some rc) (hp : rc = none ∨ ∃ g : Addr, rc = some (.ref g))
    (h1 : PySem.W.findIn X.K (.type T) (PySem.dunder op.info.2) = some fo) (h2 : PySem.W.findIn X.K (.type T) (dunderR op.info.2) = some ro) (hsub : PySem.W.subIn X.K (.type T) (.ref C) = some false) :
    OpR X (binaryOp op) (rOwnT C sp E isT) := by
  rintro pins s σ H x y u v Q I rx ry ⟨a, rfl, ht, ⟨dx, fs, ha⟩, h⟩
  cases rx
  obtain ⟨mA, J, _⟩ := ins_get I.hok ha
  obtain ⟨od, J, _⟩ := J.look
  obtain ⟨m, hF⟩ := I.fr
  exact PySem.W.ksp_binT hF I.ok.mod.kin J (hT _ _ ht ry) hc hs hf hr2 hp h1 h2 hsub (thn (run_r (vs := [.ref a, y]) F hr hx I (.cons rfl (.cons ry .nil)) h) fun u s' q => back_of q)
def isInt : V → Prop := fun y => ∃ i, y = .int i
def isStr : V → Prop := fun y => ∃ i, y = .str i
theorem ty_int : ∀ y v, isInt y → RelV y v → typeOf v = pure (.type "int") := by
  rintro y v ⟨i, rfl⟩ ⟨t, rfl⟩
  rfl
theorem ty_str : ∀ y v, isStr y → RelV y v → typeOf v = pure (.type "str") := by
  rintro y v ⟨i, rfl⟩ ⟨t, rfl⟩
  rfl

/-- x in a, not in: a's own __contains__, which hands back a bool -/
def rOwnIn (C : Addr) (neg : Bool) (sp : Sp) (E : XK) : R2 := fun x y H Q => ∃ a, y = .ref a ∧ InsAt H a C ∧ sp [.ref a, x] H (fun r H' => ∃ c, r = .bl c ∧ Q (.bl (if neg then !c else c)) H') E
theorem op_ownIn (F : FnR X.prog X.w X.K X.mg X.base CX k f sp) (hr : Room k X.A) (hx : Passes CX X E)
    (hs : PySem.W.findIn X.K (.ref C) "__contains__" = some (some (.ref f))) (hf : PySem.W.isFn X.K (.ref f) = true) : OpR X (compareOp .In) (rOwnIn C false sp E) := by
  rintro pins s σ H x y u v Q I rx ry ⟨a, rfl, ⟨dx, fs, ha⟩, h⟩
  cases ry
  obtain ⟨mA, J, _⟩ := ins_get I.hok ha
  obtain ⟨od, J, _⟩ := J.look
  obtain ⟨m, hF⟩ := I.fr
  refine PySem.W.in_K hF I.ok.mod.kin J hs hf (thn (run_r (vs := [.ref a, x]) F hr hx I (.cons rfl (.cons rx .nil)) h) fun r s' q => ?_)
  obtain ⟨v2, H2, I2, r2, c, rfl, q2⟩ := q
  cases r2
  exact wpAny_truthy_bool ⟨.bl _, H2, I2, rfl, q2⟩
theorem op_ownNotIn (F : FnR X.prog X.w X.K X.mg X.base CX k f sp) (hr : Room k X.A) (hx : Passes CX X E)
    (hs : PySem.W.findIn X.K (.ref C) "__contains__" = some (some (.ref f))) (hf : PySem.W.isFn X.K (.ref f) = true) : OpR X (compareOp .NotIn) (rOwnIn C true sp E) := by
  rintro pins s σ H x y u v Q I rx ry ⟨a, rfl, ⟨dx, fs, ha⟩, h⟩
  cases ry
  obtain ⟨mA, J, _⟩ := ins_get I.hok ha
  obtain ⟨od, J, _⟩ := J.look
  obtain ⟨m, hF⟩ := I.fr
  refine PySem.W.notIn_K hF I.ok.mod.kin J hs hf (thn (run_r (vs := [.ref a, x]) F hr hx I (.cons rfl (.cons rx .nil)) h) fun r s' q => ?_)
  obtain ⟨v2, H2, I2, r2, c, rfl, q2⟩ := q
  cases r2
  exact wpAny_truthy_bool ⟨.bl _, H2, I2, rfl, q2⟩

/-- a[i]: a's own __getitem__ -/
def rOwnIx (C : Addr) (sp : Sp) (E : XK) : R2 := fun x y H Q => ∃ a, x = .ref a ∧ InsAt H a C ∧ sp [.ref a, y] H Q E
/-- C(*y), y a list or a tuple -/
def tMakeS (K : PySem.W.Frag) (C : Addr) (sp : Sp) (E : XK) (te : TE) : TE := fun σ H Q => te σ H fun y H1 => ∃ a xs, y = V.ref a ∧ (SqT K H1 a xs ∨ SqL K H1 a xs) ∧ ∀ x dx, H1 x = Option.none → H1 dx = Option.none → dx ≠ x →
  sp (V.ref x :: xs) (upd (upd H1 dx (.own x)) x (.ins C dx [])) (fun v H2 => v = .non ∧ Q (.ref x) H2) E
theorem pe_makeS {x : Str} {e : Expr} {te : TE} {p sp_ pos : Pos} (M : Mk X.K C f) (F : FnR X.prog X.w X.K X.mg X.base CX k f sp) (hr : Room (k + 1) X.A) (hg : Gl X x) (hm : X.mg x = some (.ref C)) (hx : Passes CX X E) (he : PE X e te) (hd : (x == ("__debug__" : Str)) = false := by decide)
    (hst : starEach [.Starred e sp_] X.env = [(true, eval e X.env)] := by rfl) : PE X (.Call (.Name x p) [.Starred e sp_] [] pos) (tMakeS X.K C sp E te) := by
  refine ⟨fun pins s σ H Q I h => ?_⟩
  refine wpAny_Call_Name_kw (ld_glob I hg hm ?_ hd)
  refine PySem.W.callWith_S (h₀ := X.base) I.ok.mod.kin M.kp (thn (he.run pins s σ H _ I h) fun v s1 ⟨y, H1, I1, ry, a, xs, ey, hxs, q⟩ => ?_) hst
  subst ey
  obtain rfl : v = Value.ref a := ry
  exact star_any I1 hxs fun us s2 I2 rv => ⟨I2.kIn, run_makeR M F hr hx I2 rv q⟩
/-- C() -/
theorem pe_makeR0 {x : Str} {p pos : Pos} (M : Mk X.K C f) (F : FnR X.prog X.w X.K X.mg X.base CX k f sp) (hr : Room (k + 1) X.A) (hg : Gl X x) (hm : X.mg x = some (.ref C)) (hx : Passes CX X E) (hdb : (x == ("__debug__" : Str)) = false := by decide) :
    PE X (.Call (.Name x p) [] [] pos) (tMakeR C sp E tNil) := by
  refine ⟨fun pins s σ H Q I h => ?_⟩
  refine wpAny_Call_Name_kw (ld_glob I hg hm ?_ hdb)
  exact PySem.W.callWith_K0 I.kIn M.kp (run_makeR (us := []) M F hr hx I .nil h)
end
end Sho
set_option Elab.async false
set_option linter.all false
namespace Sh1
open PySem L2
abbrev pw : Program := PySem.Challenge.pw_shoepile_k46_whole_texts_and_charts
def top (i : Nat) : Stmt := PySem.Challenge.pw_shoepile_k46_whole_texts_and_charts.main.body.getD i (.Pass ⟨0, 0, 0, 0⟩)
abbrev sWall : Stmt := top 0
abbrev cPartyError : Stmt := top 2
abbrev cInvalidStay : Stmt := top 3
abbrev sInvInit : Stmt := inClass (top 3) 0
abbrev cUnknownGuest : Stmt := top 4
abbrev sUnkInit : Stmt := inClass (top 4) 0
abbrev cInvalidNumber : Stmt := top 5
abbrev cInvalidName : Stmt := top 6
abbrev cTooEarly : Stmt := top 7
abbrev cInvalidOperation : Stmt := top 8
abbrev sInvalidOperation_Init : Stmt := inClass (top 8) 0
abbrev cInvalidText : Stmt := top 9
abbrev sInvalidText_Init : Stmt := inClass (top 9) 0
abbrev cTooWide : Stmt := top 10
abbrev cDaybookError : Stmt := top 11
abbrev sDaybookError_Init : Stmt := inClass (top 11) 0
abbrev cDecodeError : Stmt := top 12
abbrev sDecodeError_Init : Stmt := inClass (top 12) 0
abbrev sIsName : Stmt := top 16
abbrev sIsWithin : Stmt := top 17
abbrev sIsTick : Stmt := top 18
abbrev sIsStay : Stmt := top 19
abbrev sBottomUp : Stmt := top 20
abbrev sLiftedFrom : Stmt := top 21
abbrev sCheck : Stmt := top 23
abbrev cParty : Stmt := top 24
abbrev sPInit : Stmt := inClass (top 24) 1
abbrev sPEvening : Stmt := inClass (top 24) 2
abbrev sPStays : Stmt := inClass (top 24) 3
abbrev sPNames : Stmt := inClass (top 24) 4
abbrev sPStayOf : Stmt := inClass (top 24) 5
abbrev sPLen : Stmt := inClass (top 24) 6
abbrev sPBool : Stmt := inClass (top 24) 7
abbrev sPIn : Stmt := inClass (top 24) 8
abbrev sPIx : Stmt := inClass (top 24) 9
abbrev sPIter : Stmt := inClass (top 24) 10
abbrev sPEq : Stmt := inClass (top 24) 11
abbrev sPSub : Stmt := inClass (top 24) 12
abbrev sPAdd : Stmt := inClass (top 24) 13
abbrev sPShift : Stmt := inClass (top 24) 14
abbrev sPCall : Stmt := inClass (top 24) 15
abbrev sPCross : Stmt := inClass (top 24) 16
abbrev sPPile : Stmt := inClass (top 24) 17
abbrev sRowsOf : Stmt := top 28
abbrev sIsNumber : Stmt := top 29
abbrev sFormatParty : Stmt := top 30
abbrev sIsStayRow : Stmt := top 31
abbrev sParseParty : Stmt := top 32
abbrev sChart : Stmt := top 33
abbrev sLawMix : Stmt := top 35
abbrev sLawNext : Stmt := top 36
abbrev sLawAlike : Stmt := top 37
abbrev sOut : Stmt := top 38
abbrev sLawStays : Stmt := top 39
abbrev sLawParty : Stmt := top 40
abbrev sLawIsTick : Stmt := top 41
abbrev sLawDue : Stmt := top 42
abbrev sLawBent : Stmt := top 43
abbrev sLaw : Stmt := top 44
abbrev nDue : PySem.Str := "_law_due_here"
end Sh1
set_option Elab.async false
set_option linter.all false
set_option maxRecDepth 100000
set_option maxHeartbeats 2000000
/-! _law_mix, _law_next: draws; the state is the list at l, its cells stand in the list at S. -/
namespace Sh4
open PySem L2 Sho NdefX Shg Sh1
structure NextSt (H : Hp) (l S : Addr) : Prop where
  ex : ∃ (m p : Int) (cells : List Int), H l = some (.lst [.int m, .ref S, .int p]) ∧ H S = some (.lst (cells.map V.int)) ∧ cells.length ≤ 63
  ne : S ≠ l
theorem NextSt.same {H H' : Hp} {l S : Addr} (d : NextSt H l S) (s : Same H H') : NextSt H' l S := by
  obtain ⟨⟨m, p, cells, h1, h2, h3⟩, n⟩ := d
  exact ⟨⟨m, p, cells, s _ _ h1, s _ _ h2, h3⟩, n⟩
section
variable {P : Program} {w : World} {K : PySem.W.Frag} {mg : Str → Option Value} {base : Heap}
def spMix (K : PySem.W.Frag) : Sp := fun vs H Q _ => ∃ (a : Addr) (ns : List Int) (z : Int), vs = [.ref a, .int z] ∧ SqL K H a (ns.map V.int) ∧ ns.length ≤ 63 ∧ ∀ H' l S, Same H H' → H l = none → H S = none → NextSt H' l S → Q (.ref l) H'
theorem scMix : FnScope ["_law_script", "_law_seed", "_law_mixed", "_law_cell"] ["_law_script", "_law_seed"] (defScope sLawMix) := ⟨rfl, rfl, rfl, by decide +kernel, rfl, by decide +kernel, by decide +kernel⟩
theorem ok_mix {f : Addr} {fd : FuncData} (F : Fun K "_law_mix" "_law_mix" sLawMix f fd) (B : Blt mg) : FnOk P w K mg base CX0 1 f fd ["_law_script", "_law_seed"] (spMix K) := by
  refine F.ok scMix (fun vs H Q E h => ?_) (fun cdv A outer s H vs Q E hr h => ?_)
  · obtain ⟨a, ns, z, rfl, _⟩ := h
    rfl
  · obtain ⟨a, ns, z, rfl, ha, hlen, k⟩ := h
    have nd := scMix.nd
    refine ⟨_, pss_cons (ps_set (i := 2) nd rfl (Or.inl rfl) (pv 1)) (pss_cons (ps_for PassesOwn.never rfl (pi_list (pv 0)) (pg_name (i := 3) nd rfl (Or.inl rfl))
        (pss_one (ps_set (i := 2) nd rfl (Or.inl rfl) (pe_op op_mod (pe_op op_add (pe_op op_add (pe_op op_mul (pv 2) pe_int) (pe_op op_mod (pv 3) pe_int)) pe_int) pe_int))))
      (pss_one (ps_ret (pe_lst (pa_cons (pv 2) (pa_cons (pe_callTy call_list_of (by rfl) B.list (by decide +kernel) (pa_cons (pv 0) pa_nil)) (pa_cons pe_int pa_nil))))))), ?_⟩
    refine ⟨_, rfl, _, rfl, a, rfl, ⟨_, ha⟩, for_it walk_list (fun i σ H2 => ∃ (m : Int) (o : Option V), σ = [some (.ref a), some (.int z), some (.int m), o] ∧ H2 = H) ⟨z, none, rfl, rfl⟩
      (fun i σ H2 _ ⟨_, _, _, e⟩ => by rw [e]; exact ha) ?_ ?_⟩
    · rintro i y σ H2 H3 hi ⟨m, o, rfl, rfl⟩ ⟨rfl, e2⟩
      obtain ⟨c, rfl⟩ : ∃ c, y = V.int c := by
        rw [List.getElem?_map] at e2
        cases e : ns[i]? with
        | none =>
          rw [e] at e2
          cases e2
        | some c =>
          rw [e] at e2
          exact ⟨c, (Option.some.inj e2).symm⟩
      refine ⟨_, rfl, _, _, rfl, rfl, .inr ⟨by decide, by decide⟩, _, rfl, _, _, rfl, rfl, (by show (0 : Int) < 2147483629; decide), _, _, rfl, rfl, _, _, rfl, rfl, _, _, rfl, rfl, (by show (0 : Int) < 2147483647; decide), ?_⟩
      exact ⟨_, _, rfl, rfl⟩
    · rintro σ H2 ⟨m, o, rfl, rfl⟩
      refine ⟨_, rfl, _, rfl, a, _, rfl, .inl ha, fun S hS => ⟨by show 3 ≤ sizeLine; decide, fun l hl => ?_⟩⟩
      have s1 : Same H2 (upd H2 S (.lst (ns.map V.int))) := same_upd hS
      have s2 := s1.trans (same_upd (o := .lst [.int m, .ref S, .int 0]) hl)
      have nl : S ≠ l := fun e => by
        rw [← e, upd_same] at hl
        cases hl
      have hl0 : H2 l = none := by
        rw [upd_ne (Ne.symm nl)] at hl
        exact hl
      exact k _ l S s2 hl0 hS ⟨⟨m, 0, ns, upd_same, by rw [upd_ne nl]; exact upd_same, hlen⟩, nl⟩
def spNext : Sp := fun vs H Q _ => ∃ (l S : Addr) (n : Int), vs = [.ref l, .int n] ∧ NextSt H l S ∧ 0 < n ∧ n < 1073741824 ∧ ∀ (r : Int) H', 0 ≤ r → r < n → But2 l S H H' → NextSt H' l S → Q (.int r) H'
theorem scNext : FnScope ["_law_h", "_law_limit", "_law_cell"] ["_law_h", "_law_limit"] (defScope sLawNext) := ⟨rfl, rfl, rfl, by decide +kernel, rfl, by decide +kernel, by decide +kernel⟩
theorem set_cells {ns : List Int} {j : Nat} {c : Int} : (ns.map V.int).set j (.int c) = (ns.set j c).map V.int := by
  rw [List.map_set]
theorem ok_next {f : Addr} {fd : FuncData} (F : Fun K "_law_next" "_law_next" sLawNext f fd) (B : Blt mg) : FnOk P w K mg base CX0 1 f fd ["_law_h", "_law_limit"] spNext := by
  refine F.ok scNext (fun vs H Q E h => ?_) (fun cdv A outer s H vs Q E hr h => ?_)
  · obtain ⟨l, S, n, rfl, _⟩ := h
    rfl
  · obtain ⟨l, S, n, rfl, ⟨⟨m, p, cells, hl, hS, hlen⟩, ne⟩, n0, n1, k⟩ := h
    have nd := scNext.nd
    refine ⟨_, pss_cons (ps_set (i := 2) nd rfl (Or.inl rfl) (pe_ix ix_list (pe_op op_cat (pe_ix ix_list (pv 0) pe_int (fun _ _ => rfl)) (pe_lst (pa_cons pe_int pa_nil)))
          (pe_op op_mod (pe_ix ix_list (pv 0) pe_int (fun _ _ => rfl)) (pe_callB (call_max2 rfl) (by rfl) B.max (by decide +kernel) (pa_cons pe_int (pa_cons (pe_callB call_len_seq (by rfl) B.len PySem.boot_len (pa_cons (pe_ix ix_list (pv 0) pe_int (fun _ _ => rfl)) pa_nil)) pa_nil)))) (fun _ _ => rfl)))
      (pss_cons (ps_if (pt_cmpR op_ge (pv 2) (pe_op op_pow pe_int pe_int) (nomark _))
        (pss_cons (ps_asg (pe_op op_fdiv (pv 2) (pv 1)) (pg_sub (pe_ix ix_list (pv 0) pe_int (fun _ _ => rfl)) (pe_op op_mod (pe_ix ix_list (pv 0) pe_int (fun _ _ => rfl)) (pe_callB call_len_seq (by rfl) B.len PySem.boot_len (pa_cons (pe_ix ix_list (pv 0) pe_int (fun _ _ => rfl)) pa_nil))) set_list))
          (pss_one (ps_ret (pe_op op_mod (pv 2) (pv 1))))) pss_nil)
      (pss_cons (ps_asg (pe_op op_mod (pe_op op_add (pe_op op_add (pe_op op_mul (pe_ix ix_list (pv 0) pe_int (fun _ _ => rfl)) pe_int) (pe_op op_mul (pv 2) pe_int)) pe_int) pe_int) (pg_sub (pv 0) pe_int set_list))
      (pss_cons (ps_asg (pe_op op_add (pe_ix ix_list (pv 0) pe_int (fun _ _ => rfl)) pe_int) (pg_sub (pv 0) pe_int set_list))
      (pss_one (ps_ret (pe_op op_mod (pe_op op_fdiv (pe_ix ix_list (pv 0) pe_int (fun _ _ => rfl)) pe_int) (pv 1))))))), ?_⟩
    have fin : ∀ (r m' p' : Int) (cs : List Int) (H1 : Hp), 0 ≤ r → r < n → But2 l S H H1 → H1 l = some (.lst [.int m', .ref S, .int p']) → H1 S = some (.lst (cs.map V.int)) → cs.length ≤ 63 → Q (.int r) H1 := fun r m' p' cs H1 a1 a2 bu e1 e2 e3 =>
      k r H1 a1 a2 bu ⟨⟨m', p', cs, e1, e2, e3⟩, ne⟩
    have lm : (cells.map V.int).length = cells.length := List.length_map ..
    refine ⟨_, rfl, l, _, 1, .ref S, rfl, rfl, SqL.of hl, atI_nat (j := 1) rfl, by show 1 ≤ sizeLine; decide, fun L1 hL1 => ?_⟩
    have s1 : Same H (upd H L1 (.lst [.int 0])) := same_upd hL1
    refine ⟨S, L1, _, _, rfl, rfl, s1 _ _ hS, upd_same, by rw [lm]; show cells.length + 1 ≤ sizeLine; exact Nat.le_trans (Nat.succ_le_succ hlen) (by decide), fun C hC => ?_⟩
    have s2 := s1.trans (same_upd (o := .lst (cells.map V.int ++ [.int 0])) hC)
    generalize hH2 : upd (upd H L1 (.lst [.int 0])) C (.lst (cells.map V.int ++ [.int 0])) = H2 at s2
    have eC : H2 C = some (.lst (cells.map V.int ++ [.int 0])) := by rw [← hH2]; exact upd_same
    have hl2 := s2 _ _ hl
    have hS2 := s2 _ _ hS
    -- the number of cells, at least one
    have mx : ∀ {M : Int}, M = (if (cells.length : Int) > 1 then (cells.length : Int) else 1) → 0 < M ∧ M ≤ 63 ∧ (0 < cells.length → M = cells.length) := fun {M} e => by
      rw [e]
      split <;> omega
    generalize hM : (if (cells.length : Int) > 1 then (cells.length : Int) else 1) = M at *
    obtain ⟨M0, M1, M2⟩ := mx (M := M) rfl
    have q0 := Int.emod_nonneg p (b := M) (by omega)
    have q1 := Int.emod_lt_of_pos p M0
    obtain ⟨j, hj⟩ : ∃ j : Nat, p % M = (j : Int) := ⟨(p % M).toNat, by omega⟩
    -- the cell
    obtain ⟨c, hc, hcc⟩ : ∃ c : Int, (cells.map V.int ++ [V.int 0])[j]? = some (V.int c) ∧ (cells[j]? = some c ∨ c = 0) := by
      by_cases hjl : j < cells.length
      · refine ⟨cells[j], ?_, .inl (List.getElem?_eq_getElem hjl)⟩
        rw [List.getElem?_append_left (by rw [lm]; exact hjl), List.getElem?_map, List.getElem?_eq_getElem hjl]
        rfl
      · have : j = cells.length := by omega
        refine ⟨0, ?_, .inr rfl⟩
        rw [List.getElem?_append_right (by rw [lm]; omega), lm, this, Nat.sub_self]
        rfl
    refine ⟨_, rfl, l, _, 2, .int p, rfl, rfl, SqL.of hl2, atI_nat (j := 2) rfl, _, rfl, l, _, 1, .ref S, rfl, rfl, SqL.of hl2, atI_nat (j := 1) rfl, S, _, rfl, .inl (SqL.of hS2), 1, (cells.length : Int), by rw [lm], ?_⟩
    rw [hM]
    refine ⟨p, M, rfl, rfl, M0, C, _, p % M, .int c, rfl, rfl, SqL.of eC, by rw [hj]; exact atI_nat hc, ?_⟩
    refine ⟨_, rfl, _, _, rfl, rfl, ⟨by decide, by decide, by decide⟩, _, _, rfl, rfl, _, rfl, ?_⟩
    refine ite2 (fun h1 => ?_) (fun h1 => ?_)
    · have c0 : (10 : Int) ^ (18 : Int).toNat ≤ c := of_decide_eq_true h1
      have c1 : (0 : Int) < 10 ^ (18 : Int).toNat := by decide
      have hcl : cells[j]? = some c := hcc.resolve_right (by omega)
      have jl : j < cells.length := (List.getElem?_eq_some_iff.mp hcl).1
      have eM : M = cells.length := M2 (by omega)
      refine ⟨_, rfl, _, rfl, _, _, rfl, rfl, ⟨n0, n1⟩, _, rfl, l, _, 1, .ref S, rfl, rfl, SqL.of hl2, atI_nat (j := 1) rfl, _, rfl, l, _, 2, .int p, rfl, rfl, SqL.of hl2, atI_nat (j := 2) rfl,
        _, rfl, l, _, 1, .ref S, rfl, rfl, SqL.of hl2, atI_nat (j := 1) rfl, S, _, rfl, .inl (SqL.of hS2), p, (cells.length : Int), rfl, by rw [lm], by omega, S, _, p % (cells.length : Int), j, rfl, rfl, hS2, ?_, ?_⟩
      · rw [← eM, hj, lm]
        exact ixN_nat jl
      · refine ⟨_, rfl, _, rfl, _, _, rfl, rfl, n0, ?_⟩
        rw [set_cells]
        exact fin _ m p (cells.set j (c / n)) _ (Int.emod_nonneg _ (by omega)) (Int.emod_lt_of_pos _ n0) ((But2.of s2).trans .upd2) (by rw [upd_ne (Ne.symm ne)]; exact hl2) upd_same (by rw [List.length_set]; exact hlen)
    · refine ⟨_, rfl, l, _, 0, .int m, rfl, rfl, SqL.of hl2, atI_nat (j := 0) rfl, _, _, rfl, rfl, .inr ⟨by decide, by decide⟩, _, rfl, _, _, rfl, rfl, .inr ⟨by decide, by decide⟩, _, _, rfl, rfl, _, _, rfl, rfl, _, _, rfl, rfl, (by show (0 : Int) < 2147483647; decide), _, rfl, l, _, 0, 0, rfl, rfl, hl2, rfl, ?_⟩
      refine ⟨_, rfl, l, _, 2, .int p, rfl, rfl, SqL.of upd_same, atI_nat (j := 2) rfl, _, _, rfl, rfl, _, rfl, l, _, 2, 2, rfl, rfl, upd_same, rfl, ?_⟩
      refine ⟨_, rfl, l, _, 0, .int ((m * 48271 + c * 69621 + 11) % 2147483647), rfl, rfl, SqL.of upd_same, atI_nat (j := 0) rfl, _, _, rfl, rfl, ⟨by decide, by decide⟩, _, rfl, _, _, rfl, rfl, n0, ?_⟩
      exact fin _ ((m * 48271 + c * 69621 + 11) % 2147483647) (p + 1) cells _ (Int.emod_nonneg _ (by omega)) (Int.emod_lt_of_pos _ n0) (((But2.of s2).trans .upd1).trans .upd1) upd_same (by rw [upd_ne ne, upd_ne ne]; exact hS2) hlen
end
end Sh4
set_option Elab.async false
set_option linter.all false
set_option maxRecDepth 100000
set_option maxHeartbeats 2000000
/-! _law_alike on ints, texts, bools, None, lists and tuples of them. -/
namespace Sh4
open PySem L2 Sho NdefX Shg Sh1
def LeafV : V → Prop
  | .int _ => True
  | .str _ => True
  | .bl _ => True
  | .non => True
  | _ => False
def Alike (H : Hp) : Nat → V → V → Prop
  | 0, x, y => LeafV x ∧ x = y
  | n + 1, x, y => (LeafV x ∧ x = y) ∨ ∃ (a b : Addr) (xs ys : List V), x = .ref a ∧ y = .ref b ∧ ((H a = some (.lst xs) ∧ H b = some (.lst ys)) ∨ (H a = some (.tup xs) ∧ H b = some (.tup ys))) ∧ xs.length ≤ 1000 ∧ PySem.Paired (fun u v => Alike H n u v) xs ys
theorem Alike.same {H H' : Hp} (s : Same H H') : ∀ {n : Nat} {x y : V}, Alike H n x y → Alike H' n x y
  | 0, _, _, h => h
  | n + 1, x, y, h => by
    rcases h with h | ⟨a, b, xs, ys, e1, e2, e3, e4, e5⟩
    · exact .inl h
    · exact .inr ⟨a, b, xs, ys, e1, e2, e3.imp (fun z => ⟨s _ _ z.1, s _ _ z.2⟩) (fun z => ⟨s _ _ z.1, s _ _ z.2⟩), e4, pair_mono (fun u v q => Alike.same s q) e5⟩
section
variable {P : Program} {w : World} {K : PySem.W.Frag} {mg : Str → Option Value} {base : Heap}
def spAlike (n : Nat) : Sp := fun vs H Q _ => ∃ (x y : V), vs = [x, y] ∧ Alike H n x y ∧ ∀ H', Same H H' → Q (.bl true) H'
theorem scAlike : FnScope ["_law_found", nDue, "_law_k"] ["_law_found", nDue] (defScope sLawAlike) := ⟨rfl, rfl, rfl, by decide +kernel, rfl, by decide +kernel, by decide +kernel⟩
theorem kA {K : PySem.W.Frag} {t : String} (h1 : kitB t "tuple" = some false) (h2 : kitB t "list" = some false) : PySem.W.kitAny K (.type t) [.type "tuple", .type "list"] = some false :=
  kitAny_cons (b := false) h1 (fun _ => kitAny_cons (b := false) h2 (fun _ => rfl) fun z => nomatch z) fun z => nomatch z
theorem kT {K : PySem.W.Frag} : PySem.W.kitAny K (.type "tuple") [.type "tuple", .type "list"] = some true :=
  kitAny_cons (b := true) (show kitB "tuple" "tuple" = some true by decide +kernel) (fun z => nomatch z) fun _ => rfl
theorem kL {K : PySem.W.Frag} : PySem.W.kitAny K (.type "list") [.type "tuple", .type "list"] = some true :=
  kitAny_cons (b := false) (show kitB "list" "tuple" = some false by decide +kernel) (fun _ => kitAny_cons (b := true) (show kitB "list" "list" = some true by decide +kernel) (fun z => nomatch z) fun _ => rfl) fun z => nomatch z
/-- what the tests ask of a leaf's class -/
structure LeafTy (K : PySem.W.Frag) (x : V) (t : String) (isNon isStr isInt isBool : Bool) : Prop where
  ty : ∀ H, TyX K H x (.type t)
  kd : kitB t "dict" = some false
  ka : PySem.W.kitAny K (.type t) [.type "tuple", .type "list"] = some false
  non : decide (x = .non) = isNon
  str : kitB t "str" = some isStr
  int : kitB t "int" = some isInt
  bool : kitB t "bool" = some isBool
  sc : scal x x = true
theorem leaf_ty {x : V} (h : LeafV x) : ∃ t isNon isStr isInt isBool, LeafTy K x t isNon isStr isInt isBool ∧ ((isNon || isStr) = false → isInt = true) := by
  cases x with
  | int i => exact ⟨"int", false, false, true, false, ⟨fun _ => .base (.int i), by decide +kernel, kA (by decide +kernel) (by decide +kernel), rfl, by decide +kernel, by decide +kernel, by decide +kernel, rfl⟩, fun _ => rfl⟩
  | str z => exact ⟨"str", false, true, false, false, ⟨fun _ => .base (.str z), by decide +kernel, kA (by decide +kernel) (by decide +kernel), rfl, by decide +kernel, by decide +kernel, by decide +kernel, rfl⟩, fun z => nomatch z⟩
  | bl b => exact ⟨"bool", false, false, true, true, ⟨fun _ => .base (.bl b), by decide +kernel, kA (by decide +kernel) (by decide +kernel), rfl, by decide +kernel, by decide +kernel, by decide +kernel, rfl⟩, fun _ => rfl⟩
  | non => exact ⟨"NoneType", true, false, false, false, ⟨fun _ => .base .non, by decide +kernel, kA (by decide +kernel) (by decide +kernel), rfl, by decide +kernel, by decide +kernel, by decide +kernel, rfl⟩, fun z => nomatch z⟩
  | _ => exact h.elim
theorem alike_split {H : Hp} {n : Nat} {sp' : Sp} {x y : V} (hn : n = 0 ∨ ∃ m, n = m + 1 ∧ sp' = spAlike m) (h : Alike H n x y) :
    (LeafV x ∧ x = y) ∨ ∃ (m : Nat) (a b : Addr) (xs ys : List V), sp' = spAlike m ∧ x = .ref a ∧ y = .ref b ∧ ((H a = some (.lst xs) ∧ H b = some (.lst ys)) ∨ (H a = some (.tup xs) ∧ H b = some (.tup ys))) ∧ xs.length ≤ 1000 ∧ PySem.Paired (fun u v => Alike H m u v) xs ys := by
  rcases hn with rfl | ⟨m, rfl, e⟩
  · exact .inl h
  · rcases h with h | ⟨a, b, xs, ys, e1, e2, e3, e4, e5⟩
    · exact .inl h
    · exact .inr ⟨m, a, b, xs, ys, e, e1, e2, e3, e4, e5⟩
/-- both readings of a subscript -/
theorem ix_seq {X : Cx} {o i : Expr} {to ti : TE} {pos : Pos} (h1 : PE X (.Subscript o i pos) (tOp (rIxL X.K) to ti)) (h2 : PE X (.Subscript o i pos) (tOp (rIxT X.K) to ti)) : PE X (.Subscript o i pos) (fun σ H Q => tOp (rIxL X.K) to ti σ H Q ∨ tOp (rIxT X.K) to ti σ H Q) := pe_either h1 h2
theorem alike_step {k n : Nat} {sp' : Sp} {f : Addr} {fd : FuncData} (F : Fun K "_law_alike" "_law_alike" sLawAlike f fd) (B : Blt mg) (mF : mg "_law_alike" = some (.ref f)) (bF : Binds K fd ["_law_found", nDue] [])
    (ih : FnOk P w K mg base CX0 k f fd ["_law_found", nDue] sp') (hn : n = 0 ∨ ∃ m, n = m + 1 ∧ sp' = spAlike m) : FnOk P w K mg base CX0 (k + 1) f fd ["_law_found", nDue] (spAlike n) := by
  refine F.ok scAlike (fun vs H Q E h => ?_) (fun cdv A outer s H vs Q E hr h => ?_)
  · obtain ⟨x, y, rfl, _⟩ := h
    rfl
  · obtain ⟨x, y, rfl, hx, kk⟩ := h
    have nd := scAlike.nd
    refine ⟨_, pss_cons (ps_if (pt_val (pe_callB call_isi (by rfl) B.isi (by decide +kernel) (pa_cons (pv 1) (pa_cons (pe_bltn (v := .ty "dict") (by rfl) B.dict (by decide +kernel) rfl) pa_nil)))) (pss_one ps_never) pss_nil)
      (pss_cons (ps_if (pt_val (pe_callB call_isiT (by rfl) B.isi (by decide +kernel) (pa_cons (pv 1) (pa_cons (pe_tup (pa_cons (pe_bltn (v := .ty "tuple") (by rfl) B.tuple (by decide +kernel) rfl) (pa_cons (pe_bltn (v := .ty "list") (by rfl) B.list (by decide +kernel) rfl) pa_nil))) pa_nil))))
        (pss_cons (ps_if (PW.pt (pw_or (pt_not (pt_val (pe_callB call_isiT (by rfl) B.isi (by decide +kernel) (pa_cons (pv 0) (pa_cons (pe_tup (pa_cons (pe_bltn (v := .ty "tuple") (by rfl) B.tuple (by decide +kernel) rfl) (pa_cons (pe_bltn (v := .ty "list") (by rfl) B.list (by decide +kernel) rfl) pa_nil))) pa_nil)))))
            (pw_or1 (pt_cmpR op_ne (pe_callB call_isi (by rfl) B.isi (by decide +kernel) (pa_cons (pv 0) (pa_cons (pe_bltn (v := .ty "list") (by rfl) B.list (by decide +kernel) rfl) pa_nil))) (pe_callB call_isi (by rfl) B.isi (by decide +kernel) (pa_cons (pv 1) (pa_cons (pe_bltn (v := .ty "list") (by rfl) B.list (by decide +kernel) rfl) pa_nil))) (nomark _)))))
            (pss_one (ps_ret pe_bl)) pss_nil)
        (pss_cons (ps_if (pt_cmpR op_ne (pe_callB call_len_seq (by rfl) B.len PySem.boot_len (pa_cons (pv 0) pa_nil)) (pe_callB call_len_seq (by rfl) B.len PySem.boot_len (pa_cons (pv 1) pa_nil)) (nomark _)) (pss_one (ps_ret pe_bl)) pss_nil)
        (pss_one (ps_ret (pe_cmpR (op_eqD (hr.mono (Nat.zero_le _)).units) (pe_lc (own := [("_law_k", 2)]) (g := gName 2) (tt := tNot (tB (tCall sp' [] E0 (tCons (fun σ H Q => tOp (rIxL K) (tVar 0) (tVar 2) σ H Q ∨ tOp (rIxT K) (tVar 0) (tVar 2) σ H Q) (tCons (fun σ H Q => tOp (rIxL K) (tVar 1) (tVar 2) σ H Q ∨ tOp (rIxT K) (tVar 1) (tVar 2) σ H Q) tNil))))) rfl nd
            (pi_range1 (by rfl) B.range (pa_cons (pe_callB call_len_seq (by rfl) B.len PySem.boot_len (pa_cons (pv 1) pa_nil)) pa_nil)) (blkOk_by (own := [("_law_k", 2)]) (N := ["_law_found", nDue, "_law_k"]) (sc := defScope sLawAlike) (by decide +kernel))
            (fun _ _ _ _ _ => pg_name (i := 2) nd rfl (Or.inl rfl))
            (fun _ _ _ _ _ => pts_one (pt_not (pt_val (pe_call ih hr rfl mF F.kp bF .nil pass0 (pa_cons (pe_either (pe_ix ix_list (pv 0) (pv 2) (fun _ _ => rfl)) (pe_ix ix_tup (pv 0) (pv 2) (fun _ _ => rfl))) (pa_cons (pe_either (pe_ix ix_list (pv 1) (pv 2) (fun _ _ => rfl)) (pe_ix ix_tup (pv 1) (pv 2) (fun _ _ => rfl))) pa_nil))))))
            (fun _ _ _ _ _ => pv 2)) (pe_lst pa_nil) (nomark _)))))) pss_nil)
      (pss_cons (ps_if (PW.pt (pw_or (pt_cmpR op_isN (pv 1) pe_non (nomark _)) (pw_or1 (pt_val (pe_callB call_isi (by rfl) B.isi (by decide +kernel) (pa_cons (pv 1) (pa_cons (pe_bltn (v := .ty "str") (by rfl) B.str (by decide +kernel) rfl) pa_nil)))))))
        (pss_one (ps_ret (pe_and (pe_cmpR op_eq (pv 0) (pv 1) (nomark _)) (pe_one (pe_cmpR op_eq (pe_callB call_isi (by rfl) B.isi (by decide +kernel) (pa_cons (pv 0) (pa_cons (pe_bltn (v := .ty "str") (by rfl) B.str (by decide +kernel) rfl) pa_nil))) (pe_callB call_isi (by rfl) B.isi (by decide +kernel) (pa_cons (pv 1) (pa_cons (pe_bltn (v := .ty "str") (by rfl) B.str (by decide +kernel) rfl) pa_nil))) (nomark _)))))) pss_nil)
      (pss_one (ps_ret (pe_and (pe_callB call_isi (by rfl) B.isi (by decide +kernel) (pa_cons (pv 0) (pa_cons (pe_bltn (v := .ty "int") (by rfl) B.int (by decide +kernel) rfl) pa_nil)))
        (pe_and (pe_cmpR op_eq (pe_callB call_isi (by rfl) B.isi (by decide +kernel) (pa_cons (pv 0) (pa_cons (pe_bltn (v := .ty "bool") (by rfl) B.bool (by decide +kernel) rfl) pa_nil))) (pe_callB call_isi (by rfl) B.isi (by decide +kernel) (pa_cons (pv 1) (pa_cons (pe_bltn (v := .ty "bool") (by rfl) B.bool (by decide +kernel) rfl) pa_nil))) (nomark _))
        (pe_one (pe_cmpR op_eq (pv 0) (pv 1) (nomark _))))))))), ?_⟩
    rcases alike_split hn hx with ⟨hl, e⟩ | ⟨m, a, b, xs, ys, e, rfl, rfl, h1, h2, h3⟩
    · subst e
      obtain ⟨t, bn, bs, bi, bb, T, imp⟩ := leaf_ty (K := K) hl
      refine ⟨_, rfl, x, _, .type t, .type "dict", false, rfl, .ty _, T.ty _, T.kd, _, rfl, iteF ?_⟩
      refine ⟨_, rfl, by decide, fun tp htp => ?_⟩
      have s1 : Same H (upd H tp (.tup [.ty "tuple", .ty "list"])) := same_upd htp
      refine ⟨x, tp, _, .type t, [.type "tuple", .type "list"], false, rfl, upd_same, .cons (.ty _) (.cons (.ty _) .nil), T.ty _, T.ka, _, rfl, iteF ?_⟩
      have str_end : ∀ H1, Same H H1 → Q (.bl (decide (V.bl bs = V.bl bs))) H1 := fun H1 s1 => by
        rw [decide_eq_true rfl]
        exact kk _ s1
      refine ⟨_, rfl, rfl, _, rfl, ?_⟩
      rw [T.non]
      cases hbn : bn with
      | true =>
        refine iteT (iteT ?_)
        exact ⟨_, rfl, _, rfl, T.sc, true, by rw [decide_eq_true rfl], iteT ⟨_, rfl, x, _, .type t, .type "str", bs, rfl, .ty _, T.ty _, T.str, _, rfl, x, _, .type t, .type "str", bs, rfl, .ty _, T.ty _, T.str, rfl, str_end _ s1⟩⟩
      | false =>
        refine iteF ⟨_, rfl, x, _, .type t, .type "str", bs, rfl, .ty _, T.ty _, T.str, _, rfl, ?_⟩
        cases hbs : bs with
        | true =>
          rw [hbs] at str_end
          have Ts := T.str
          rw [hbs] at Ts
          refine iteT ?_
          exact ⟨_, rfl, _, rfl, T.sc, true, by rw [decide_eq_true rfl], iteT ⟨_, rfl, x, _, .type t, .type "str", true, rfl, .ty _, T.ty _, Ts, _, rfl, x, _, .type t, .type "str", true, rfl, .ty _, T.ty _, Ts, rfl, str_end _ s1⟩⟩
        | false =>
          have ebi := imp (by rw [hbn, hbs]; rfl)
          have Ti := T.int
          rw [ebi] at Ti
          refine iteF ⟨_, rfl, x, _, .type t, .type "int", true, rfl, .ty _, T.ty _, Ti, true, rfl, iteT ⟨_, rfl, x, _, .type t, .type "bool", bb, rfl, .ty _, T.ty _, T.bool, _, rfl, x, _, .type t, .type "bool", bb, rfl, .ty _, T.ty _, T.bool, rfl,
            true, by rw [decide_eq_true rfl], iteT ⟨_, rfl, _, rfl, T.sc, ?_⟩⟩⟩
          rw [decide_eq_true rfl]
          exact kk _ s1
    · subst e
      have ll := pair_len h3
      obtain ⟨tn, tyA, tyB, kd, ka, bl, kl⟩ : ∃ tn : String, (∀ H', Same H H' → TyX K H' (.ref a) (.type tn)) ∧ (∀ H', Same H H' → TyX K H' (.ref b) (.type tn)) ∧ kitB tn "dict" = some false ∧ PySem.W.kitAny K (.type tn) [.type "tuple", .type "list"] = some true ∧ ∃ bl, kitB tn "list" = some bl := by
        rcases h1 with ⟨e1, e2⟩ | ⟨e1, e2⟩
        · exact ⟨"list", fun H' s' => .base (.lst (s' _ _ e1)), fun H' s' => .base (.lst (s' _ _ e2)), by decide +kernel, kL, true, by decide +kernel⟩
        · exact ⟨"tuple", fun H' s' => .base (.tup (s' _ _ e1)), fun H' s' => .base (.tup (s' _ _ e2)), by decide +kernel, kT, false, by decide +kernel⟩
      have seqs : ∀ H', Same H H' → (SqL K H' a xs ∨ SqT K H' a xs) ∧ (SqL K H' b ys ∨ SqT K H' b ys) := fun H' s' => by
        rcases h1 with ⟨e1, e2⟩ | ⟨e1, e2⟩
        · exact ⟨.inl (SqL.of (s' _ _ e1)), .inl (SqL.of (s' _ _ e2))⟩
        · exact ⟨.inr (SqT.of (s' _ _ e1)), .inr (SqT.of (s' _ _ e2))⟩
      refine ⟨_, rfl, .ref b, _, .type tn, .type "dict", false, rfl, .ty _, tyB _ (Same.refl _), kd, _, rfl, iteF ?_⟩
      refine ⟨_, rfl, by decide, fun tp htp => ?_⟩
      have s1 : Same H (upd H tp (.tup [.ty "tuple", .ty "list"])) := same_upd htp
      refine ⟨.ref b, tp, _, .type tn, [.type "tuple", .type "list"], true, rfl, upd_same, .cons (.ty _) (.cons (.ty _) .nil), tyB _ s1, ka, _, rfl, iteT ?_⟩
      refine ⟨_, rfl, by decide, fun tq htq => ?_⟩
      have s2 := s1.trans (same_upd (o := .tup [.ty "tuple", .ty "list"]) htq)
      refine ⟨.ref a, tq, _, .type tn, [.type "tuple", .type "list"], true, rfl, upd_same, .cons (.ty _) (.cons (.ty _) .nil), tyA _ s2, ka, _, rfl, iteF ?_⟩
      refine ⟨_, rfl, .ref a, _, .type tn, .type "list", bl, rfl, .ty _, tyA _ s2, kl, _, rfl, .ref b, _, .type tn, .type "list", bl, rfl, .ty _, tyB _ s2, kl, rfl, false, by rw [decide_eq_true rfl]; rfl, iteF ?_⟩
      generalize upd (upd H tp (.tup [.ty "tuple", .ty "list"])) tq (.tup [.ty "tuple", .ty "list"]) = H2 at s2
      refine ⟨_, rfl, a, xs, rfl, (seqs _ s2).1, _, rfl, b, ys, rfl, (seqs _ s2).2, rfl, false, ?_, iteF ?_⟩
      · have e : (xs.length : Int) = (ys.length : Int) := by rw [ll]
        rw [e, decide_eq_true rfl]
        rfl
      · have hlen : (ys.length : Int).toNat = ys.length := by simp
        have l1000 : ys.length ≤ 1000 := by omega
        refine ⟨_, rfl, b, ys, rfl, (seqs _ s2).2, (ys.length : Nat), rfl, by omega, by omega, fun D hD => ?_⟩
        refine lc_gather walk_range (fun _ => none) hD (by rw [hlen]; exact Nat.le_trans l1000 (by decide)) (fun _ _ => trivial) (fun i v H3 H4 hi s3 yv R k1 => ?_) fun H3 s3 e3 => ?_
        · obtain ⟨rfl, rfl⟩ := yv
          rw [hlen] at hi
          obtain ⟨x', hx'⟩ : ∃ x', xs[i]? = some x' := ⟨_, List.getElem?_eq_getElem (by omega)⟩
          obtain ⟨y', hy', st⟩ := pair_get h3 hx'
          have s23 := s2.trans s3
          have zi : (0 : Int) + (i : Nat) = (i : Nat) := by omega
          have at_ : ∀ {p : Addr} {zs : List V} {z : V} {sl : Nat} {σ : L2.St} {H5 : Hp} {Q' : VK}, σ[sl]? = some (some (.ref p)) → σ[2]? = some (some (.int ((0 : Int) + (i : Nat)))) → (SqL K H5 p zs ∨ SqT K H5 p zs) → zs[i]? = some z → Q' z H5 →
              tOp (rIxL K) (tVar sl) (tVar 2) σ H5 Q' ∨ tOp (rIxT K) (tVar sl) (tVar 2) σ H5 Q' := fun e1 e2 hs hz q => by
            rcases hs with hs | hs
            · exact .inl ⟨_, e1, _, e2, _, _, _, _, rfl, rfl, hs, by rw [zi]; exact atI_nat hz, q⟩
            · exact .inr ⟨_, e1, _, e2, _, _, _, _, rfl, rfl, hs, by rw [zi]; exact atI_nat hz, q⟩
          refine ⟨rfl, at_ rfl rfl (seqs _ s23).1 hx' (at_ rfl rfl (seqs _ s23).2 hy' ?_)⟩
          exact ⟨x', y', rfl, st.same s23, fun H5 s5 => ⟨_, rfl, iteF (k1 _ s5)⟩⟩
        · have g0 : gather (fun _ => none) ((ys.length : Int).toNat) = [] := by
            unfold gather
            simp
          rw [g0] at e3
          refine ⟨by decide, fun L hL => ?_⟩
          have s4 : Same H3 (upd H3 L (.lst [])) := same_upd hL
          exact ⟨.list [], .list [], .lst (SqL.of (s4 _ _ e3)) .nil, .lst (SqL.of upd_same) .nil, rfl, rfl, kk _ ((s2.trans s3).trans s4)⟩
theorem ok_alike {f : Addr} {fd : FuncData} (F : Fun K "_law_alike" "_law_alike" sLawAlike f fd) (B : Blt mg) (mF : mg "_law_alike" = some (.ref f)) (bF : Binds K fd ["_law_found", nDue] []) : ∀ n, FnOk P w K mg base CX0 (n + 1) f fd ["_law_found", nDue] (spAlike n)
  | 0 => alike_step F B mF bF ok_no (.inl rfl)
  | n + 1 => alike_step F B mF bF (ok_alike F B mF bF n) (.inr ⟨n, rfl, rfl⟩)
end
end Sh4
set_option Elab.async false
set_option linter.all false
set_option maxRecDepth 100000
set_option maxHeartbeats 4000000
/-! list.count of flat values; isinstance of a caught error of an own class, with or without fields. -/
namespace Sho
open PySem PySem.Spec PyProof.Rows L2
section
variable {X : Cx}
theorem count_flat {y : V} : ∀ {us : List Value} {ys : List V}, Vals ys us → ys.all flatV = true → us.countP (eqU y) = ys.countP fun z => eqV z y
  | _, _, .nil, _ => rfl
  | u :: us, z :: ys, .cons r t, f => by
    rw [List.all_cons, Bool.and_eq_true] at f
    rw [List.countP_cons, List.countP_cons, count_flat t f.2, eqU_of r f.1]
def rCntF (K : PySem.W.Frag) : V → List V → Hp → VK → Prop := fun x xs H Q => ∃ (p : Addr) (ys : List V) (y : V), x = .ref p ∧ xs = [y] ∧ SqL K H p ys ∧ flatV y = true ∧ ys.all flatV = true ∧ Q (.int (ys.countP (fun z => eqV z y) : Nat)) H
theorem mt_countF : MtR X "list.count" (rCntF X.K) := by
  intro pins s σ H x xs v us Q I rx rxs h
  obtain ⟨p, ys, y, rfl, rfl, hs, fy, fys, q⟩ := h
  cases rx
  obtain ⟨u, rfl, ru⟩ := rxs.one
  obtain ⟨its, rv, ⟨⟨cls, dd, data, sl⟩, n, ho, hc, hdn, hd⟩, hlen⟩ := I.list hs
  simp only at hc hd
  subst hc hd
  refine call_meets PySem.F.slot_list_count ⟨_, ho, rfl⟩ PySem.F.entry_list_count (PySem.F.args_list_count_2 _ _)
    (SeqAt.list_countAt p its.toArray n dd sl u (eqU y)) ⟨ho, fun z hz => mem_eqAt ru fy rv fys z (by simpa using hz), ?_⟩
  have ec : its.toArray.toList.countP (eqU y) = ys.countP fun z => eqV z y := count_flat rv fys
  refine ⟨.int (ys.countP (fun z => eqV z y) : Nat), H, I.tok _, ⟨s.toks, ?_⟩, q⟩
  show Value.int ((its.toArray.toList.countP (eqU y) : Nat) : Int) s.toks = Value.int ((ys.countP (fun z => eqV z y) : Nat) : Int) s.toks
  rw [ec]
/-- isinstance(e, c), e the exception that the suite holds: its class and its dict are told when it is read -/
def rIsX (K : PySem.W.Frag) (cls : Value) (d : Option Addr) (a : Addr) : List V → Hp → VK → Prop := fun xs H Q => ∃ (D : Addr) (c : V) (cv : Value) (b : Bool), cls = .ref D ∧ ExcC K D ∧ (∀ dd, d = some dd → ∃ fs, H dd = some (.xd fs)) ∧
  xs = [.ref a, c] ∧ (∀ u, RelV c u → u = cv) ∧ PySem.W.kitOne K (.ref D) cv = some b ∧ Q (.bl b) H
theorem call_isX {a : Addr} {oe : Obj} {cls : Value} {d : Option Addr} {pn : List (Addr × Obj)} (hz : Zc cls d oe) (hf : ∃ vs, oe.data = .fields vs) : CallR (X.suite a ((a, oe) :: pn)) (.builtin "isinstance") (rIsX X.K cls d a) := by
  intro pins s σ H xs us Q I r h
  obtain ⟨D, c, cv, b, hc, C, hd, rfl, hcv, e, q⟩ := h
  subst hc
  cases r with
  | cons rx rr =>
    cases rr with
    | cons rt rr =>
      cases rr
      cases rx
      have ec := hcv _ rt
      subst ec
      obtain ⟨hget, _⟩ := I.pin (a, oe) (List.mem_append.mpr (.inl List.mem_cons_self))
      obtain ⟨vs, hv⟩ := hf
      obtain ⟨od, J⟩ : ∃ od, PySem.W.InstAt s.heap a oe D od := by
        obtain ⟨oc, od, oda, osl⟩ := oe
        obtain ⟨h1, h2⟩ := hz
        dsimp only at h1 h2 hv
        subst h1 h2 hv
        cases od with
        | none => exact ⟨none, hget, rfl, rfl, trivial⟩
        | some dd =>
          obtain ⟨fs, hfs⟩ := hd dd rfl
          obtain ⟨mA, n, _⟩ : ObjOk (X.suite a _).prog (X.suite a _).w H s.heap dd (.xd fs) := I.hok dd _ hfs
          obtain ⟨o, es, ep, ho, _⟩ := n
          exact ⟨some o, hget, rfl, rfl, ho⟩
      have cl : (PySem.W.clsIn X.K D).isSome = true := by
        obtain ⟨cd, hc, _⟩ := PySem.W.any_some C.hd
        rw [hc]
        rfl
      exact PySem.W.kia_one (PySem.W.kitx_exc cl C.hg C.hk C.hs C.ha C.hn C.ht C.hm) I.kIn J e (fun z => nomatch z) fun tk => ⟨.bl b, H, I.kept (t' := tk) fun _ _ z => z, rfl, q⟩
/-! ### the same rules within an except suite: their readings speak of the outer context -/
variable {a : Addr} {l : List (Addr × Obj)}
theorem ixs_list : IxR (X.suite a l) (rIxL X.K) := ix_list
theorem mts_index : MtR (X.suite a l) "list.index" (rIndex X.K) := mt_index
theorem mts_countF : MtR (X.suite a l) "list.count" (rCntF X.K) := mt_countF
theorem ops_in_seq : OpR (X.suite a l) (compareOp .In) (rIn X.K false) := op_in_seq
theorem pes_bm {o e : Expr} {es : List Expr} {to : TE} {t : TA} {name : Str} {apos cpos : Pos} {T id : String} {r : V → List V → Hp → VK → Prop} (pa : PlainAttrs T) (slot : Slot T name id) (hty : typeOf (.builtin id) = pure (.type "method_descriptor")) (hm : MtR (X.suite a l) id r) (ho : PE (X.suite a l) o to) (ha : PA (X.suite a l) (e :: es) t)
    (hbase : attributeBase o name X.env (eval o X.env) = eval o X.env := by rfl)
    (hfew : ((backTo cpos (starEach (e :: es) X.env)).all (fun x => !x.1) && (backToKw cpos (keywordEach [] X.env)).all (fun x => x.1.isSome)
      && decide ((e :: es).length + ([] : List Keyword).length + (if ([] : List Keyword).isEmpty then 0 else 1) < 30)) = true := by rfl)
    (hline : (apos.endLine == cpos.line) = true := by rfl) (hs : starEach (e :: es) X.env = (false, eval e X.env) :: starEach es X.env := by rfl) (hplain : (backTo cpos (starEach es X.env)).any (·.1) = false := by rfl) :
    PE (X.suite a l) (.Call (.Attribute o name apos) (e :: es) [] cpos) (tBM X.K T r to t) := pe_bm pa slot hty hm ho ha hbase hfew hline hs hplain
end
end Sho
set_option Elab.async false
set_option linter.all false
set_option maxRecDepth 100000
set_option maxHeartbeats 4000000
/-! _law_outcome: what a call gives, or the word of its error. -/
namespace Sh4
open PySem L2 Sho NdefX Shg Sh1
/-- the errors' names, words and fields, in the order of the tests -/
def eNm : Fin 10 → Str := fun j => (["DaybookError", "DecodeError", "InvalidName", "InvalidNumber", "InvalidOperation", "InvalidStay", "InvalidText", "TooEarly", "TooWide", "UnknownGuest"] : List Str).getD j.1 "UnknownGuest"
def eWd : Fin 10 → Str := fun j => (["daybook", "code", "name", "number", "operation", "stay", "text", "early", "wide", "guest"] : List Str).getD j.1 "guest"
def eFl : Fin 10 → Option Str := fun j => ([some "row", some "offset", none, none, some "index", some "index", some "row", none, none, some "name"] : List (Option Str)).getD j.1 none
/-- what the written part says of the errors: C j the class -/
structure Ten (K : PySem.W.Frag) (mg : Str → Option Value) (P0 : Addr) (C : Fin 10 → Addr) : Prop where
  base : mg "PartyError" = some (.ref P0)
  g : ∀ j, mg (eNm j) = some (.ref (C j))
  up : ∀ j, PySem.W.exmOne K (.ref (C j)) (.ref P0) = some true
  is : ∀ i j, PySem.W.kitOne K (.ref (C i)) (.ref (C j)) = some (decide (i = j))
  ve : ∀ j, PySem.W.kitOne K (.ref (C j)) (.type "ValueError") = some true
  ex : ∀ j, ExcC K (C j)
  xf : ∀ j, XfC K (C j)
  no : ∀ j f, eFl j = some f → PySem.W.findIn K (.ref (C j)) f = some none
def hdBody : Stmt → List Stmt
  | .FunctionDef (body := [.Try _ [.ExceptHandler _ _ b _] _ _ _]) .. => b
  | _ => []
/-- what is wanted of the error j -/
def Out10 (C : Fin 10 → Addr) (Q : VK) : XK := fun cls d H1 => ∃ j : Fin 10, cls = .ref (C j) ∧
  ((eFl j = none ∧ d = none ∧ ∀ p H2, Same H1 H2 → H2 p = some (.tup [.str (eWd j)]) → Q (.ref p) H2) ∨
   ∃ (f : Str) (dd : Addr) (v : V), eFl j = some f ∧ d = some dd ∧ H1 dd = some (.xd [(f, v)]) ∧ ∀ p H2, Same H1 H2 → H2 p = some (.tup [.str (eWd j), v]) → Q (.ref p) H2)
/-- the value behind its word -/
def OutV (Q : VK) : VK := fun v H1 => ∀ p H2, Same H1 H2 → H2 p = some (.tup [.str "value", v]) → Q (.ref p) H2
abbrev kinds10 (j : Fin 10) : List V := [.bl (decide (j = 0)), .bl (decide (j = 1)), .bl (decide (j = 2)), .bl (decide (j = 3)), .bl (decide (j = 4)), .bl (decide (j = 5)), .bl (decide (j = 6)), .bl (decide (j = 7)), .bl (decide (j = 8)), .bl (decide (j = 9))]
abbrev words10 : List V := [.str "daybook", .str "code", .str "name", .str "number", .str "operation", .str "stay", .str "text", .str "early", .str "wide", .str "guest"]
theorem kinds_one : ∀ j : Fin 10, (kinds10 j).countP (fun z => eqV z (.bl true)) = 1 := by decide
theorem kinds_at : ∀ j : Fin 10, (kinds10 j)[j.1]? = some (V.bl true) := fun j => match j with
  | 0 => rfl | 1 => rfl | 2 => rfl | 3 => rfl | 4 => rfl | 5 => rfl | 6 => rfl | 7 => rfl | 8 => rfl | 9 => rfl
theorem kinds_no : ∀ j : Fin 10, ∀ m, m < j.1 → ((kinds10 j)[m]?).all (fun z => !eqV z (.bl true)) = true := by decide
theorem words_at : ∀ j : Fin 10, words10[j.1]? = some (V.str (eWd j)) := fun j => match j with
  | 0 => rfl | 1 => rfl | 2 => rfl | 3 => rfl | 4 => rfl | 5 => rfl | 6 => rfl | 7 => rfl | 8 => rfl | 9 => rfl
theorem ten_cases : ∀ j : Fin 10, j = 0 ∨ j = 1 ∨ j = 2 ∨ j = 3 ∨ j = 4 ∨ j = 5 ∨ j = 6 ∨ j = 7 ∨ j = 8 ∨ j = 9 := by decide
theorem word_row : ∀ j : Fin 10, inV (.str (eWd j)) [.str "daybook", .str "text"] = (decide (j = 0) || decide (j = 6)) := by decide +kernel
theorem word_index : ∀ j : Fin 10, inV (.str (eWd j)) [.str "operation", .str "stay"] = (decide (j = 4) || decide (j = 5)) := by decide +kernel
theorem word_name : ∀ j : Fin 10, decide (V.str (eWd j) = V.str "guest") = decide (j = 9) := by decide +kernel
theorem word_code : ∀ j : Fin 10, decide (V.str (eWd j) = V.str "code") = decide (j = 1) := by decide +kernel
section
variable {P : Program} {w : World} {K : PySem.W.Frag} {mg : Str → Option Value} {base : Heap}
theorem scOut : FnScope ["_law_call", "e", "_law_kinds", "_law_words", "_law_word"] ["_law_call"] (defScope sOut) := ⟨rfl, rfl, rfl, by decide +kernel, rfl, by decide +kernel, by decide +kernel⟩
theorem outcome_run {g P0 : Addr} {C : Fin 10 → Addr} {fd : FuncData} (F : Fun K "_law_outcome" "_law_outcome" sOut g fd) (bF : Binds K fd ["_law_call"] []) (B : Blt mg) (EE : Ten K mg P0 C)
    {cl : List (Str × Addr)} {fr : List Str} {ws : List (Option V)} {sp : SpL} {k : Nat} {A : Around} {outer : List Env} {s : Shared} {H : Hp} {f : Addr} {Q : VK} {E : XK} (hr : Room (k + 1) A) (e0 : Env0 P w K mg base A outer s H)
    (Cs : CellsAt cl fr ws s.heap H) (hact : Act P w K mg base (L2.CX P w) k cl fr sp f H) (q : ∀ (R : VK) (E' : XK), (∀ v H1, OutV Q v H1 → R v H1) → (∀ cls d H1, Out10 C Q cls d H1 → E' cls d H1) → sp ws H R E') :
    codeAny (model P w) A (.call (.ref g) ⟨[.ref f], []⟩) (CR (L2.CX P w) outer P w H s Q E) s := by
  obtain ⟨oc, od, kV, doc, pm, an, cdv, ct, osl, rfl, lk, hcd⟩ := F.ex
  have KX : K.In s.heap := e0.mod.kin.keeps fun b o e => (e0.bs b o e).1
  refine LamX.run_ofS (N := ["_law_call", "e", "_law_kinds", "_law_words", "_law_word"]) (ps := ["_law_call"]) (us := [.ref f]) (vs := [.ref f]) lk hcd scOut hr e0 (bF s [.ref f] KX rfl) (.cons rfl .nil) rfl fun hr' => ?_
  have nd := scOut.nd
  refine' ⟨_, pss_one (ps_try (Wout := fun cls d _ H' => E cls d H') (tb := fun W => tRet (tTup (tCons (tC (.str "value")) (tCons (tAct P w K mg base (L2.CX P w) k 0 cl fr ws fun σ => WE W σ) tNil)))) rfl rfl nd (takes_of rfl rfl rfl rfl)
      (fun W pn xe tk po => pss_one (ps_ret (pe_tup (pa_cons pe_str (pa_cons (pe_act (i := 0) (CX := L2.CX P w) (k := k) (E := fun σ => WE W σ) hr' Cs (fun _ _ _ => List.not_mem_nil) (fun σ => passAt tk σ) rfl (.inl rfl)) pa_nil))))) (l := [⟨.ref P0, some 1, _⟩])
    (.cons ⟨rfl, by decide, .inl EE.base⟩ ⟨rfl, rfl⟩ (fun a oe cls d pn hz hf => ?su) .nil)), ?rd⟩
  case su =>
    have key : PSs ((cxOf (L2.CX P w) P w K mg base ["_law_call", "e", "_law_kinds", "_law_words", "_law_word"] "_law_outcome" (defScope sOut) g cdv A outer s H E).suite a ((a, oe) :: pn)) (hdBody sOut) _ := pss_cons (ps_set (i := 2) nd rfl (Or.inl rfl) (pe_lst (pa_cons (pe_callB (call_isX hz hf) (by rfl) B.isi (by decide +kernel) (pa_cons (pv 1) (pa_cons (pe_glob (v := .ref (C 0)) (by rfl) (by exact EE.g 0) (by rfl)) pa_nil)))
        (pa_cons (pe_callB (call_isX hz hf) (by rfl) B.isi (by decide +kernel) (pa_cons (pv 1) (pa_cons (pe_glob (v := .ref (C 1)) (by rfl) (by exact EE.g 1) (by rfl)) pa_nil)))
        (pa_cons (pe_callB (call_isX hz hf) (by rfl) B.isi (by decide +kernel) (pa_cons (pv 1) (pa_cons (pe_glob (v := .ref (C 2)) (by rfl) (by exact EE.g 2) (by rfl)) pa_nil))) pa_nil)))))
      (pss_cons (ps_expr (pes_bm PySem.F.plainAttrs_list PySem.F.slot_list_extend PySem.F.type_list_extend mt_extend (pv 2) (pa_cons (pe_lst (pa_cons (pe_callB (call_isX hz hf) (by rfl) B.isi (by decide +kernel) (pa_cons (pv 1) (pa_cons (pe_glob (v := .ref (C 3)) (by rfl) (by exact EE.g 3) (by rfl)) pa_nil)))
        (pa_cons (pe_callB (call_isX hz hf) (by rfl) B.isi (by decide +kernel) (pa_cons (pv 1) (pa_cons (pe_glob (v := .ref (C 4)) (by rfl) (by exact EE.g 4) (by rfl)) pa_nil)))
        (pa_cons (pe_callB (call_isX hz hf) (by rfl) B.isi (by decide +kernel) (pa_cons (pv 1) (pa_cons (pe_glob (v := .ref (C 5)) (by rfl) (by exact EE.g 5) (by rfl)) pa_nil))) pa_nil)))) pa_nil)))
      (pss_cons (ps_expr (pes_bm PySem.F.plainAttrs_list PySem.F.slot_list_extend PySem.F.type_list_extend mt_extend (pv 2) (pa_cons (pe_lst (pa_cons (pe_callB (call_isX hz hf) (by rfl) B.isi (by decide +kernel) (pa_cons (pv 1) (pa_cons (pe_glob (v := .ref (C 6)) (by rfl) (by exact EE.g 6) (by rfl)) pa_nil)))
        (pa_cons (pe_callB (call_isX hz hf) (by rfl) B.isi (by decide +kernel) (pa_cons (pv 1) (pa_cons (pe_glob (v := .ref (C 7)) (by rfl) (by exact EE.g 7) (by rfl)) pa_nil)))
        (pa_cons (pe_callB (call_isX hz hf) (by rfl) B.isi (by decide +kernel) (pa_cons (pv 1) (pa_cons (pe_glob (v := .ref (C 8)) (by rfl) (by exact EE.g 8) (by rfl)) pa_nil))) pa_nil)))) pa_nil)))
      (pss_cons (ps_expr (pes_bm PySem.F.plainAttrs_list PySem.F.slot_list_append PySem.F.type_list_append mt_append (pv 2) (pa_cons (pe_callB (call_isX hz hf) (by rfl) B.isi (by decide +kernel) (pa_cons (pv 1) (pa_cons (pe_glob (v := .ref (C 9)) (by rfl) (by exact EE.g 9) (by rfl)) pa_nil))) pa_nil)))
      (pss_cons (ps_if (PW.pt (pw_or (pt_cmpR op_ne (pes_bm PySem.F.plainAttrs_list PySem.F.slot_list_count PySem.F.type_list_count mts_countF (pv 2) (pa_cons pe_bl pa_nil)) pe_int (nomark _))
          (pw_or1 (pt_not (pt_val (pe_callB (call_isX hz hf) (by rfl) B.isi (by decide +kernel) (pa_cons (pv 1) (pa_cons (pe_bltn (v := .ty "ValueError") (by rfl) B.ve (by decide +kernel) rfl) pa_nil)))))))) (pss_one ps_never) pss_nil)
      (pss_cons (ps_set (i := 3) nd rfl (Or.inl rfl) (pe_lst (pa_cons pe_str (pa_cons pe_str (pa_cons pe_str (pa_cons pe_str (pa_cons pe_str (pa_cons pe_str (pa_cons pe_str (pa_cons pe_str (pa_cons pe_str (pa_cons pe_str pa_nil))))))))))))
      (pss_cons (ps_set (i := 4) nd rfl (Or.inl rfl) (pe_ix ixs_list (pv 3) (pes_bm PySem.F.plainAttrs_list PySem.F.slot_list_index PySem.F.type_list_index mts_index (pv 2) (pa_cons pe_bl pa_nil)) (fun _ _ => rfl)))
      (pss_cons (ps_if (pt_cmpR ops_in_seq (pv 4) (pe_tup (pa_cons pe_str (pa_cons pe_str pa_nil))) rfl) (pss_one (ps_ret (pe_tup (pa_cons (pv 4) (pa_cons (pe_either (pe_xf (EE.xf 0) (EE.no 0 "row" rfl) hz hf (pv 1)) (pe_xf (EE.xf 6) (EE.no 6 "row" rfl) hz hf (pv 1))) pa_nil))))) pss_nil)
      (pss_cons (ps_if (pt_cmpR ops_in_seq (pv 4) (pe_tup (pa_cons pe_str (pa_cons pe_str pa_nil))) rfl) (pss_one (ps_ret (pe_tup (pa_cons (pv 4) (pa_cons (pe_either (pe_xf (EE.xf 4) (EE.no 4 "index" rfl) hz hf (pv 1)) (pe_xf (EE.xf 5) (EE.no 5 "index" rfl) hz hf (pv 1))) pa_nil))))) pss_nil)
      (pss_cons (ps_if (pt_cmpR op_eq (pv 4) pe_str (nomark _)) (pss_one (ps_ret (pe_tup (pa_cons (pv 4) (pa_cons (pe_xf (EE.xf 9) (EE.no 9 "name" rfl) hz hf (pv 1)) pa_nil))))) pss_nil)
      (pss_one (ps_ret (pe_ifExp (pt_cmpR op_eq (pv 4) pe_str (nomark _)) (pe_tup (pa_cons (pv 4) (pa_cons (pe_xf (EE.xf 1) (EE.no 1 "offset" rfl) hz hf (pv 1)) pa_nil))) (pe_tup (pa_cons (pv 4) pa_nil))))))))))))))
    exact key
  case rd =>
  refine ⟨f, sp, rfl, hact, q _ _ (fun v H1 o => ?_) fun cls d H1 o => ?_⟩
  · exact ⟨by show 2 ≤ sizeLine; decide, fun p hp => o p _ (same_upd hp) upd_same⟩
  · obtain ⟨j, rfl, o⟩ := o
    refine ⟨true, EE.up j, fun _ a ha => ?_, fun z => nomatch z⟩
    have hd1 : ∀ H', Same H1 H' → ∀ dd, d = some dd → ∃ fs, H' dd = some (.xd fs) := fun H' s' dd e => by
      rcases o with ⟨_, e2, _⟩ | ⟨f, dd', v, _, e2, e3, _⟩
      · rw [e2] at e
        cases e
      · rw [e2] at e
        cases e
        exact ⟨_, s' _ _ e3⟩
    have r0 := Same.refl H1
    refine ⟨_, rfl, C j, .ref (C 0), _, _, rfl, EE.ex j, hd1 _ r0, rfl, fun u r => r, EE.is j 0, _, rfl, C j, .ref (C 1), _, _, rfl, EE.ex j, hd1 _ r0, rfl, fun u r => r, EE.is j 1, _, rfl, C j, .ref (C 2), _, _, rfl, EE.ex j, hd1 _ r0, rfl, fun u r => r, EE.is j 2, by show 3 ≤ sizeLine; decide, fun L hL => ?_⟩
    have sL : ∀ {H' : Hp} {u : HO}, Same H1 H' → Same H1 (upd H' L u) := fun s' b u e => by
      rw [upd_ne (ne_of_none e hL)]
      exact s' b u e
    have s1 : Same H1 (upd H1 L (.lst [.bl (decide (j = 0)), .bl (decide (j = 1)), .bl (decide (j = 2))])) := sL r0
    have l1 : (upd H1 L (.lst [.bl (decide (j = 0)), .bl (decide (j = 1)), .bl (decide (j = 2))])) L = some (.lst [.bl (decide (j = 0)), .bl (decide (j = 1)), .bl (decide (j = 2))]) := upd_same
    generalize upd H1 L (.lst [.bl (decide (j = 0)), .bl (decide (j = 1)), .bl (decide (j = 2))]) = H2 at s1 l1
    show _
    refine ⟨_, rfl, .inl ⟨rfl, _, SqL.of l1⟩, _, rfl, C j, .ref (C 3), _, _, rfl, EE.ex j, hd1 _ s1, rfl, fun u r => r, EE.is j 3, _, rfl, C j, .ref (C 4), _, _, rfl, EE.ex j, hd1 _ s1, rfl, fun u r => r, EE.is j 4, _, rfl, C j, .ref (C 5), _, _, rfl, EE.ex j, hd1 _ s1, rfl, fun u r => r, EE.is j 5, by show 3 ≤ sizeLine; decide, fun M hM => ?_⟩
    have s2 : Same H1 (upd H2 M (.lst [.bl (decide (j = 3)), .bl (decide (j = 4)), .bl (decide (j = 5))])) := s1.trans (same_upd hM)
    have l2 : (upd H2 M (.lst [.bl (decide (j = 3)), .bl (decide (j = 4)), .bl (decide (j = 5))])) L = some (.lst [.bl (decide (j = 0)), .bl (decide (j = 1)), .bl (decide (j = 2))]) := same_upd hM _ _ l1
    have m2 : (upd H2 M (.lst [.bl (decide (j = 3)), .bl (decide (j = 4)), .bl (decide (j = 5))])) M = some (.lst [.bl (decide (j = 3)), .bl (decide (j = 4)), .bl (decide (j = 5))]) := upd_same
    generalize upd H2 M (.lst [.bl (decide (j = 3)), .bl (decide (j = 4)), .bl (decide (j = 5))]) = H3 at s2 l2 m2
    refine ⟨L, M, _, _, rfl, rfl, l2, m2, by show 6 ≤ sizeLine; decide, ?_⟩
    have s3 : Same H1 (upd H3 L (.lst ([.bl (decide (j = 0)), .bl (decide (j = 1)), .bl (decide (j = 2))] ++ [.bl (decide (j = 3)), .bl (decide (j = 4)), .bl (decide (j = 5))]))) := sL s2
    have l3 : (upd H3 L (.lst ([.bl (decide (j = 0)), .bl (decide (j = 1)), .bl (decide (j = 2))] ++ [.bl (decide (j = 3)), .bl (decide (j = 4)), .bl (decide (j = 5))]))) L = some (.lst [.bl (decide (j = 0)), .bl (decide (j = 1)), .bl (decide (j = 2)), .bl (decide (j = 3)), .bl (decide (j = 4)), .bl (decide (j = 5))]) := upd_same
    generalize upd H3 L (.lst ([.bl (decide (j = 0)), .bl (decide (j = 1)), .bl (decide (j = 2))] ++ [.bl (decide (j = 3)), .bl (decide (j = 4)), .bl (decide (j = 5))])) = H4 at s3 l3
    refine ⟨_, rfl, .inl ⟨rfl, _, SqL.of l3⟩, _, rfl, C j, .ref (C 6), _, _, rfl, EE.ex j, hd1 _ s3, rfl, fun u r => r, EE.is j 6, _, rfl, C j, .ref (C 7), _, _, rfl, EE.ex j, hd1 _ s3, rfl, fun u r => r, EE.is j 7, _, rfl, C j, .ref (C 8), _, _, rfl, EE.ex j, hd1 _ s3, rfl, fun u r => r, EE.is j 8, by show 3 ≤ sizeLine; decide, fun N hN => ?_⟩
    have s4 : Same H1 (upd H4 N (.lst [.bl (decide (j = 6)), .bl (decide (j = 7)), .bl (decide (j = 8))])) := s3.trans (same_upd hN)
    have l4 : (upd H4 N (.lst [.bl (decide (j = 6)), .bl (decide (j = 7)), .bl (decide (j = 8))])) L = some (.lst [.bl (decide (j = 0)), .bl (decide (j = 1)), .bl (decide (j = 2)), .bl (decide (j = 3)), .bl (decide (j = 4)), .bl (decide (j = 5))]) := same_upd hN _ _ l3
    have m4 : (upd H4 N (.lst [.bl (decide (j = 6)), .bl (decide (j = 7)), .bl (decide (j = 8))])) N = some (.lst [.bl (decide (j = 6)), .bl (decide (j = 7)), .bl (decide (j = 8))]) := upd_same
    generalize upd H4 N (.lst [.bl (decide (j = 6)), .bl (decide (j = 7)), .bl (decide (j = 8))]) = H5 at s4 l4 m4
    refine ⟨L, N, _, _, rfl, rfl, l4, m4, by show 9 ≤ sizeLine; decide, ?_⟩
    have s5 : Same H1 (upd H5 L (.lst ([.bl (decide (j = 0)), .bl (decide (j = 1)), .bl (decide (j = 2)), .bl (decide (j = 3)), .bl (decide (j = 4)), .bl (decide (j = 5))] ++ [.bl (decide (j = 6)), .bl (decide (j = 7)), .bl (decide (j = 8))]))) := sL s4
    have l5 : (upd H5 L (.lst ([.bl (decide (j = 0)), .bl (decide (j = 1)), .bl (decide (j = 2)), .bl (decide (j = 3)), .bl (decide (j = 4)), .bl (decide (j = 5))] ++ [.bl (decide (j = 6)), .bl (decide (j = 7)), .bl (decide (j = 8))]))) L = some (.lst [.bl (decide (j = 0)), .bl (decide (j = 1)), .bl (decide (j = 2)), .bl (decide (j = 3)), .bl (decide (j = 4)), .bl (decide (j = 5)), .bl (decide (j = 6)), .bl (decide (j = 7)), .bl (decide (j = 8))]) := upd_same
    generalize upd H5 L (.lst ([.bl (decide (j = 0)), .bl (decide (j = 1)), .bl (decide (j = 2)), .bl (decide (j = 3)), .bl (decide (j = 4)), .bl (decide (j = 5))] ++ [.bl (decide (j = 6)), .bl (decide (j = 7)), .bl (decide (j = 8))])) = H6 at s5 l5
    refine ⟨_, rfl, .inl ⟨rfl, _, SqL.of l5⟩, _, rfl, C j, .ref (C 9), _, _, rfl, EE.ex j, hd1 _ s5, rfl, fun u r => r, EE.is j 9, L, _, _, rfl, rfl, l5, by show 9 < sizeLine; decide, ?_⟩
    have s6 : Same H1 (upd H6 L (.lst ([.bl (decide (j = 0)), .bl (decide (j = 1)), .bl (decide (j = 2)), .bl (decide (j = 3)), .bl (decide (j = 4)), .bl (decide (j = 5)), .bl (decide (j = 6)), .bl (decide (j = 7)), .bl (decide (j = 8))] ++ [.bl (decide (j = 9))]))) := sL s5
    have l6 : (upd H6 L (.lst ([.bl (decide (j = 0)), .bl (decide (j = 1)), .bl (decide (j = 2)), .bl (decide (j = 3)), .bl (decide (j = 4)), .bl (decide (j = 5)), .bl (decide (j = 6)), .bl (decide (j = 7)), .bl (decide (j = 8))] ++ [.bl (decide (j = 9))]))) L = some (.lst (kinds10 j)) := upd_same
    generalize upd H6 L (.lst ([.bl (decide (j = 0)), .bl (decide (j = 1)), .bl (decide (j = 2)), .bl (decide (j = 3)), .bl (decide (j = 4)), .bl (decide (j = 5)), .bl (decide (j = 6)), .bl (decide (j = 7)), .bl (decide (j = 8))] ++ [.bl (decide (j = 9))])) = H7 at s6 l6
    have fl : (kinds10 j).all flatV = true := rfl
    refine ⟨_, rfl, .inl ⟨rfl, _, SqL.of l6⟩, L, _, .bl true, rfl, rfl, SqL.of l6, rfl, fl, rfl, false, ?_, iteF ?_⟩
    · rw [kinds_one j]
      rfl
    refine ⟨_, rfl, C j, .ty "ValueError", .type "ValueError", true, rfl, EE.ex j, hd1 _ s6, rfl, fun u r => r, EE.ve j, _, rfl, iteF ?_⟩
    refine ⟨by show 10 ≤ sizeLine; decide, fun W hW => ?_⟩
    have s7 : Same H1 (upd H7 W (.lst words10)) := s6.trans (same_upd hW)
    have l7 : (upd H7 W (.lst words10)) L = some (.lst (kinds10 j)) := same_upd hW _ _ l6
    have w7 : (upd H7 W (.lst words10)) W = some (.lst words10) := upd_same
    generalize upd H7 W (.lst words10) = H8 at s7 l7 w7
    refine ⟨_, rfl, _, rfl, .inl ⟨rfl, _, SqL.of l7⟩, L, _, .bl true, j.1, .bl true, rfl, rfl, SqL.of l7, rfl, fl, kinds_at j, rfl, fun m z hm hz => ?_, W, _, _, .str (eWd j), rfl, rfl, SqL.of w7, atI_nat (words_at j), ?_⟩
    · have q := kinds_no j m hm
      rw [hz] at q
      simpa using q
    -- the word's four tests
    refine ⟨_, rfl, by show 2 ≤ sizeLine; decide, fun t1 ht1 => ⟨t1, _, rfl, .inr (SqT.of upd_same), rfl, rfl, _, rfl, ?_⟩⟩
    have s8 : Same H1 (upd H8 t1 (.tup [.str "daybook", .str "text"])) := s7.trans (same_upd ht1)
    generalize upd H8 t1 (.tup [.str "daybook", .str "text"]) = H9 at s8
    have fin1 : ∀ {H' : Hp} (p : Addr), Same H1 H' → H' p = none → eFl j = none → Q (.ref p) (upd H' p (.tup [.str (eWd j)])) := fun {H'} p s' hp e => by
      rcases o with ⟨_, _, k⟩ | ⟨f, dd, v, e1, _⟩
      · exact k p _ (s'.trans (same_upd hp)) upd_same
      · rw [e] at e1
        cases e1
    have fin2 : ∀ f, eFl j = some f → ∃ (dd : Addr) (v : V), d = some dd ∧ ∀ H' : Hp, Same H1 H' → H' dd = some (.xd [(f, v)]) ∧ ∀ p, H' p = none → Q (.ref p) (upd H' p (.tup [.str (eWd j), v])) := fun f e => by
      rcases o with ⟨e1, _⟩ | ⟨f', dd, v, e1, e2, e3, k⟩
      · rw [e] at e1
        cases e1
      · rw [e] at e1
        cases e1
        exact ⟨dd, v, e2, fun H' s' => ⟨s' _ _ e3, fun p hp => k p _ (s'.trans (same_upd hp)) upd_same⟩⟩
    have lk : ∀ (f : Str) (v : V), List.lookup f [(f, v)] = some v := fun f v => by simp [List.lookup]
    refine ite2 (fun h => ?_) (fun h => ?_)
    · have hj : j = 0 ∨ j = 6 := by
        rw [word_row j] at h
        simpa using h
      rcases hj with rfl | rfl
      · obtain ⟨dd, v, e2, k⟩ := fin2 "row" rfl
        obtain ⟨k1, k2⟩ := k _ s8
        exact ⟨_, rfl, .inl ⟨_, rfl, rfl, rfl, dd, _, v, e2, k1, lk _ _, by show 2 ≤ sizeLine; decide, fun p hp => k2 p hp⟩⟩
      · obtain ⟨dd, v, e2, k⟩ := fin2 "row" rfl
        obtain ⟨k1, k2⟩ := k _ s8
        exact ⟨_, rfl, .inr ⟨_, rfl, rfl, rfl, dd, _, v, e2, k1, lk _ _, by show 2 ≤ sizeLine; decide, fun p hp => k2 p hp⟩⟩
    have n1 : j ≠ 0 ∧ j ≠ 6 := by
      rw [word_row j] at h
      simpa using h
    refine ⟨_, rfl, by show 2 ≤ sizeLine; decide, fun t2 ht2 => ⟨t2, _, rfl, .inr (SqT.of upd_same), rfl, rfl, _, rfl, ?_⟩⟩
    have s9 : Same H1 (upd H9 t2 (.tup [.str "operation", .str "stay"])) := s8.trans (same_upd ht2)
    generalize upd H9 t2 (.tup [.str "operation", .str "stay"]) = Ha at s9
    refine ite2 (fun h => ?_) (fun h => ?_)
    · have hj : j = 4 ∨ j = 5 := by
        rw [word_index j] at h
        simpa using h
      rcases hj with rfl | rfl
      · obtain ⟨dd, v, e2, k⟩ := fin2 "index" rfl
        obtain ⟨k1, k2⟩ := k _ s9
        exact ⟨_, rfl, .inl ⟨_, rfl, rfl, rfl, dd, _, v, e2, k1, lk _ _, by show 2 ≤ sizeLine; decide, fun p hp => k2 p hp⟩⟩
      · obtain ⟨dd, v, e2, k⟩ := fin2 "index" rfl
        obtain ⟨k1, k2⟩ := k _ s9
        exact ⟨_, rfl, .inr ⟨_, rfl, rfl, rfl, dd, _, v, e2, k1, lk _ _, by show 2 ≤ sizeLine; decide, fun p hp => k2 p hp⟩⟩
    have n2 : j ≠ 4 ∧ j ≠ 5 := by
      rw [word_index j] at h
      simpa using h
    refine ⟨_, rfl, rfl, _, rfl, ite2 (fun h => ?_) (fun h => ?_)⟩
    · have hj : j = 9 := by
        rw [word_name j] at h
        simpa using h
      subst hj
      obtain ⟨dd, v, e2, k⟩ := fin2 "name" rfl
      obtain ⟨k1, k2⟩ := k _ s9
      exact ⟨_, rfl, _, rfl, rfl, rfl, dd, _, v, e2, k1, lk _ _, by show 2 ≤ sizeLine; decide, fun p hp => k2 p hp⟩
    have n3 : j ≠ 9 := by
      rw [word_name j] at h
      simpa using h
    refine ⟨_, rfl, rfl, _, rfl, ite2 (fun h => ?_) (fun h => ?_)⟩
    · have hj : j = 1 := by
        rw [word_code j] at h
        simpa using h
      subst hj
      obtain ⟨dd, v, e2, k⟩ := fin2 "offset" rfl
      obtain ⟨k1, k2⟩ := k _ s9
      exact ⟨_, rfl, _, rfl, rfl, rfl, dd, _, v, e2, k1, lk _ _, by show 2 ≤ sizeLine; decide, fun p hp => k2 p hp⟩
    · have n4 : j ≠ 1 := by
        rw [word_code j] at h
        simpa using h
      have ef : eFl j = none := by
        rcases ten_cases j with e | e | e | e | e | e | e | e | e | e
        · exact absurd e n1.1
        · exact absurd e n4
        · rw [e]; rfl
        · rw [e]; rfl
        · exact absurd e n2.1
        · exact absurd e n2.2
        · exact absurd e n1.2
        · rw [e]; rfl
        · rw [e]; rfl
        · exact absurd e n3
      exact ⟨_, rfl, by show 1 ≤ sizeLine; decide, fun p hp => fin1 p s9 hp ef⟩
end
end Sh4
set_option Elab.async false
set_option linter.all false
set_option maxRecDepth 100000
set_option maxHeartbeats 4000000
/-! An own error without a field; shared by the laws with ten errors. -/
namespace Sh4
open PySem L2 Sho NdefX Shg Sh1
/-- an own error without a field -/
structure ErrN4 (K : PySem.W.Frag) (mg : Str → Option Value) (x : Str) (C : Addr) : Prop where
  ex : PySem.W.excIn K C [.type "ValueError", .type "Exception", .type "BaseException", .type "object"] "ValueError.__new__" = true
  gm : mg x = some (.ref C)
  kp : PySem.W.keepIn K (.ref C) = true
  be : PySem.W.subIn K (.ref C) (.type "BaseException") = some true
  ty : PySem.W.typeIn K (.ref C) = some (.type "type")
theorem small_cat {a b : Str} {n m : Nat} (ha : a.length ≤ n) (hb : b.length ≤ m) : (a ++ b).length ≤ n + m := by
  rw [PySem.Str.length_append]
  omega
end Sh4
set_option Elab.async false
set_option linter.all false
set_option maxRecDepth 100000
set_option maxHeartbeats 2000000
/-! Facts of the head that the laws with ten errors share. -/
namespace Sh4
open PySem L2 Sho NdefX He Shh Shg Sh1
section
variable {K : Shh.Fr} {h : Heap} {mg : Str → Option Value}
abbrev bltNames : List Str := ["len", "all", "isinstance", "bool", "tuple", "list", "range", "enumerate", "int", "super", "sorted", "dict", "str", "min", "max", "ValueError", "set", "sum", "any"]
theorem blt_ok (X : K.In h) (G : h.Ns mainGlobals mg) (c : freeB K bltNames = true) : Shg.Blt mg := by
  have k : ∀ x, x ∈ bltNames → mg x = none := fun x hx => freeB_ok X G c hx
  exact ⟨k _ (by simp), k _ (by simp), k _ (by simp), k _ (by simp), k _ (by simp), k _ (by simp), k _ (by simp), k _ (by simp), k _ (by simp), k _ (by simp), k _ (by simp), k _ (by simp), k _ (by simp), k _ (by simp), k _ (by simp), k _ (by simp), k _ (by simp), k _ (by simp), k _ (by simp)⟩
theorem ernB_ok {x : Str} (gm : mg x = some (.ref (ga K x))) (c : ernB K x = true) : ErrN4 K mg x (ga K x) := by
  obtain ⟨c1, c⟩ := ba c
  obtain ⟨c2, c⟩ := ba c
  obtain ⟨c3, c⟩ := ba c
  obtain ⟨c4, c5⟩ := ba c
  exact ⟨c1, gm, c2, of_decide_eq_true c3, of_decide_eq_true c4⟩
def excB (K : Shh.Fr) (D : Addr) : Bool := eqO (PySem.W.findIn K (.ref D) "__getattribute__") (some (some (.builtin "BaseException.__getattribute__"))) && (eqO (PySem.W.findIn K (.ref D) "__getattr__") (some none) && (decide (PySem.W.subIn K (.ref D) (.type "BaseException") = some true) &&
  (PySem.W.hasDictIn K D && (eqO (PySem.W.findIn K (.ref D) "__class__") (some (some (.builtin "object.__class__"))) && (eqO (PySem.W.specialIn K (.builtin "object.__class__") "__get__") (some (some (.builtin "getset_descriptor.__get__"))) && (decide (PySem.W.takesIn K (.builtin "object.__class__") = some true) &&
  decide (PySem.W.mroIn K D (.type "object") = some true)))))))
theorem excB_ok {D : Addr} (c : excB K D = true) : ExcC K D ∧ XfC K D := by
  obtain ⟨c1, c⟩ := ba c
  obtain ⟨c2, c⟩ := ba c
  obtain ⟨c3, c⟩ := ba c
  obtain ⟨c4, c⟩ := ba c
  obtain ⟨c5, c⟩ := ba c
  obtain ⟨c6, c⟩ := ba c
  obtain ⟨c7, c8⟩ := ba c
  exact ⟨⟨eqO_ok c1, eqO_ok c2, of_decide_eq_true c3, c4, eqO_ok c5, eqO_ok c6, of_decide_eq_true c7, of_decide_eq_true c8⟩, ⟨eqO_ok c1, eqO_ok c2, of_decide_eq_true c3, c4⟩⟩
/-- the class of the error j -/
abbrev eA (K : Shh.Fr) (j : Fin 10) : Addr := ga K (eNm j)
def all10 : List (Fin 10) := [0, 1, 2, 3, 4, 5, 6, 7, 8, 9]
theorem all10_mem : ∀ j : Fin 10, j ∈ all10 := by decide
def tenB (K : Shh.Fr) : Bool := all10.all fun j => decide (PySem.W.exmOne K (.ref (eA K j)) (.ref (ga K "PartyError")) = some true) && ((all10.all fun i => decide (PySem.W.kitOne K (.ref (eA K j)) (.ref (eA K i)) = some (decide (j = i)))) &&
  (decide (PySem.W.kitOne K (.ref (eA K j)) (.type "ValueError") = some true) && (excB K (eA K j) && (match eFl j with
    | some f => eqO (PySem.W.findIn K (.ref (eA K j)) f) (some none)
    | none => true))))
theorem tenB_ok (g : ∀ x, x ∈ (["PartyError", "DaybookError", "DecodeError", "InvalidName", "InvalidNumber", "InvalidOperation", "InvalidStay", "InvalidText", "TooEarly", "TooWide", "UnknownGuest"] : List Str) → mg x = some (.ref (ga K x))) (c : tenB K = true) : Ten K mg (ga K "PartyError") (eA K) := by
  have one : ∀ j : Fin 10, _ := fun j => List.all_eq_true.mp c j (all10_mem j)
  refine ⟨g _ (by simp), fun j => ?_, fun j => ?_, fun i j => ?_, fun j => ?_, fun j => ?_, fun j => ?_, fun j f e => ?_⟩
  · rcases ten_cases j with rfl | rfl | rfl | rfl | rfl | rfl | rfl | rfl | rfl | rfl <;> exact g _ (by simp [eNm])
  · obtain ⟨c1, _⟩ := ba (one j)
    exact of_decide_eq_true c1
  · obtain ⟨_, c⟩ := ba (one i)
    obtain ⟨c2, _⟩ := ba c
    exact of_decide_eq_true (List.all_eq_true.mp c2 j (all10_mem j))
  · obtain ⟨_, c⟩ := ba (one j)
    obtain ⟨_, c⟩ := ba c
    obtain ⟨c3, _⟩ := ba c
    exact of_decide_eq_true c3
  · obtain ⟨_, c⟩ := ba (one j)
    obtain ⟨_, c⟩ := ba c
    obtain ⟨_, c⟩ := ba c
    obtain ⟨c4, _⟩ := ba c
    exact (excB_ok c4).1
  · obtain ⟨_, c⟩ := ba (one j)
    obtain ⟨_, c⟩ := ba c
    obtain ⟨_, c⟩ := ba c
    obtain ⟨c4, _⟩ := ba c
    exact (excB_ok c4).2
  · obtain ⟨_, c⟩ := ba (one j)
    obtain ⟨_, c⟩ := ba c
    obtain ⟨_, c⟩ := ba c
    obtain ⟨_, c5⟩ := ba c
    rw [e] at c5
    exact eqO_ok c5
end
theorem _root_.Shh.FunF.funL {K : Shh.Fr} {x qual : Str} {st : Stmt} {f : Addr} (F : FunF K x qual st [] f) : ∃ fd, Shg.FunL K x qual st f (codeA K f) fd ∧
    (∀ ps : List Str, (∀ (kV doc pm : Value) (an : Option Addr) (cdv ct : Value) (us : List Value), us.length = ps.length → bindArgs (PySem.W.fnOf x qual (defArgs st) (defBody st) (defScope st) .none kV doc pm an cdv ct) ⟨us, []⟩ = pure (ps.zip us)) → Binds K fd ps []) ∧
    ∀ ps : List Str, (∀ (kV doc pm : Value) (an : Option Addr) (cdv ct : Value) (us : List Value), us.length = ps.length → bindArgs (PySem.W.fnOf x qual (defArgs st) (defBody st) (defScope st) .none kV doc pm an cdv ct) ⟨us, []⟩ = pure (ps.zip us)) → ∀ (s : Shared) (us : List Value), us.length = ps.length → BindsTo s fd ⟨us, []⟩ (ps.zip us) := by
  obtain ⟨oc, od, doc, pm, an, ct, osl, lk, hcd⟩ := F.ex
  exact ⟨_, ⟨oc, od, .none, doc, pm, an, ct, osl, rfl, lk, hcd⟩, fun ps h => .all (h .none doc pm an _ ct), fun ps h s us hl => .of_eq (h .none doc pm an _ ct us hl)⟩
abbrev dn (x : Str) (st : Stmt) : Dn := ⟨fun K => ga K x, x, x, st, fun _ => []⟩
def tabA (K : Shh.Fr) (x : Str) : Addr := tabOf K (codeA K (ga K x))
end Sh4
set_option Elab.async false
set_option linter.all false
set_option maxRecDepth 100000
set_option maxHeartbeats 2000000
namespace Sh1
open PySem L2 Sho
/-- the builtins that the text calls -/
structure Blt (mg : Str → Option Value) : Prop where
  len : mg "len" = none
  all : mg "all" = none
  isi : mg "isinstance" = none
  bool : mg "bool" = none
  tuple : mg "tuple" = none
  list : mg "list" = none
  range : mg "range" = none
  enum : mg "enumerate" = none
  int : mg "int" = none
  sup : mg "super" = none
  sorted : mg "sorted" = none
section
variable {P : Program} {w : World} {K : PySem.W.Frag} {mg : Str → Option Value} {base : Heap}
/-! ### is_name -/
def letter (c : Nat) : Bool := !decide (c < 97) && !decide (122 < c)
def okName (z : Str) : Bool := decide ((1 : Int) ≤ z.length) && (decide ((z.length : Int) ≤ 8) && z.cps.toList.all letter)
theorem one_lt (c d : Nat) : ([c] < [d]) ↔ c < d := by
  rw [List.cons_lt_cons_iff]
  simp
theorem cps_a : (Str.ofString "a").cps.toList = [97] := by decide +kernel
theorem cps_z : (Str.ofString "z").cps.toList = [122] := by decide +kernel
def spIsName : Sp := fun vs H Q _ => ∃ z : Str, vs = [.str z] ∧ z.length ≤ sizeLine ∧ ∀ H', Same H H' → Q (.bl (okName z)) H'
theorem scIsName : FnScope ["word", "letter"] ["word"] (defScope sIsName) := ⟨rfl, rfl, rfl, by decide +kernel, rfl, by decide +kernel, by decide +kernel⟩
theorem ok_isName {f : Addr} {fd : FuncData} {t8 : Tok} (F : Fun K "is_name" "is_name" sIsName f fd) (B : Blt mg) (g8 : mg "LONGEST_NAME" = some (.int 8 t8)) : FnOk P w K mg base CX0 1 f fd ["word"] spIsName := by
  refine F.ok scIsName (fun vs H Q E h => ?_) (fun cdv A outer s H vs Q E hr h => ?_)
  · obtain ⟨z, rfl, _⟩ := h
    rfl
  · obtain ⟨z, rfl, hz, k⟩ := h
    refine ⟨_, pss_one (ps_ret (pe_and (pe_chain op_le op_le pe_int (pe_callB call_len_str (by rfl) B.len PySem.boot_len (pa_cons (pv 0) pa_nil)) (pe_glob (v := .int 8) rfl g8 ⟨_, rfl⟩)) (pe_one
      (pe_callB (cr_all rfl) (by rfl) B.all (by decide +kernel) (pa_cons (pe_lc (own := [("letter", 1)]) (g := gName 1) (tt := tYes) rfl scIsName.nd (pi_str (pv 0)) (blkOk_by (own := [("letter", 1)]) (N := ["word", "letter"]) (sc := defScope sIsName) (by decide +kernel))
        (fun _ _ _ _ _ => pg_name (i := 1) scIsName.nd rfl (Or.inl rfl)) (fun _ _ _ _ _ => pts_nil)
        (fun _ _ _ _ _ => pe_chain op_le_str op_le_str pe_str (pv 1) pe_str)) pa_nil))))), ?_⟩
    refine ⟨_, rfl, z, rfl, hz, _, _, rfl, rfl, _, rfl, ?_⟩
    refine ite2 (fun h1 => ?_) (fun h1 => ?_)
    · refine ⟨_, _, rfl, rfl, _, rfl, ?_⟩
      refine ite2 (fun h2 => ?_) (fun h2 => ?_)
      · refine ⟨_, rfl, z, rfl, fun D hD => ?_⟩
        refine lc_map (walk_str (z := z)) (fun i => (z.cps.toList[i]?).map fun c => .bl (letter c)) hD hz (fun _ _ => trivial) (fun i x H1 H' hi s1 y R k1 => ?_) (fun i hi => ⟨_, by rw [List.getElem?_eq_getElem (by simpa using hi)]; rfl⟩) fun H1 s1 e1 => ?_
        · obtain ⟨rfl, c, hc, rfl⟩ := y
          refine ⟨rfl, _, rfl, _, _, rfl, rfl, _, rfl, ?_⟩
          have fi : Option.map (fun c => V.bl (letter c)) z.cps.toList[i]? = some (.bl (letter c)) := by
            rw [Array.getElem?_toList, hc]
            rfl
          have e1 : decide (({ cps := #[c] } : Str).cps.toList < (Str.ofString "a").cps.toList) = decide (c < 97) := by
            rw [cps_a]
            exact decide_eq_decide.mpr (one_lt c 97)
          have e2 : decide ((Str.ofString "z").cps.toList < ({ cps := #[c] } : Str).cps.toList) = decide (122 < c) := by
            rw [cps_z]
            exact decide_eq_decide.mpr (one_lt 122 c)
          rw [e1]
          by_cases h3 : c < 97
          · rw [decide_eq_true h3]
            refine iteF (k1 _ _ (Same.refl _) ?_)
            rw [fi]
            simp [letter, h3]
          · rw [decide_eq_false h3]
            refine iteT ⟨_, _, rfl, rfl, ?_⟩
            rw [e2]
            refine k1 _ _ (Same.refl _) ?_
            rw [fi]
            simp [letter, h3]
        · refine ⟨D, z.cps.toList.map letter, rfl, ?_, ?_⟩
          · have e2 : gather (fun i => (z.cps.toList[i]?).map fun c => V.bl (letter c)) z.cps.size = (z.cps.toList.map letter).map V.bl := by
              have := gather_map z.cps.toList fun c => V.bl (letter c)
              rw [Array.length_toList] at this
              rw [this, List.map_map]
              rfl
            rw [← e2]
            exact SqL.of e1
          · have e3 : okName z = (z.cps.toList.map letter).all id := by
              unfold okName
              have h1' : (1 : Int) ≤ z.length := of_decide_eq_true h1
              have h2' : (z.length : Int) ≤ 8 := of_decide_eq_true h2
              rw [decide_eq_true h1', decide_eq_true h2', List.all_map]
              rfl
            rw [← e3]
            exact k _ s1
      · have e3 : okName z = false := by
          unfold okName
          have h2' : ¬ (z.length : Int) ≤ 8 := fun q => h2 (decide_eq_true q)
          rw [decide_eq_false h2']
          simp
        have := k H (Same.refl H)
        rw [e3] at this
        exact this
    · have e3 : okName z = false := by
        unfold okName
        have h1' : ¬ (1 : Int) ≤ z.length := fun q => h1 (decide_eq_true q)
        rw [decide_eq_false h1']
        rfl
      have := k H (Same.refl H)
      rw [e3] at this
      exact ⟨_, rfl, iteF this⟩
/-! ### is_tick, is_stay -/
def okTick (n : Int) : Bool := decide (0 ≤ n) && decide (n ≤ 1000000000)
def spIsWithin : Sp := fun vs H Q _ => ∃ n a b : Int, vs = [.int n, .int a, .int b] ∧ Q (.bl (decide (a ≤ n) && decide (n ≤ b))) H
theorem scIsWithin : FnScope ["number", "low", "high"] ["number", "low", "high"] (defScope sIsWithin) := ⟨rfl, rfl, rfl, by decide +kernel, rfl, by decide +kernel, by decide +kernel⟩
theorem ok_isWithin {f : Addr} {fd : FuncData} (F : Fun K "is_within" "is_within" sIsWithin f fd) (B : Blt mg) : FnOk P w K mg base CX0 1 f fd ["number", "low", "high"] spIsWithin := by
  refine F.ok scIsWithin (fun vs H Q E h => ?_) (fun cdv A outer s H vs Q E hr h => ?_)
  · obtain ⟨n, a, b, rfl, _⟩ := h
    rfl
  · obtain ⟨n, a, b, rfl, k⟩ := h
    refine ⟨_, pss_one (ps_ret (pe_and (pe_not (pe_callB call_isi (by rfl) B.isi (by decide +kernel) (pa_cons (pv 0) (pa_cons (pe_bltn (v := .ty "bool") (by rfl) B.bool (by decide +kernel) rfl) pa_nil))))
      (pe_one (pe_chain op_le op_le (pv 1) (pv 0) (pv 2))))), ?_⟩
    refine ⟨_, rfl, .int n, .ty "bool", .type "int", .type "bool", false, rfl, .ty _, .base (.int n), kit_ty (by decide +kernel), _, rfl, _, rfl, iteT ⟨_, rfl, _, rfl, _, _, rfl, rfl, _, rfl, ?_⟩⟩
    refine ite2 (fun h1 => ?_) (fun h1 => ?_)
    · refine ⟨_, rfl, _, _, rfl, rfl, ?_⟩
      rw [h1] at k
      exact k
    · rw [Bool.eq_false_iff.mpr h1] at k
      exact k
def spIsTick : Sp := fun vs H Q _ => ∃ n : Int, vs = [.int n] ∧ Q (.bl (okTick n)) H
theorem scIsTick : FnScope ["number"] ["number"] (defScope sIsTick) := ⟨rfl, rfl, rfl, by decide +kernel, rfl, by decide +kernel, by decide +kernel⟩
theorem ok_isTick {f fW : Addr} {fd fdW : FuncData} {t8 : Tok} (F : Fun K "is_tick" "is_tick" sIsTick f fd) (g9 : mg "LAST_TICK" = some (.int 1000000000 t8))
    (GW : FnOk P w K mg base CX0 1 fW fdW ["number", "low", "high"] spIsWithin) (mW : mg "is_within" = some (.ref fW)) (kW : PySem.W.keepIn K (.ref fW) = true) (bW : Binds K fdW ["number", "low", "high"] []) : FnOk P w K mg base CX0 2 f fd ["number"] spIsTick := by
  refine F.ok scIsTick (fun vs H Q E h => ?_) (fun cdv A outer s H vs Q E hr h => ?_)
  · obtain ⟨n, rfl, _⟩ := h
    rfl
  · obtain ⟨n, rfl, k⟩ := h
    refine ⟨_, pss_one (ps_ret (pe_call GW hr rfl mW kW bW .nil pass0 (pa_cons (pv 0) (pa_cons pe_int (pa_cons (pe_glob (v := .int 1000000000) rfl g9 ⟨_, rfl⟩) pa_nil))))), ?_⟩
    exact ⟨_, rfl, n, 0, 1000000000, rfl, k⟩
def okStay (z : Str) (a b : Int) : Bool := okName z && (okTick a && (okTick b && decide (a < b)))
def spIsStay : Sp := fun vs H Q _ => ∃ (z : Str) (a b : Int), vs = [.str z, .int a, .int b] ∧ z.length ≤ sizeLine ∧ ∀ H', Same H H' → Q (.bl (okStay z a b)) H'
theorem scIsStay : FnScope ["name", "come", "go"] ["name", "come", "go"] (defScope sIsStay) := ⟨rfl, rfl, rfl, by decide +kernel, rfl, by decide +kernel, by decide +kernel⟩
theorem ok_isStay {f fN fT : Addr} {fd fdN fdT : FuncData} (F : Fun K "is_stay" "is_stay" sIsStay f fd) (GN : FnOk P w K mg base CX0 1 fN fdN ["word"] spIsName) (mN : mg "is_name" = some (.ref fN)) (kN : PySem.W.keepIn K (.ref fN) = true) (bN : Binds K fdN ["word"] [])
    (GT : FnOk P w K mg base CX0 2 fT fdT ["number"] spIsTick) (mT : mg "is_tick" = some (.ref fT)) (kT : PySem.W.keepIn K (.ref fT) = true) (bT : Binds K fdT ["number"] []) : FnOk P w K mg base CX0 3 f fd ["name", "come", "go"] spIsStay := by
  refine F.ok scIsStay (fun vs H Q E h => ?_) (fun cdv A outer s H vs Q E hr h => ?_)
  · obtain ⟨z, a, b, rfl, _⟩ := h
    rfl
  · obtain ⟨z, a, b, rfl, hz, k⟩ := h
    refine ⟨_, pss_one (ps_ret (pe_and (pe_call GN (hr.mono (by decide)) rfl mN kN bN .nil pass0 (pa_cons (pv 0) pa_nil)) (pe_and (pe_call GT hr rfl mT kT bT .nil pass0 (pa_cons (pv 1) pa_nil))
      (pe_and (pe_call GT hr rfl mT kT bT .nil pass0 (pa_cons (pv 2) pa_nil)) (pe_one (pe_cmpR op_lt (pv 1) (pv 2) (nomark _))))))), ?_⟩
    have fin : ∀ (c : Bool) (H' : Hp), Same H H' → c = okStay z a b → Q (.bl c) H' := fun c H' s e => by
      rw [e]
      exact k _ s
    refine ⟨_, rfl, z, rfl, hz, fun H1 s1 => ⟨_, rfl, ?_⟩⟩
    refine ite2 (fun h1 => ⟨_, rfl, a, rfl, _, rfl, ?_⟩) (fun h1 => fin _ _ s1 (by unfold okStay; rw [Bool.eq_false_iff.mpr h1]; rfl))
    refine ite2 (fun h2 => ⟨_, rfl, b, rfl, _, rfl, ?_⟩) (fun h2 => fin _ _ s1 (by unfold okStay; rw [Bool.eq_false_iff.mpr h2]; simp))
    refine ite2 (fun h3 => ⟨_, rfl, _, rfl, _, _, rfl, rfl, ?_⟩) (fun h3 => fin _ _ s1 (by unfold okStay; rw [Bool.eq_false_iff.mpr h3]; simp))
    exact fin _ _ s1 (by unfold okStay; rw [h1, h2, h3]; rfl)
end
end Sh1
set_option Elab.async false
set_option linter.all false
set_option maxRecDepth 100000
set_option maxHeartbeats 2000000
/-! enumerate of a tuple. -/
namespace ShE
open PySem
open Sem (wp)
open AutoSeq1 (wpAny_loadPart')
/-- the enumerate of the tuple o at t -/
theorem meets_enumT (t : Addr) (o : Obj) (items : Array Value) (hc : o.cls = .type "tuple") (n : Nat) (hd : o.data = .seq items n) :
    Meets (Builtin.«enumerate.__new__» ⟨[.type "enumerate", .ref t], []⟩) (fun _ R s => s.heap.get? t = some o ∧
      R (.ok (.ret (.ref (s.heap.push { cls := .type "tuple_iterator", data := .fields #[.ref t, .int 0 0] }).objs.size)))
        { s with heap := (s.heap.push { cls := .type "tuple_iterator", data := .fields #[.ref t, .int 0 0] }).push { cls := .type "enumerate", data := .fields #[.none, .bool false, .ref s.heap.objs.size, rawInt 0, .none, .none] } }) :=
  .of_wp fun prog w A R s h => by
    obtain ⟨hp, g, d, tk, os⟩ := s
    obtain ⟨ht, h⟩ := h
    obtain ⟨oc, od, odt, osl⟩ := o
    replace hc : oc = .type "tuple" := hc
    replace hd : odt = .seq items n := hd
    subst hc hd
    have sub := sub_enumerate
    have isT : Heap.IsTuple (Shared.heap ⟨hp, g, d, tk, os⟩) t items := ⟨_, ht, rfl, n, rfl⟩
    wp_walk using wpAny_loadPart' ht
    refine wpAny_stack_any fun st => wpAny_pure ?_
    split
    · rename_i c _ _ _ _ _
      cases (c == Value.type "enumerate")
      all_goals
        wp_walk using wpAny_loadPart' ht, wpAny_pyIter_tuple isT
        exact ⟨_, rfl, h⟩
    · wp_walk using wpAny_loadPart' ht, wpAny_pyIter_tuple isT
      exact ⟨_, rfl, h⟩
section
variable {prog : Program} {w : World} {A : Around} {E : Value → Shared → Prop} {s : Shared}
theorem call_enumT {t : Addr} {items : Array Value} {Q : Value → Shared → Prop} (hT : s.heap.IsTuple t items)
    (h : ∀ h', IsEnum h' (s.heap.objs.size + 1) s.heap.objs.size 0 .none → h'.IsTupleIter s.heap.objs.size t 0 → h'.objs.size = s.heap.objs.size + 2 →
      (∀ b o, s.heap.get? b = some o → h'.get? b = some o) → Q (.ref (s.heap.objs.size + 1)) { s with heap := h' }) :
    wpAny (model prog w) A (call (.type "enumerate") [.ref t]) Q E s := by
  obtain ⟨o, ho, hc, n, hd⟩ := hT
  refine callType_new F.called_enumerate (by decide) (F.typeCall_enumerate_1 _) (F.newCall_enumerate_1 _) (fun obj => F.args_object_init_2 obj _) F.entry_enumerate_new
    (meets_enumT t o items hc n hd) ⟨ho, ?_⟩
  generalize hI : s.heap.push { cls := .type "tuple_iterator", data := .fields #[.ref t, .int 0 0] } = h1
  have z1 : h1.objs.size = s.heap.objs.size + 1 := by
    rw [← hI]
    exact Heap.size_push ..
  have it1 : h1.get? s.heap.objs.size = some { cls := .type "tuple_iterator", data := .fields #[.ref t, .int 0 0] } := by
    rw [← hI]
    exact Heap.get?_push_size _ rfl
  show _ ∧ _
  rw [z1]
  have en : IsEnum (h1.push { cls := .type "enumerate", data := .fields #[.none, .bool false, .ref s.heap.objs.size, rawInt 0, .none, .none] }) (s.heap.objs.size + 1) s.heap.objs.size 0 .none := by
    have := Heap.get?_push_size h1 (o := { cls := .type "enumerate", data := .fields #[.none, .bool false, .ref s.heap.objs.size, rawInt 0, .none, .none] }) rfl
    rw [z1] at this
    exact this
  refine ⟨⟨_, en, rfl⟩, h _ en ⟨_, Heap.get?_push_of_some _ it1, rfl, rfl⟩ (by rw [Heap.size_push, z1]) fun b o x => Heap.get?_push_of_some _ ?_⟩
  rw [← hI]
  exact Heap.get?_push_of_some _ x
end
end ShE

namespace Sho
open PySem PySem.Spec PyProof.Rows L2
/-- enumerate of the tuple at a: pairs of the turn and its item -/
def Iet (K : PySem.W.Frag) (a : Addr) : It :=
  ⟨fun i H => ∃ (xs : List V) (x : V), SqT K H a xs ∧ xs[i]? = some x, fun i H v H' => ∃ T x, v = .ref T ∧ H T = none ∧ H' = upd H T (.tup [.int (i : Nat), x]) ∧ ∀ xs, SqT K H a xs → xs[i]? = some x,
    fun i H => ∃ xs : List V, SqT K H a xs ∧ xs.length = i⟩
theorem walk_enumT {K : PySem.W.Frag} {a : Addr} {xs : List V} : Walk (Iet K a) xs.length (fun H => SqT K H a xs) (YPair (fun i => some (.int (i : Nat))) (fun i => xs[i]?)) := by
  refine ⟨fun i H hi q => ⟨xs, xs[i], q, by simp [hi]⟩, fun H q => ⟨xs, q, rfl⟩, fun i H v H' _ q y => ?_⟩
  obtain ⟨T, x, h1, h2, h3, h4⟩ := y
  exact ⟨T, .int (i : Nat), x, h1, h2, h3, rfl, h4 xs q⟩
theorem turn_enumT {P : Program} {w : World} {K : PySem.W.Frag} {elts : List Expr} {kk : Nat} {tpos : Pos} (a e it : Addr) :
    Turn P w K (.Tuple elts kk tpos) (Iet K a) [e, it] e (fun i h => (∃ old, IsEnum h e it ((i : Nat) : Int) old) ∧ h.IsTupleIter it a i ∧ e ≠ it ∧ a ≠ it ∧ a ≠ e) where
  mem := by simp
  obj := fun i h st b hb => by
    obtain ⟨⟨old, he⟩, ⟨o, ho, hc, hd⟩, _⟩ := st
    have two : b = e ∨ b = it := by simpa using hb
    rcases two with z | z
    · rw [z]
      exact ⟨_, he, fun v q => nomatch q⟩
    · rw [z]
      exact ⟨o, ho, fun v q => by rw [hd] at q; cases q⟩
  keep := fun i h h' st k => let ⟨⟨old, he⟩, hi, n⟩ := st; ⟨⟨old, k e (by simp) _ he⟩, hi.at fun o q => k it (by simp) o q, n⟩
  item := by
    intro X hP hw hK hc i pins s σ H E I hf st hg
    subst hP hw hK
    obtain ⟨⟨old, he⟩, hit, n1, n2, n3⟩ := st
    obtain ⟨xs, x, hq, hx⟩ := hg
    obtain ⟨its, rv, isT, hz⟩ := I.tuple hq
    have DR := Draws.tuple (prog := X.prog) (w := X.w) (A := X.A.in1) (I.ok.hd hc) it a n2 its.toArray
    obtain ⟨u, hu, ru⟩ := rv.get hx
    have lt : i < its.toArray.size := by
      rw [List.size_toArray]
      exact (List.getElem?_eq_some_iff.mp hu).1
    refine wpAny_pyNext_enum_itemD DR he ⟨hit, isT⟩ lt n1 (by simp [n1, Ne.symm n3]) fun u' h' tk hu' ho st' hT hsz hk => ?_
    have eu : u' = u := by
      have hu' : its.toArray[i]? = some u' := hu'
      rw [List.getElem?_toArray, hu] at hu'
      exact (Option.some.inj hu').symm
    subst eu
    have hel : e < s.heap.objs.size := Heap.lt_size he
    have hil : it < s.heap.objs.size := by
      obtain ⟨_, q, _⟩ := hit
      exact Heap.lt_size q
    refine ⟨_, rfl, wpAny_letOwnedTupleGo_enum (s := { s with heap := h', toks := tk + 1 }) ho fun h'' he' sb => ?_⟩
    have hT2 : h''.get? s.heap.objs.size = some { cls := .type "tuple", data := .seq #[.int i tk, u'] } := (sb.2 _ (Nat.ne_of_gt hel)).trans hT
    have new : ObjOk X.prog X.w (upd H s.heap.objs.size (.tup [.int (i : Nat), x])) h'' s.heap.objs.size (.tup [.int (i : Nat), x]) :=
      ⟨by show 2 ≤ sizeLine; decide, [.int i tk, u'], .cons ⟨_, rfl⟩ (.cons ru .nil), ⟨_, hT2, rfl, _, rfl⟩⟩
    have I1 : Inv X pins σ (upd H s.heap.objs.size (.tup [.int (i : Nat), x])) { s with heap := h'', toks := tk + 1 } :=
      I.turnedNew (ch := [e, it]) (fun b ob hb q => (sb.2 b (fun z => hb (by simp [z]))).trans (hk b ob (fun z => hb (by simp [z])) (fun z => hb (by simp [z])) q)) hf (Nat.le_refl _) new
    refine ⟨.ref s.heap.objs.size, _, I1, rfl, ⟨_, x, rfl, I.hok.fresh (Nat.le_refl _), rfl, fun ys hy => by rw [I.tuple_inj hy hq]; exact hx⟩, ⟨⟨u', ?_⟩, st'.1.at fun o q => (sb.2 it (Ne.symm n1)).trans q, n1, n2, n3⟩, fun b hb => ?_⟩
    · have z : ((i + 1 : Nat) : Int) = (i : Int) + 1 := by omega
      rw [z]
      exact he'
    · have old' : b < s.heap.objs.size := by
        have two : b = e ∨ b = it := by simpa using hb
        rcases two with z | z <;> rw [z] <;> assumption
      rw [upd_ne (Nat.ne_of_lt old')]
      exact (hf b hb).1
  done := by
    intro X hP hw hK hc i pins s σ H E I hf st hg
    subst hP hw hK
    obtain ⟨⟨old, he⟩, hit, n1, n2, n3⟩ := st
    obtain ⟨xs, hq, hx⟩ := hg
    obtain ⟨its, rv, isT, hz⟩ := I.tuple hq
    have DR := Draws.tuple (prog := X.prog) (w := X.w) (A := X.A.in1) (I.ok.hd hc) it a n2 its.toArray
    obtain ⟨f0, f1, f2, f3, f4, f5⟩ := hf it (by simp)
    have ei : i = its.toArray.size := by
      rw [List.size_toArray, ← rv.length]
      exact hx.symm
    refine wpAny_pyNext_enum_endD DR he (show _ from ei ▸ ⟨hit, isT⟩) fun h' eb => ⟨rfl, I.turned (t' := s.toks) (fun b o hb q => eb b o hb q) f0 f1 f3 f4 f5⟩
  self := fun A i s Q E st h => let ⟨⟨_, he⟩, _⟩ := st; wpAny_pyIter_enum he h
def iEnumT (K : PySem.W.Frag) (ta : TA) : TI := fun σ H R => ta σ H fun vs H1 => ∃ a xs, vs = [.ref a] ∧ SqT K H1 a xs ∧ R (Iet K a) H1
theorem pi_enumT {X : Cx} {e : Expr} {ta : TA} {p pos tpos : Pos} {elts : List Expr} {kk : Nat} (hg : Gl X "enumerate") (hm : X.mg "enumerate" = none) (ha : PA X [e] ta) (hs : starEach [e] X.env = [(false, eval e X.env)] := by rfl) :
    PI X (.Tuple elts kk tpos) (.Call (.Name "enumerate" p) [e] [] pos) (iEnumT X.K ta) := by
  refine ⟨fun pins s σ H R I h => ?_⟩
  refine Call_ (ld_blt I hg hm boot_enumerate (PyProof.Rows.callWith_type1 (thn (ha.run pos pins s σ H _ I h) fun us s1 y => ?_) hs rfl))
  obtain ⟨vs, H1, I1, r1, a, xs, rfl, hq, q⟩ := y
  cases r1 with
  | cons r rr =>
    cases rr
    cases r
    obtain ⟨its, rv, isT, hz⟩ := I1.tuple hq
    have lt : a < s1.heap.objs.size := by
      obtain ⟨o, ho, _⟩ := isT
      exact Heap.lt_size ho
    refine ShE.call_enumT isT fun h' he hit hsz hk => wpAny_pyIter_enum he ?_
    have I2 : Inv X pins σ H1 { s1 with heap := h' } := I1.kept (t' := s1.toks) hk
    refine ⟨s1.heap.objs.size + 1, [s1.heap.objs.size + 1, s1.heap.objs.size], _, _, H1, rfl, I2, turn_enumT a (s1.heap.objs.size + 1) s1.heap.objs.size,
      ⟨⟨.none, he⟩, hit, Nat.succ_ne_self _, Nat.ne_of_lt lt, Nat.ne_of_lt (Nat.lt_succ_of_lt lt)⟩, fun b hb => ?_, q⟩
    have le : s1.heap.objs.size ≤ b := by
      have two : b = s1.heap.objs.size + 1 ∨ b = s1.heap.objs.size := by simpa using hb
      rcases two with z | z
      · rw [z]
        exact Nat.le_succ _
      · rw [z]
        exact Nat.le_refl _
    exact I1.fpOk le (I1.hok.fresh le)
end Sho
set_option Elab.async false
set_option linter.all false
set_option maxRecDepth 100000
set_option maxHeartbeats 2000000
namespace Sh1
open PySem L2 Sho NdefX
abbrev nfInv (cc cda : Addr) : NF := ⟨"__init__", "InvalidStay.__init__", defArgs sInvInit, defBody sInvInit, defScope sInvInit, [("__class__", cc)], cda⟩
abbrev nfUnk (cc cda : Addr) : NF := ⟨"__init__", "UnknownGuest.__init__", defArgs sUnkInit, defBody sUnkInit, defScope sUnkInit, [("__class__", cc)], cda⟩
/-- an own error that stores one field -/
structure ErrC (P : Program) (K : PySem.W.Frag) (mg : Str → Option Value) (x fld : Str) (F : Addr → Addr → NF) (C : Addr) : Prop where
  txt : ∃ f cc cda, SupTxt P K mg (F cc cda) f cc C ∧ PySem.W.findIn K (.ref C) "__init__" = some (some (.ref f)) ∧ PySem.W.typeIn K (.ref f) = some (.type "function")
  cls : SupCls K C C
  xf : XfC K C
  no : PySem.W.findIn K (.ref C) fld = some none
  gm : mg x = some (.ref C)
  exm : PySem.W.exmOne K (.ref C) (.ref C) = some true
section
variable {X : Cx} {CX : CXT} {C : Addr} {k : Nat} {kws : List Keyword} {te : TA} {p pos : Pos}
theorem tells_len {v : V} (h : Tells v) : (∃ y : Str, v = .str y ∧ y.length ≤ 100000) ∨ ∃ i : Int, v = .int i ∧ i.natAbs.log2 < 1920 ∧ (Str.ofString (toString i)).length ≤ 100000 := by
  rcases h with ⟨y, rfl, hy⟩ | ⟨i, rfl, hi⟩
  · exact .inl ⟨y, rfl, hy⟩
  · exact .inr ⟨i, rfl, hi, Nat.le_trans (PyProof.Rows.int_text_len_1921 hi) (by decide)⟩
theorem small_cat {a b : Str} {n m : Nat} (ha : a.length ≤ n) (hb : b.length ≤ m) : (a ++ b).length ≤ n + m := by
  rw [PySem.Str.length_append]
  omega
theorem pmk_inv (EC : ErrC X.prog X.K X.mg "InvalidStay" "index" nfInv C) (hr : Room (k + 2) X.A) (hx : Passes CX X (fun _ _ _ => False)) (hg : Gl X "InvalidStay")
    (hkw : PK X kws te) (hall : (backToKw pos (keywordEach kws X.env)).all (·.1.isSome) = true) (hks : (backToKw pos (keywordEach kws X.env)).filterMap (·.1) = [("index" : Str)])
    (hpl : ((backTo pos (starEach [] X.env)).any (·.1) || (backToKw pos (keywordEach kws X.env)).any (·.1.isNone)) = false) : PMk X (.Call (.Name "InvalidStay" p) [] kws pos) (tMkW C "index" te) := by
  obtain ⟨f, cc, cda, T, iC, tI⟩ := EC.txt
  have S : NScope ["self", "index", "__class__"] ["self", "index"] ["__class__"] (defScope sInvInit) := nscope_by (by decide +kernel)
  refine pmk_kw (F := nfInv cc cda) (fld := "index") (k := k) T EC.cls EC.xf EC.no iC tI S hr hx hg EC.gm hkw hall hks hpl rfl (fun s doc pm an ct xa u => .of_eq rfl) (fun A outer s H E xa v hv => ?_) (fun L => rfl) (fun L => rfl) (fun L => rfl)
  refine ⟨_, pa_cons (pe_joined (.cons pe_str (.cons (pe_fmt (pv 1)) (.cons pe_str .nil)))) pa_nil, fun R hR => ?_⟩
  have e0 : (Str.empty ++ Str.ofString "stay ").length ≤ 10 := by decide +kernel
  have e2 : (Str.ofString " is not allowed").length ≤ 20 := by decide +kernel
  refine ⟨_, rfl, Nat.le_trans e0 (by decide), v, rfl, ?_⟩
  rcases tells_len hv with ⟨y, rfl, hy⟩ | ⟨i, rfl, hi, hl⟩
  · have l1 := small_cat e0 hy
    have l2 := small_cat l1 e2
    exact .inl ⟨y, rfl, Nat.le_trans hy (by decide), y, rfl, Nat.le_trans l1 (by decide), _, rfl, Nat.le_trans l2 (by decide), hR _⟩
  · have l1 := small_cat e0 hl
    have l2 := small_cat l1 e2
    exact .inr ⟨i, rfl, hi, _, rfl, Nat.le_trans l1 (by decide), _, rfl, Nat.le_trans l2 (by decide), hR _⟩
theorem pmk_unk (EC : ErrC X.prog X.K X.mg "UnknownGuest" "name" nfUnk C) (hr : Room (k + 2) X.A) (hx : Passes CX X (fun _ _ _ => False)) (hg : Gl X "UnknownGuest")
    (hkw : PK X kws te) (hall : (backToKw pos (keywordEach kws X.env)).all (·.1.isSome) = true) (hks : (backToKw pos (keywordEach kws X.env)).filterMap (·.1) = [("name" : Str)])
    (hpl : ((backTo pos (starEach [] X.env)).any (·.1) || (backToKw pos (keywordEach kws X.env)).any (·.1.isNone)) = false) : PMk X (.Call (.Name "UnknownGuest" p) [] kws pos) (tMkW C "name" te) := by
  obtain ⟨f, cc, cda, T, iC, tI⟩ := EC.txt
  have S : NScope ["self", "name", "__class__"] ["self", "name"] ["__class__"] (defScope sUnkInit) := nscope_by (by decide +kernel)
  refine pmk_kw (F := nfUnk cc cda) (fld := "name") (k := k) T EC.cls EC.xf EC.no iC tI S hr hx hg EC.gm hkw hall hks hpl rfl (fun s doc pm an ct xa u => .of_eq rfl) (fun A outer s H E xa v hv => ?_) (fun L => rfl) (fun L => rfl) (fun L => rfl)
  refine ⟨_, pa_cons (pe_joined (.cons pe_str (.cons (pe_fmt (pv 1)) .nil))) pa_nil, fun R hR => ?_⟩
  have e0 : (Str.empty ++ Str.ofString "there is no guest ").length ≤ 30 := by decide +kernel
  refine ⟨_, rfl, Nat.le_trans e0 (by decide), v, rfl, ?_⟩
  rcases tells_len hv with ⟨y, rfl, hy⟩ | ⟨i, rfl, hi, hl⟩
  · have l1 := small_cat e0 hy
    exact .inl ⟨y, rfl, Nat.le_trans hy (by decide), y, rfl, Nat.le_trans l1 (by decide), hR _⟩
  · have l1 := small_cat e0 hl
    exact .inr ⟨i, rfl, hi, _, rfl, Nat.le_trans l1 (by decide), hR _⟩
end
end Sh1
set_option Elab.async false
set_option linter.all false
set_option maxRecDepth 100000
set_option maxHeartbeats 2000000
namespace Sh1
open PySem L2 Sho NdefX
/-! ### stays as data -/
abbrev Stay := Str × Int × Int
def StayV (H : Hp) (v : V) (x : Stay) : Prop := ∃ t, v = .ref t ∧ H t = some (.tup [.str x.1, .int x.2.1, .int x.2.2])
abbrev StaysV (H : Hp) (vs : List V) (xs : List Stay) : Prop := PySem.Paired (StayV H) vs xs
theorem StayV.same {H H' : Hp} {v : V} {x : Stay} (s : Same H H') (h : StayV H v x) : StayV H' v x := by
  obtain ⟨t, e, ht⟩ := h
  exact ⟨t, e, s _ _ ht⟩
theorem StaysV.same {H H' : Hp} (s : Same H H') : ∀ {vs : List V} {xs : List Stay}, StaysV H vs xs → StaysV H' vs xs
  | _, _, .nil => .nil
  | _, _, .cons h r => .cons (h.same s) (StaysV.same s r)
theorem pair_len {α β : Type} {R : α → β → Prop} : ∀ {as : List α} {bs : List β}, PySem.Paired R as bs → as.length = bs.length
  | _, _, .nil => rfl
  | _, _, .cons _ r => congrArg Nat.succ (pair_len r)
theorem pair_get {α β : Type} {R : α → β → Prop} : ∀ {as : List α} {bs : List β} {i : Nat} {a : α}, PySem.Paired R as bs → as[i]? = some a → ∃ b, bs[i]? = some b ∧ R a b
  | _, _, i, a, .nil, h => by simp at h
  | _, _, 0, a, .cons h r, e => by
    simp at e
    subst e
    exact ⟨_, rfl, h⟩
  | _, _, i + 1, a, .cons h r, e => by
    simp at e
    obtain ⟨b, e2, r2⟩ := pair_get r e
    exact ⟨b, by simpa using e2, r2⟩
theorem log_small {i : Nat} (h : i ≤ sizeLine) : ((i : Int)).natAbs.log2 < 1920 := by
  rw [Int.natAbs_natCast]
  rw [sizeLine_eq] at h
  by_cases z : i = 0
  · rw [z]
    decide
  · refine (Nat.log2_lt z).mpr (Nat.lt_of_le_of_lt h ?_)
    exact Nat.lt_of_lt_of_le (show 16777216 < 2 ^ 25 by decide) (Nat.pow_le_pow_right (by decide) (by decide))
/-! ### tests whose answers are known -/
theorem ans_or {A B : TT} {σ : L2.St} {H : Hp} {Q : Bool → Hp → Prop} (a b : Bool) (hA : ∀ R : Bool → Hp → Prop, (∀ H', Same H H' → R a H') → A σ H R)
    (hB : ∀ H1, Same H H1 → a = false → ∀ R : Bool → Hp → Prop, (∀ H', Same H1 H' → R b H') → B σ H1 R) (hQ : ∀ H', Same H H' → Q (a || b) H') : tOr A B σ H Q := by
  refine hA _ fun H1 s1 => ?_
  cases a with
  | true =>
    refine iteT ?_
    have := hQ H1 s1
    rw [Bool.true_or] at this
    exact this
  | false =>
    refine iteF (hB H1 s1 rfl _ fun H2 s2 => ?_)
    have := hQ H2 (s1.trans s2)
    rw [Bool.false_or] at this
    exact this
/-! ### the first invalid stay -/
def badStay (i : Nat) (seen : List Str) (x : Stay) : Bool := decide ((i : Int) = 24) || (seen.any (fun y => y == x.1) || !okStay x.1 x.2.1 x.2.2)
def firstBadFrom : Nat → List Str → List Stay → Option Nat
  | _, _, [] => none
  | i, seen, x :: r => if badStay i seen x = true then some i else firstBadFrom (i + 1) (seen ++ [x.1]) r
def firstBad (xs : List Stay) : Option Nat := firstBadFrom 0 [] xs
theorem inV_strs (z : Str) (l : List Str) : inV (.str z) (l.map V.str) = l.any (fun y => y == z) := by
  unfold inV
  rw [List.any_map]
  rfl
theorem flat_strs (l : List Str) : (l.map V.str).all flatV = true := by
  rw [List.all_map]
  exact List.all_eq_true.mpr fun _ _ => rfl
section
variable {P : Program} {w : World} {K : PySem.W.Frag} {mg : Str → Option Value} {base : Heap}
/-- names of a reasonable length -/
def Short (xs : List Stay) : Prop := ∀ x ∈ xs, x.1.length ≤ 100000 ∧ x.1.cps.all (· < 0x110000) = true
def spCheck (CI : Addr) : Sp := fun vs H Q E => ∃ (a : Addr) (ws : List V) (xs : List Stay), vs = [.ref a, .int 24] ∧ H a = some (.tup ws) ∧ StaysV H ws xs ∧ Short xs ∧ xs.length ≤ sizeLine ∧
  (firstBad xs = none → ∀ H', Same H H' → Q .non H') ∧
  ∀ i, firstBad xs = some i → ∀ (H' : Hp) (d : Addr), Same H H' → H d = none → H' d = some (.xd [(("index" : Str), .int (i : Nat))]) → E (.ref CI) (some d) H'
theorem scCheck : FnScope ["stays", "most", "names", "index", "name", "come", "go"] ["stays", "most"] (defScope sCheck) := ⟨rfl, rfl, rfl, by decide +kernel, rfl, by decide +kernel, by decide +kernel⟩
theorem ok_check {f fS CI : Addr} {fd fdS : FuncData} (F : Fun K "_check_stays" "_check_stays" sCheck f fd) (B : Blt mg) (EC : ErrC P K mg "InvalidStay" "index" nfInv CI)
    (GS : FnOk P w K mg base CX0 3 fS fdS ["name", "come", "go"] spIsStay) (mS : mg "is_stay" = some (.ref fS)) (kS : PySem.W.keepIn K (.ref fS) = true) (bS : Binds K fdS ["name", "come", "go"] []) :
    FnOk P w K mg base (L2.CX P w) 4 f fd ["stays", "most"] (spCheck CI) := by
  refine F.okX scCheck (fun vs H Q E h => ?_) (fun cdv A outer s H vs Q E hr h => ?_)
  · obtain ⟨a, ws, xs, rfl, _⟩ := h
    rfl
  · obtain ⟨a, ws, xs, rfl, ha, hxs, hsh, hz, kOk, kBad⟩ := h
    have nd := scCheck.nd
    refine ⟨_, pss_cons (ps_set (i := 2) nd rfl (Or.inl rfl) (pe_lst pa_nil)) (pss_one (ps_for (passes_of rfl) rfl (pi_enumT (by rfl) B.enum (pa_cons (pv 0) pa_nil))
      (pg_tup rfl (pgs_cons (pg_name (i := 3) nd rfl (Or.inl rfl)) (pgs_cons (pg_tup rfl (pgs_cons (pg_name (i := 4) nd rfl (Or.inl rfl)) (pgs_cons (pg_name (i := 5) nd rfl (Or.inl rfl)) (pgs_cons (pg_name (i := 6) nd rfl (Or.inl rfl)) pgs_nil)))) pgs_nil)))
      (pss_cons (ps_if (PW.pt (pw_or (pt_cmpR op_eq (pv 3) (pv 1) (nomark _)) (pw_or (pt_cmpR op_in_seq (pv 4) (pv 2) rfl) (pw_or1 (pt_not (pt_val (pe_call GS hr rfl mS kS bS .nil pass0 (pa_cons (pv 4) (pa_cons (pv 5) (pa_cons (pv 6) pa_nil))))))))))
          (pss_one (ps_raise rfl (takes_of rfl rfl rfl rfl) (pmk_inv (k := 0) EC (hr.mono (by decide)) passL (by rfl) (pk_cons (pv 3) pk_nil) rfl rfl rfl))) pss_nil)
        (pss_one (ps_expr (pe_bm PySem.F.plainAttrs_list PySem.F.slot_list_append PySem.F.type_list_append mt_append (pv 2) (pa_cons (pv 4) pa_nil))))))), ?_⟩
    refine ⟨Nat.zero_le _, fun L hL => ?_⟩
    have s1 : Same H (upd H L (.lst [])) := fun b o e => by rw [upd_ne (ne_of_none e hL)]; exact e
    refine ⟨_, rfl, a, ws, rfl, SqT.of (s1 _ _ ha), for_it walk_enumT (fun i σ H2 => ∃ o3 o4 o5 o6, σ = [some (.ref a), some (.int 24), some (.ref L), o3, o4, o5, o6] ∧ Same H H2 ∧
      H2 L = some (.lst ((xs.take i).map fun x => .str x.1)) ∧ firstBadFrom i ((xs.take i).map fun x => x.1) (xs.drop i) = firstBad xs)
      ⟨none, none, none, none, rfl, s1, upd_same, rfl⟩ (fun i σ H2 _ ⟨_, _, _, _, _, s2, _⟩ => SqT.of (s2 _ _ ha)) ?_ ?_⟩
    · rintro i y σ H2 H3 hi ⟨o3, o4, o5, o6, rfl, s2, hL2, hb⟩ ⟨T, y1, y2, rfl, hT, rfl, e1, e2⟩
      cases e1
      obtain ⟨x, hx, t, rfl, ht⟩ := pair_get hxs e2
      have s3 : Same H2 (upd H2 T (.tup [.int (i : Nat), .ref t])) := fun b o e => by rw [upd_ne (ne_of_none e hT)]; exact e
      have hx1 : x.1.length ≤ 100000 := (hsh x (List.mem_of_getElem? hx)).1
      refine ⟨T, _, rfl, SqT.of upd_same, rfl, _, _, rfl, _, _, rfl, t, _, rfl, SqT.of (s3 _ _ (s2 _ _ ht)), rfl, _, _, rfl, _, _, rfl, _, _, rfl, rfl, rfl, ?_⟩
      have hL3 := s3 _ _ hL2
      refine ans_or (decide ((i : Int) = 24)) (((xs.take i).map fun x => x.1).any (fun y => y == x.1) || !okStay x.1 x.2.1 x.2.2) (fun R h => ⟨_, rfl, _, rfl, rfl, _, rfl, ?_⟩) (fun H4 s4 _ R h => ?_) fun H4 s4 => ?_
      · have e : decide (V.int (i : Int) = V.int 24) = decide ((i : Int) = 24) := by
          rw [dec_int]
          rfl
        rw [e]
        exact h _ (Same.refl _)
      · refine ans_or _ _ (fun R h => ⟨_, rfl, _, rfl, L, _, rfl, .inl (SqL.of (s4 _ _ hL3)), rfl, ?_, _, rfl, ?_⟩) (fun H5 s5 _ R h => ⟨_, rfl, _, rfl, _, rfl, x.1, x.2.1, x.2.2, rfl, Nat.le_trans hx1 (by decide), fun H6 s6 => ⟨_, rfl, h _ s6⟩⟩) h
        · have e : (xs.take i).map (fun x => V.str x.1) = ((xs.take i).map fun x => x.1).map V.str := by
            rw [List.map_map]
            rfl
          rw [e]
          exact flat_strs _
        · have e : (xs.take i).map (fun x => V.str x.1) = ((xs.take i).map fun x => x.1).map V.str := by
            rw [List.map_map]
            rfl
          rw [e, if_neg Bool.false_ne_true, inV_strs]
          exact h _ (Same.refl _)
      · have hdrop : xs.drop i = x :: xs.drop (i + 1) := by
          have lt := (List.getElem?_eq_some_iff.mp hx)
          obtain ⟨lt, e⟩ := lt
          rw [List.drop_eq_getElem_cons lt, e]
        rw [hdrop] at hb
        unfold firstBadFrom at hb
        have s24 : Same H H4 := (s2.trans s3).trans s4
        by_cases hbad : badStay i ((xs.take i).map fun x => x.1) x = true
        · rw [if_pos hbad] at hb
          have e : (decide ((i : Int) = 24) || (((xs.take i).map fun x => x.1).any (fun y => y == x.1) || !okStay x.1 x.2.1 x.2.2)) = true := hbad
          rw [e]
          refine iteT ⟨_, rfl, _, rfl, .inr ⟨_, rfl, ?_⟩, fun d hd => ?_⟩
          · have lt : i < xs.length := (List.getElem?_eq_some_iff.mp hx).1
            exact log_small (Nat.le_trans (Nat.le_of_lt lt) hz)
          · refine kBad i hb.symm _ d (fun b o z => ?_) (s24.free hd) upd_same
            rw [upd_ne (ne_of_none (s24 _ _ z) hd)]
            exact s24 _ _ z
        · rw [if_neg hbad] at hb
          have e : (decide ((i : Int) = 24) || (((xs.take i).map fun x => x.1).any (fun y => y == x.1) || !okStay x.1 x.2.1 x.2.2)) = false := Bool.eq_false_iff.mpr hbad
          rw [e]
          have hL4 := s4 _ _ hL3
          refine iteF ⟨_, rfl, .inl ⟨rfl, _, SqL.of hL4⟩, _, rfl, L, _, _, rfl, rfl, hL4, ?_, ?_⟩
          · rw [List.length_map, List.length_take]
            have : i < ws.length := hi
            have := pair_len hxs
            omega
          · have take1 : xs.take (i + 1) = xs.take i ++ [x] := by rw [List.take_add_one, hx]; rfl
            refine ⟨_, _, _, _, rfl, fun b o z => ?_, ?_, ?_⟩
            · rw [upd_ne (ne_of_none z hL)]
              exact s24 _ _ z
            · rw [upd_same, take1, List.map_append]
              rfl
            · rw [take1, List.map_append]
              exact hb
    · rintro σ H2 ⟨o3, o4, o5, o6, rfl, s2, hL2, hb⟩
      refine kOk ?_ _ s2
      rw [← hb, pair_len hxs, List.drop_length]
      rfl
end
end Sh1
set_option Elab.async false
set_option linter.all false
set_option maxRecDepth 100000
set_option maxHeartbeats 2000000
namespace Sh1
open PySem L2 Sho NdefX
/-- a Party of the stays xs stands at p -/
def PartyAt (C : Addr) (H : Hp) (p : Addr) (xs : List Stay) : Prop := ∃ dx a ws, H p = some (.ins C dx [(("_stays" : Str), .ref a)]) ∧ H a = some (.tup ws) ∧ StaysV H ws xs
theorem PartyAt.same {C : Addr} {H H' : Hp} {p : Addr} {xs : List Stay} (s : Same H H') (h : PartyAt C H p xs) : PartyAt C H' p xs := by
  obtain ⟨dx, a, ws, h1, h2, h3⟩ := h
  exact ⟨dx, a, ws, s _ _ h1, s _ _ h2, h3.same s⟩
theorem lk_stays (a : V) : List.lookup ("_stays" : Str) [(("_stays" : Str), a)] = some a := by simp [List.lookup]
theorem no_max (a : V) : List.lookup ("MAX_GUESTS" : Str) [(("_stays" : Str), a)] = none := by
  have e : (("MAX_GUESTS" : Str) == ("_stays" : Str)) = false := by decide +kernel
  simp [List.lookup, e]
/-- what the written part says of the class -/
structure PartyC (K : PySem.W.Frag) (mg : Str → Option Value) (C : Addr) : Prop where
  gm : mg "Party" = some (.ref C)
  cl : Cls K C
  nS : NoAttr K C "_stays"
  max : ∃ t, Con K C "MAX_GUESTS" (.int 24) (.int 24 t)
  ca : PySem.W.findIn K (.ref C) "__class__" = some (some (.builtin "object.__class__"))
  cn : PySem.W.specialIn K (.builtin "object.__class__") "__get__" = some (some (.builtin "getset_descriptor.__get__"))
  ct : PySem.W.takesIn K (.builtin "object.__class__") = some true
  mo : PySem.W.mroIn K C (.type "object") = some true
  kS : PySem.W.kitOne K (.ref C) (.ref C) = some true
  kT : PySem.W.kitOne K (.type "tuple") (.ref C) = some false
  sT : PySem.W.subIn K (.type "tuple") (.ref C) = some false
section
variable {P : Program} {w : World} {K : PySem.W.Frag} {mg : Str → Option Value} {base : Heap}
/-! ### Party.__init__ -/
def spPInit (C CI : Addr) : Sp := fun vs H Q E => ∃ (x dx a : Addr) (ws : List V) (xs : List Stay), vs = [.ref x, .ref a] ∧ H x = some (.ins C dx []) ∧ H a = some (.tup ws) ∧ StaysV H ws xs ∧ Short xs ∧ xs.length ≤ sizeLine ∧
  (firstBad xs = none → ∀ H', H' x = some (.ins C dx [(("_stays" : Str), .ref a)]) → (∀ b o, H b = some o → b ≠ x → H' b = some o) → Q .non H') ∧
  ∀ i, firstBad xs = some i → ∀ (H' : Hp) (d : Addr), Same H H' → H d = none → H' d = some (.xd [(("index" : Str), .int (i : Nat))]) → E (.ref CI) (some d) H'
theorem scPInit : FnScope ["self", "stays"] ["self", "stays"] (defScope sPInit) := ⟨rfl, rfl, rfl, by decide +kernel, rfl, by decide +kernel, by decide +kernel⟩
/-- a def of the class with a star parameter -/
structure FunS (K : PySem.W.Frag) (x qual : Str) (st : Stmt) (f : Addr) : Prop where
  ex : ∃ (oc : Value) (od : Option Addr) (doc pm : Value) (an : Option Addr) (cdv ct : Value) (osl : Array (Option Value)),
    K.lookup f = some ⟨oc, od, .func (PySem.W.fnOf x qual (defArgs st) (defBody st) (defScope st) .none .none doc pm an cdv ct), osl⟩ ∧ PySem.W.codeIn K cdv qual = true
theorem ok_pinit {f C CI fC : Addr} {fdC : FuncData} (F : FunS K "__init__" "Party.__init__" sPInit f) (PC : PartyC K mg C)
    (GC : FnOk P w K mg base (L2.CX P w) 4 fC fdC ["stays", "most"] (spCheck CI)) (mC : mg "_check_stays" = some (.ref fC)) (kC : PySem.W.keepIn K (.ref fC) = true) (bC : Binds K fdC ["stays", "most"] []) :
    FnR P w K mg base (L2.CX P w) 5 f (fun vs H Q E => ∃ ws rest, vs = ws ++ rest ∧ ws.length = (["self"] : List Str).length ∧ rest.length ≤ sizeLine ∧ ∀ p, H p = none → spPInit C CI (ws ++ [V.ref p]) (upd H p (.tup rest)) Q E) := by
  obtain ⟨oc, od, doc, pm, an, cdv, ct, osl, lk, hcd⟩ := F.ex
  refine StX.fn_star (ps := ["self"]) (pv := "stays") lk hcd scPInit StX.cxUp (StX.bind_star1 (B := fun us => bindArgs (PySem.W.fnOf "__init__" "Party.__init__" (defArgs sPInit) (defBody sPInit) (defScope sPInit) .none .none doc pm an cdv ct) ⟨us, []⟩) (p1 := "self") (pv := "stays") (fun a => rfl) fun a r rs => rfl) fun A outer s H vs Q E hr h => ?_
  obtain ⟨x, dx, a, ws, xs, rfl, hx, ha, hxs, hsh, hz, kOk, kBad⟩ := h
  obtain ⟨t24, c24⟩ := PC.max
  refine ⟨_, pss_cons (ps_expr (pe_call GC hr rfl mC kC bC .nil (passes_call (takes_of rfl rfl rfl rfl) fun _ _ _ _ z => z) (pa_cons (pv 1) (pa_cons (pe_con (pv 0) rfl) pa_nil)))) (pss_one (ps_fld (pv 0) (pv 1) rfl)), ?_⟩
  refine ⟨_, rfl, _, rfl, x, C, dx, [], .int 24, _, rfl, hx, PC.cl, c24, rfl, a, ws, xs, rfl, ha, hxs, hsh, hz, fun ok H' s' => ?_, kBad⟩
  refine ⟨_, rfl, _, rfl, x, C, dx, [], rfl, s' _ _ hx, PC.cl, PC.nS, by decide, ?_⟩
  exact kOk ok _ upd_same fun b o e hb => by rw [upd_ne hb]; exact s' _ _ e
abbrev spPNew (C CI : Addr) : Sp := fun vs H Q E => ∃ ws rest, vs = ws ++ rest ∧ ws.length = (["self"] : List Str).length ∧ rest.length ≤ sizeLine ∧ ∀ p, H p = none → spPInit C CI (ws ++ [V.ref p]) (upd H p (.tup rest)) Q E
/-- a new Party of these stays, or the error of the first invalid one -/
theorem party_new {C CI : Addr} {H : Hp} {Q : VK} {E : XK} {ys : List V} {xs : List Stay} (hxs : StaysV H ys xs) (hsh : Short xs) (hz : ys.length ≤ sizeLine)
    (ok : firstBad xs = none → ∀ (p : Addr) (H' : Hp), Same H H' → H p = none → PartyAt C H' p xs → Q (.ref p) H')
    (bad : ∀ i, firstBad xs = some i → ∀ (H' : Hp) (d : Addr), Same H H' → H d = none → H' d = some (.xd [(("index" : Str), .int (i : Nat))]) → E (.ref CI) (some d) H') :
    ∀ x dx, H x = none → H dx = none → dx ≠ x → spPNew C CI (V.ref x :: ys) (upd (upd H dx (.own x)) x (.ins C dx [])) (fun v H2 => v = .non ∧ Q (.ref x) H2) E := by
  intro x dx hx hdx ne
  refine ⟨[.ref x], ys, rfl, rfl, hz, fun p hp => ?_⟩
  have px : p ≠ x := fun z => by
    rw [z, upd_same] at hp
    cases hp
  have hp0 : H p = none := by
    rw [upd_ne px] at hp
    by_cases pd : p = dx
    · rw [pd]
      exact hdx
    · rw [upd_ne pd] at hp
      exact hp
  have pd : p ≠ dx := fun z => by
    rw [upd_ne px, z, upd_same] at hp
    cases hp
  have same : Same H (upd (upd (upd H dx (.own x)) x (.ins C dx [])) p (.tup ys)) := fun b o e => by
    rw [upd_ne (ne_of_none e hp0), upd_ne (ne_of_none e hx), upd_ne (ne_of_none e hdx)]
    exact e
  refine ⟨x, dx, p, ys, xs, rfl, by rw [upd_ne (Ne.symm px), upd_same], upd_same, hxs.same same, hsh, by rw [← pair_len hxs]; exact hz, fun h0 H' h1 h2 => ⟨rfl, ?_⟩, fun i hi H' d s' hd e => ?_⟩
  · have s2 : Same H H' := fun b o e => h2 b o (same b o e) (ne_of_none e hx)
    exact ok h0 x H' s2 hx ⟨dx, p, ys, h1, h2 _ _ upd_same px, hxs.same s2⟩
  · exact bad i hi H' d (same.trans s') (same.free hd) e
/-! ### the properties -/
theorem scPStays : FnScope ["self"] ["self"] (defScope sPStays) := ⟨rfl, rfl, rfl, by decide +kernel, rfl, by decide +kernel, by decide +kernel⟩
theorem ok_pstays {f C : Addr} {fd : FuncData} (F : Fun K "stays" "Party.stays" sPStays f fd) (PC : PartyC K mg C) : FnOk P w K mg base CX0 1 f fd ["self"] (getSp C "_stays") := by
  refine F.ok scPStays (fun vs H Q E h => ?_) (fun cdv A outer s H vs Q E hr h => ?_)
  · obtain ⟨a, dx, fs, v, rfl, _⟩ := h
    rfl
  · obtain ⟨a, dx, fs, v, rfl, h1, h2, k⟩ := h
    refine ⟨_, pss_one (ps_ret (pe_fld (pv 0) rfl)), _, rfl, a, C, dx, fs, v, rfl, h1, PC.cl, PC.nS, h2, k⟩
def spPNames (C : Addr) : Sp := fun vs H Q _ => ∃ (p : Addr) (xs : List Stay), vs = [.ref p] ∧ PartyAt C H p xs ∧ xs.length ≤ sizeLine ∧ ∀ H' t, Same H H' → H t = none → H' t = some (.tup (xs.map fun x => .str x.1)) → Q (.ref t) H'
theorem scPNames : FnScope ["self", "name", "come", "go"] ["self"] (defScope sPNames) := ⟨rfl, rfl, rfl, by decide +kernel, rfl, by decide +kernel, by decide +kernel⟩
theorem ok_pnames {f C : Addr} {fd : FuncData} (F : Fun K "names" "Party.names" sPNames f fd) (B : Blt mg) (PC : PartyC K mg C) : FnOk P w K mg base CX0 1 f fd ["self"] (spPNames C) := by
  refine F.ok scPNames (fun vs H Q E h => ?_) (fun cdv A outer s H vs Q E hr h => ?_)
  · obtain ⟨p, xs, rfl, _⟩ := h
    rfl
  · obtain ⟨p, xs, rfl, ⟨dx, a, ws, h1, h2, h3⟩, hz, k⟩ := h
    have nd := scPNames.nd
    refine ⟨_, pss_one (ps_ret (pe_callTy call_tuple_of (by rfl) B.tuple (by decide +kernel) (pa_cons (pe_lc (own := [("name", 1), ("come", 2), ("go", 3)]) (g := gTup K 3 (gCons (gName 1) (gCons (gName 2) (gCons (gName 3) gNil)))) (tt := tYes) rfl nd
      (pi_tup (pe_fld (pv 0) rfl)) (blkOk_by (own := [("name", 1), ("come", 2), ("go", 3)]) (N := ["self", "name", "come", "go"]) (sc := defScope sPNames) (by decide +kernel))
      (fun _ _ _ _ _ => pg_tup rfl (pgs_cons (pg_name (i := 1) nd rfl (Or.inl rfl)) (pgs_cons (pg_name (i := 2) nd rfl (Or.inl rfl)) (pgs_cons (pg_name (i := 3) nd rfl (Or.inl rfl)) pgs_nil))))
      (fun _ _ _ _ _ => pts_nil) (fun _ _ _ _ _ => pv 1)) pa_nil))), ?_⟩
    refine ⟨_, rfl, p, C, dx, _, .ref a, rfl, h1, PC.cl, PC.nS, lk_stays _, a, rfl, ⟨_, SqT.of h2⟩, fun D hD => ?_⟩
    refine lc_map walk_tup (fun i => (xs[i]?).map fun x => .str x.1) hD (by rw [pair_len h3]; exact hz) (fun H1 s1 => SqT.of (s1 _ _ h2)) (fun i x H1 H' hi s1 y R k1 => ?_) (fun i hi => ⟨_, by rw [List.getElem?_eq_getElem (by rw [← pair_len h3]; exact hi)]; rfl⟩) fun H1 s1 e1 => ?_
    · obtain ⟨rfl, e2⟩ := y
      obtain ⟨z, hz2, t, rfl, ht⟩ := pair_get h3 e2
      refine ⟨t, _, rfl, SqT.of (s1 _ _ ht), rfl, _, _, rfl, _, _, rfl, _, _, rfl, rfl, rfl, _, rfl, ?_⟩
      exact k1 _ _ (Same.refl _) (by rw [hz2]; rfl)
    · rw [pair_len h3, gather_map xs fun x => V.str x.1] at e1
      refine ⟨D, _, rfl, .inl ⟨SqL.of e1, fun l hl => ?_⟩⟩
      refine k _ l (fun b o e => ?_) (s1.free hl) upd_same
      rw [upd_ne (ne_of_none (s1 _ _ e) hl)]
      exact s1 _ _ e
end
end Sh1
set_option Elab.async false
set_option linter.all false
set_option maxRecDepth 100000
set_option maxHeartbeats 2000000
namespace Sh1
open PySem L2 Sho NdefX He Shh
/-! Facts of the head about Party, InvalidStay, UnknownGuest. -/
section
variable {K : Shh.Fr} {h : Heap} {mg : Str → Option Value}
def cvalB (K : Shh.Fr) (C : Addr) (f : Str) (i : Int) : Bool := match PySem.W.findCls K (.ref C) (.type "type") f with
  | some (.val (.int j _)) => decide (j = i)
  | _ => false
theorem cvalB_ok {C : Addr} {f : Str} {i : Int} (c : cvalB K C f i = true) : ∃ u, ClX.CVal K C (.type "type") f (.int i) u := by
  unfold cvalB at c
  split at c
  · rename_i j t e
    rw [of_decide_eq_true c] at e
    exact ⟨_, e, ⟨_, rfl⟩⟩
  · cases c
def partyB (K : Shh.Fr) (C : Addr) : Bool := PySem.W.plainGet K C Str.empty && (PySem.W.hasDictIn K C && (PySem.W.plainOver K C && (eqO (PySem.W.findIn K (.ref C) "__setattr__") (some (some (.builtin "object.__setattr__"))) &&
  (eqO (PySem.W.findIn K (.ref C) "_stays") (some none) && (conB K "Party" "MAX_GUESTS" (.int 24) && (eqO (PySem.W.findIn K (.ref C) "__class__") (some (some (.builtin "object.__class__"))) &&
  (eqO (PySem.W.specialIn K (.builtin "object.__class__") "__get__") (some (some (.builtin "getset_descriptor.__get__"))) && (decide (PySem.W.takesIn K (.builtin "object.__class__") = some true) && (decide (PySem.W.mroIn K C (.type "object") = some true) &&
  (decide (PySem.W.kitOne K (.ref C) (.ref C) = some true) && (decide (PySem.W.kitOne K (.type "tuple") (.ref C) = some false) && (decide (PySem.W.subIn K (.type "tuple") (.ref C) = some false) && (PySem.W.selfFirst K C && (PySem.W.makesIn K C && (PySem.W.keepIn K (.ref C) &&
  (PySem.W.readsIn K C (.type "type") && (eqO (PySem.W.specialIn K (.ref C) "__getattribute__") (some (some (.builtin "type.__getattribute__"))) && cvalB K C "MAX_GUESTS" 24)))))))))))))))))
structure PartyF (K : Shh.Fr) (mg : Str → Option Value) (C : Addr) : Prop where
  pc : PartyC K mg C
  self : PySem.W.selfFirst K C = true
  makes : PySem.W.makesIn K C = true
  kp : PySem.W.keepIn K (.ref C) = true
  rd : ClX.CRead K C (.type "type")
  mx : ∃ u, ClX.CVal K C (.type "type") "MAX_GUESTS" (.int 24) u
theorem partyB_ok (gm : mg "Party" = some (.ref (ga K "Party"))) (c : partyB K (ga K "Party") = true) : PartyF K mg (ga K "Party") := by
  obtain ⟨c1, c⟩ := ba c
  obtain ⟨c2, c⟩ := ba c
  obtain ⟨c3, c⟩ := ba c
  obtain ⟨c4, c⟩ := ba c
  obtain ⟨c5, c⟩ := ba c
  obtain ⟨c6, c⟩ := ba c
  obtain ⟨c7, c⟩ := ba c
  obtain ⟨c8, c⟩ := ba c
  obtain ⟨c9, c⟩ := ba c
  obtain ⟨c10, c⟩ := ba c
  obtain ⟨c11, c⟩ := ba c
  obtain ⟨c12, c⟩ := ba c
  obtain ⟨c13, c⟩ := ba c
  obtain ⟨c14, c⟩ := ba c
  obtain ⟨c15, c⟩ := ba c
  obtain ⟨c16, c⟩ := ba c
  obtain ⟨c17, c⟩ := ba c
  obtain ⟨c18, c19⟩ := ba c
  have mx : ∃ t, Con K (ga K "Party") "MAX_GUESTS" (.int 24) (.int 24 t) := by
    obtain ⟨u, q⟩ := conB_ok c6 (by decide)
    obtain ⟨t, e⟩ : ∃ t, u = .int 24 t := by
      have r := q.rel
      cases u with
      | int j t =>
        obtain ⟨t', e⟩ := (show ∃ t', Value.int j t = .int 24 t' from r)
        exact ⟨t', e⟩
      | _ =>
        obtain ⟨t', e⟩ := r
        cases e
    rw [e] at q
    exact ⟨t, q⟩
  exact ⟨⟨gm, ⟨c1, c2, c3, eqO_ok c4⟩, eqO_ok c5, mx, eqO_ok c7, eqO_ok c8, of_decide_eq_true c9, of_decide_eq_true c10, of_decide_eq_true c11, of_decide_eq_true c12, of_decide_eq_true c13⟩, c14, c15, c16, ⟨c17, eqO_ok c18⟩, cvalB_ok c19⟩
/-! ### InvalidStay, UnknownGuest -/
abbrev aInv (K : Shh.Fr) : Addr := ga K "InvalidStay"
abbrev aUnk (K : Shh.Fr) : Addr := ga K "UnknownGuest"
abbrev dnErr (x : Str) (qual : Str) (st : Stmt) : Dn := ⟨fun K => eInit K x, "__init__", qual, st, fun K => [(("__class__" : Str), cellA K (eInit K x))]⟩
theorem errC_inv {P : Program} (E : ErrF "/claim/cut.py" K "InvalidStay" "index") (D : FunF K "__init__" "InvalidStay.__init__" sInvInit [(("__class__" : Str), cellA K (eInit K "InvalidStay"))] (eInit K "InvalidStay")) (hf : P.main.file = "/claim/cut.py") (sup : mg "super" = none)
    (h2 : (P.main.scope.names.lookup ("super" : Str)).isSome = false) (gm : mg "InvalidStay" = some (.ref (aInv K))) : ErrC P K mg "InvalidStay" "index" nfInv (aInv K) :=
  ⟨⟨_, _, _, err_txt E D hf sup ⟨_, rfl, rfl⟩ h2 (by decide +kernel) (by decide +kernel) (by decide +kernel), E.ini, E.ity⟩, E.sup, E.xf, E.no, gm, E.exm⟩
theorem errC_unk {P : Program} (E : ErrF "/claim/cut.py" K "UnknownGuest" "name") (D : FunF K "__init__" "UnknownGuest.__init__" sUnkInit [(("__class__" : Str), cellA K (eInit K "UnknownGuest"))] (eInit K "UnknownGuest")) (hf : P.main.file = "/claim/cut.py") (sup : mg "super" = none)
    (h2 : (P.main.scope.names.lookup ("super" : Str)).isSome = false) (gm : mg "UnknownGuest" = some (.ref (aUnk K))) : ErrC P K mg "UnknownGuest" "name" nfUnk (aUnk K) :=
  ⟨⟨_, _, _, err_txt E D hf sup ⟨_, rfl, rfl⟩ h2 (by decide +kernel) (by decide +kernel) (by decide +kernel), E.ini, E.ity⟩, E.sup, E.xf, E.no, gm, E.exm⟩
end
end Sh1
set_option Elab.async false
set_option linter.all false
set_option maxRecDepth 100000
set_option maxHeartbeats 2000000
/-! bool(x), len(x), x[i], x == y of own instances by promises. -/
namespace ShB
open PySem
theorem meets_bool {prog : Program} {w : World} (v : Value) :
    MeetsIn prog w (Builtin.«bool.__new__» ⟨[.type "bool", v], []⟩) (fun A R s => wpAny (model prog w) A.in1 (truthy v) (fun b s' => R (.ok (.ret (.bool b))) s') (fun e s' => R (.error e) s') s) := by
  intro A R s h
  obtain ⟨hp, g, d, tk, os⟩ := s
  have f1 := F.conv_sub_bool
  unfold Builtin.«bool.__new__»
  repeat (any_goals (first | assumption | (with_reducible refine wpAny_mono h (fun b s' z => ?_) fun _ _ z => z) | wp_step))
  all_goals first | exact ⟨_, rfl, z⟩ | exact z | skip
theorem call_boolT {prog : Program} {w : World} {A : Around} {E : Value → Shared → Prop} {s : Shared} {v : Value} {Q : Value → Shared → Prop}
    (h : wpAny (model prog w) A.in1.in1 (truthy v) (fun b s' => Q (.bool b) s') E s) : wpAny (model prog w) A (call (.type "bool") [v]) Q E s :=
  callType_newIn F.called_bool F.newNe_bool (F.typeCall_bool_1 v) (F.newCall_bool_1 v) (fun obj => F.args_object_init_2 obj v) F.entry_bool_new (meets_bool v)
    (wpAny_mono h (fun b s' z => ⟨by rfl, z⟩) fun _ _ z => z)
end ShB

namespace Sho
open PySem PySem.Spec PyProof.Rows L2 StX
section
variable {X : Cx} {CX : CXT} {k : Nat} {f C : Addr} {sp : Sp} {E : XK}
/-- a promise, run around A (which bears the frames of X) -/
theorem run_at {A : Around} {pins : List (Addr × Obj)} {σ : L2.St} {H : Hp} {s : Shared} {Q : VK} {us : List Value} {vs : List V} (F : FnR X.prog X.w X.K X.mg X.base CX k f sp) (hr : Room k A) (e0 : Env0 X.prog X.w X.K X.mg X.base A X.stack s H) (hx : Passes CX X E)
    (I : Inv X pins σ H s) (r : Vals vs us) (h : sp vs H Q E) : wpAny (model X.prog X.w) A (call (.ref f) us) (EP X pins σ Q) X.xe s := by
  refine wpAny_call (codeAny_mono (F A X.stack s H us vs Q E hr e0 r h) fun r s' hq => ?_)
  cases r with
  | error e => exact hx pins σ H s e s' I hq
  | ok fl =>
    cases fl with
    | ret u => exact I.after hq
    | next => exact hq.elim
    | brk => exact hq.elim
    | cont => exact hq.elim
theorem inst_of {pins : List (Addr × Obj)} {σ : L2.St} {H : Hp} {s : Shared} {a : Addr} (I : Inv X pins σ H s) (h : InsAt H a C) : ∃ ox od, PySem.W.InstAt s.heap a ox C od := by
  obtain ⟨dx, fs, h⟩ := h
  obtain ⟨mA, J, _⟩ := ins_get I.hok h
  obtain ⟨od, J, _⟩ := J.look
  exact ⟨_, _, J⟩
/-- len(a), a's own __len__ -/
def rLenO (C : Addr) (sp : Sp) (E : XK) : List V → Hp → VK → Prop := fun xs H Q => ∃ a, xs = [.ref a] ∧ InsAt H a C ∧ sp [.ref a] H (fun r H' => ∃ n : Int, r = .int n ∧ 0 ≤ n ∧ n < 2 ^ 63 ∧ Q (.int n) H') E
theorem call_lenO (F : FnR X.prog X.w X.K X.mg X.base CX k f sp) (hr : Room (k + 1) X.A) (hx : Passes CX X E) (hs : PySem.W.findIn X.K (.ref C) "__len__" = some (some (.ref f))) (hf : PySem.W.isFn X.K (.ref f) = true) :
    CallR X (.builtin "len") (rLenO C sp E) := by
  rintro pins s σ H xs us Q I r ⟨a, rfl, ha, h⟩
  obtain rfl := Vals.ref1 r
  obtain ⟨ox, od, J⟩ := inst_of I ha
  obtain ⟨m, hF⟩ := I.fr
  refine PySem.W.len_K hF I.ok.mod.kin J hs hf (thn (run_at (vs := [.ref a]) F hr.in1 I.env0.in1 hx I (.cons rfl .nil) h) fun u s' q => ?_)
  obtain ⟨v, H', I', rv, n, rfl, n0, n1, q⟩ := q
  obtain ⟨t, rfl⟩ := rv
  exact ⟨⟨n0, n1⟩, .int n, H', I'.tok _, ⟨_, rfl⟩, q⟩
/-- bool(a), a's own __bool__ -/
def rBoolO (C : Addr) (sp : Sp) (E : XK) : List V → Hp → VK → Prop := fun xs H Q => ∃ a, xs = [.ref a] ∧ InsAt H a C ∧ sp [.ref a] H (fun r H' => ∃ b : Bool, r = .bl b ∧ Q (.bl b) H') E
theorem call_boolO (F : FnR X.prog X.w X.K X.mg X.base CX k f sp) (hr : Room (k + 2) X.A) (hx : Passes CX X E) (hs : PySem.W.findIn X.K (.ref C) "__bool__" = some (some (.ref f))) (hf : PySem.W.isFn X.K (.ref f) = true) :
    CallR X (.type "bool") (rBoolO C sp E) := by
  rintro pins s σ H xs us Q I r ⟨a, rfl, ha, h⟩
  obtain rfl := Vals.ref1 r
  obtain ⟨ox, od, J⟩ := inst_of I ha
  obtain ⟨m, hF⟩ := I.fr
  refine ShB.call_boolT (PySem.W.truthy_K hF I.ok.mod.kin J hs hf (thn (run_at (vs := [.ref a]) F hr.in1.in1 I.env0.in1.in1 hx I (.cons rfl .nil) h) fun u s' q => ?_))
  obtain ⟨v, H', I', rv, b, rfl, q⟩ := q
  cases rv
  exact ⟨.bl b, H', I', rfl, q⟩
/-- bool(a tuple) -/
theorem call_boolTup : CallR X (.type "bool") (fun xs H Q => ∃ (a : Addr) (zs : List V), xs = [.ref a] ∧ SqT X.K H a zs ∧ Q (.bl (!zs.isEmpty)) H) := by
  rintro pins s σ H xs us Q I r ⟨a, zs, rfl, hq, q⟩
  obtain rfl := Vals.ref1 r
  obtain ⟨its, rv, pl, hz⟩ := I.tuple hq
  have hl := line63
  have hlen := rv.length
  refine ShB.call_boolT (truthy_tuple pl (by simp only [List.size_toArray]; omega) ?_)
  exact ⟨.bl (!zs.isEmpty), H, I.tok _, by rw [isEmpty_of rv]; rfl, q⟩
/-- a[i], a's own __getitem__ -/
theorem pe_ixO {ea eb : Expr} {ta tb : TE} {pos : Pos} (F : FnR X.prog X.w X.K X.mg X.base CX k f sp) (hr : Room (k + 1) X.A) (hx : Passes CX X E) (hs : PySem.W.findIn X.K (.ref C) "__getitem__" = some (some (.ref f))) (hfn : PySem.W.fnIn X.K f = true) (hf : PySem.W.isFn X.K (.ref f) = true)
    (ha : PE X ea ta) (hb : PE X eb tb) (hsl : ∀ (a : Addr) (u : Value), subscripted eb true (.ref a) u = runValue (.builtin "lifetime.subscript" ⟨[.ref a, u], []⟩)) : PE X (.Subscript ea eb pos) (tOp (rOwnIx C sp E) ta tb) := by
  refine ⟨fun pins s σ H Q I h => ?_⟩
  refine Subscript_ (binT ha hb I h fun v u s2 x y H2 I2 rx ry q => ?_)
  obtain ⟨a, rfl, hi, h2⟩ := q
  cases rx
  obtain ⟨ox, od, J⟩ := inst_of I2 hi
  obtain ⟨m, hF⟩ := I2.fr
  exact PySem.W.sub_K hF I2.ok.mod.kin J hs hfn hf (run_at (vs := [.ref a, y]) F hr.in1 I2.env0.in1 hx I2 (.cons rfl (.cons ry .nil)) h2) (hsl a u)
/-- a == y, a's own __eq__; y of the own class, or of a built-in type -/
def TyEq (K : PySem.W.Frag) (H : Hp) (C : Addr) (y : V) : Prop := (∃ b, y = .ref b ∧ InsAt H b C) ∨ ∃ (b : Addr) (zs : List V), y = .ref b ∧ SqT K H b zs ∧ PySem.W.subIn K (.type "tuple") (.ref C) = some false
def rOwnEq (K : PySem.W.Frag) (C : Addr) (sp : Sp) (E : XK) : R2 := fun x y H Q => ∃ a, x = .ref a ∧ InsAt H a C ∧ TyEq K H C y ∧ sp [.ref a, y] H (fun r H' => ∃ b : Bool, r = .bl b ∧ Q (.bl b) H') E
theorem op_ownEq (F : FnR X.prog X.w X.K X.mg X.base CX k f sp) (hr : Room k X.A) (hx : Passes CX X E) (hs : PySem.W.findIn X.K (.ref C) "__eq__" = some (some (.ref f))) (hf : PySem.W.isFn X.K (.ref f) = true) :
    OpR X (compareOp .Eq) (rOwnEq X.K C sp E) := by
  rintro pins s σ H x y u v Q I rx ry ⟨a, rfl, ha, ht, h⟩
  cases rx
  obtain ⟨ox, od, J⟩ := inst_of I ha
  obtain ⟨m, hF⟩ := I.fr
  show wpAny (model X.prog X.w) X.A (richCompare .Eq (.ref a) v) (EP X pins σ Q) X.xe s
  have fin : ∀ (u : Value) (s' : Shared), EP X pins σ (fun r H' => ∃ b : Bool, r = .bl b ∧ Q (.bl b) H') u s' → PySem.W.CmpBack (EP X pins σ Q) u s' := fun u s' q => by
    obtain ⟨w2, H', I', rv, b, rfl, q⟩ := q
    cases rv
    exact ⟨.bl b, H', I', rfl, q⟩
  have run := run_at (vs := [.ref a, y]) F hr I.env0 hx I (.cons rfl (.cons ry .nil)) h
  rcases ht with ⟨b, rfl, hb⟩ | ⟨b, zs, rfl, hq, hsub⟩
  · cases ry
    obtain ⟨oy, od', J'⟩ := inst_of I hb
    exact PySem.W.cmp_K (op := .Eq) (tb := .ref C) hr.units0 hF I.ok.mod.kin J J'.type (by simp [PySem.W.notFirst]) hs hf (thn run fin)
  · cases ry
    obtain ⟨its, rv, ⟨o, ho, hc, _⟩, hz⟩ := I.tuple hq
    refine PySem.W.cmp_K (op := .Eq) (tb := .type "tuple") hr.units0 hF I.ok.mod.kin J (fun A Q E s k q => wpAny_typeOf_ref (k _ _ ho) (by rw [hc]; exact q)) ?_ hs hf (thn run fin)
    unfold PySem.W.notFirst
    rw [hsub]
    simp
end
end Sho
set_option Elab.async false
set_option linter.all false
set_option maxRecDepth 100000
set_option maxHeartbeats 2000000
namespace Sh1
open PySem L2 Sho NdefX
section
variable {P : Program} {w : World} {K : PySem.W.Frag} {mg : Str → Option Value} {base : Heap}
theorem no_meth (a : V) {m : Str} (h : (m == ("_stays" : Str)) = false) : List.lookup m [(("_stays" : Str), a)] = none := by simp [List.lookup, h]
/-! ### _stay_of -/
def guest (xs : List Stay) (z : Str) : Option Stay := xs.find? fun x => x.1 == z
def spStayOf (C CU : Addr) : Sp := fun vs H Q E => ∃ (p : Addr) (z : Str) (xs : List Stay), vs = [.ref p, .str z] ∧ PartyAt C H p xs ∧ z.length ≤ 100000 ∧
  (∀ x t, guest xs z = some x → H t = some (.tup [.str x.1, .int x.2.1, .int x.2.2]) → Q (.ref t) H) ∧
  (guest xs z = none → ∀ (H' : Hp) (d : Addr), Same H H' → H d = none → H' d = some (.xd [(("name" : Str), .str z)]) → E (.ref CU) (some d) H')
theorem scPStayOf : FnScope ["self", "name", "stay"] ["self", "name"] (defScope sPStayOf) := ⟨rfl, rfl, rfl, by decide +kernel, rfl, by decide +kernel, by decide +kernel⟩
theorem dec_str {a b : Str} : decide (V.str a = V.str b) = (a == b) := by
  rw [Bool.eq_iff_iff]
  simp
theorem ok_stayOf {f C CU : Addr} {fd : FuncData} (F : Fun K "_stay_of" "Party._stay_of" sPStayOf f fd) (PC : PartyC K mg C) (EC : ErrC P K mg "UnknownGuest" "name" nfUnk CU) : FnOk P w K mg base (L2.CX P w) 3 f fd ["self", "name"] (spStayOf C CU) := by
  refine F.okX scPStayOf (fun vs H Q E h => ?_) (fun cdv A outer s H vs Q E hr h => ?_)
  · obtain ⟨p, z, xs, rfl, _⟩ := h
    rfl
  · obtain ⟨p, z, xs, rfl, ⟨dx, a, ws, h1, h2, h3⟩, hz, kOk, kBad⟩ := h
    have nd := scPStayOf.nd
    refine ⟨_, pss_cons (ps_for (passes_of rfl) rfl (pi_tup (pe_fld (pv 0) rfl)) (pg_name (i := 2) nd rfl (Or.inl rfl))
        (pss_one (ps_if (pt_cmpR op_eq (pe_ix ix_tup (pv 2) pe_int (fun _ _ => rfl)) (pv 1) (nomark _)) (pss_one (ps_ret (pv 2))) pss_nil)))
      (pss_one (ps_raise rfl (takes_of rfl rfl rfl rfl) (pmk_unk (k := 0) EC (hr.mono (by decide)) passL (by rfl) (pk_cons (pv 1) pk_nil) rfl rfl rfl))), ?_⟩
    refine ⟨_, rfl, p, C, dx, _, .ref a, rfl, h1, PC.cl, PC.nS, lk_stays _, a, rfl, ⟨_, SqT.of h2⟩, for_it walk_tup (fun i σ H2 => ∃ o, σ = [some (.ref p), some (.str z), o] ∧ H2 = H ∧ guest (xs.take i) z = none)
      ⟨none, rfl, rfl, rfl⟩ (fun i σ H2 _ ⟨_, _, e, _⟩ => by rw [e]; exact SqT.of h2) ?_ ?_⟩
    · rintro i y σ H2 H3 hi ⟨o, rfl, rfl, hb⟩ ⟨rfl, e2⟩
      obtain ⟨x, hx, t, rfl, ht⟩ := pair_get h3 e2
      refine ⟨_, rfl, t, _, 0, .str x.1, rfl, rfl, SqT.of ht, atI_nat (j := 0) rfl, _, rfl, rfl, _, rfl, ?_⟩
      rw [dec_str]
      have take1 : xs.take (i + 1) = xs.take i ++ [x] := by rw [List.take_add_one, hx]; rfl
      cases e : (x.1 == z) with
      | true =>
        refine iteT ⟨_, rfl, kOk x t ?_ ht⟩
        have q : guest (xs.take (i + 1)) z = some x := by
          unfold guest at hb ⊢
          rw [take1, List.find?_append, hb]
          simp [e]
        have q2 : xs = xs.take (i + 1) ++ xs.drop (i + 1) := (List.take_append_drop _ _).symm
        unfold guest at q ⊢
        rw [q2, List.find?_append, q]
        rfl
      | false =>
        refine iteF ⟨_, rfl, rfl, ?_⟩
        unfold guest at hb ⊢
        rw [take1, List.find?_append, hb]
        simp [e]
    · rintro σ H2 ⟨o, rfl, rfl, hb⟩
      rw [pair_len h3, List.take_length] at hb
      refine ⟨_, rfl, _, rfl, .inl ⟨z, rfl, hz⟩, fun d hd => kBad hb _ d (fun b o e => ?_) hd upd_same⟩
      rw [upd_ne (ne_of_none e hd)]
      exact e
/-! ### __len__, __bool__, __contains__, __getitem__ -/
def spPLen (C : Addr) : Sp := fun vs H Q _ => ∃ (p : Addr) (xs : List Stay), vs = [.ref p] ∧ PartyAt C H p xs ∧ Q (.int (xs.length : Nat)) H
theorem scPLen : FnScope ["self"] ["self"] (defScope sPLen) := ⟨rfl, rfl, rfl, by decide +kernel, rfl, by decide +kernel, by decide +kernel⟩
theorem ok_plen {f C : Addr} {fd : FuncData} (F : Fun K "__len__" "Party.__len__" sPLen f fd) (B : Blt mg) (PC : PartyC K mg C) : FnOk P w K mg base CX0 1 f fd ["self"] (spPLen C) := by
  refine F.ok scPLen (fun vs H Q E h => ?_) (fun cdv A outer s H vs Q E hr h => ?_)
  · obtain ⟨p, xs, rfl, _⟩ := h
    rfl
  · obtain ⟨p, xs, rfl, ⟨dx, a, ws, h1, h2, h3⟩, k⟩ := h
    refine ⟨_, pss_one (ps_ret (pe_callB call_len_seq (by rfl) B.len PySem.boot_len (pa_cons (pe_fld (pv 0) rfl) pa_nil))), ?_⟩
    refine ⟨_, rfl, p, C, dx, _, .ref a, rfl, h1, PC.cl, PC.nS, lk_stays _, a, ws, rfl, .inr (SqT.of h2), ?_⟩
    rw [pair_len h3]
    exact k
def spPBool (C : Addr) : Sp := fun vs H Q _ => ∃ (p : Addr) (xs : List Stay), vs = [.ref p] ∧ PartyAt C H p xs ∧ Q (.bl (!xs.isEmpty)) H
theorem scPBool : FnScope ["self"] ["self"] (defScope sPBool) := ⟨rfl, rfl, rfl, by decide +kernel, rfl, by decide +kernel, by decide +kernel⟩
theorem ok_pbool {f C : Addr} {fd : FuncData} (F : Fun K "__bool__" "Party.__bool__" sPBool f fd) (B : Blt mg) (PC : PartyC K mg C) : FnOk P w K mg base CX0 1 f fd ["self"] (spPBool C) := by
  refine F.ok scPBool (fun vs H Q E h => ?_) (fun cdv A outer s H vs Q E hr h => ?_)
  · obtain ⟨p, xs, rfl, _⟩ := h
    rfl
  · obtain ⟨p, xs, rfl, ⟨dx, a, ws, h1, h2, h3⟩, k⟩ := h
    refine ⟨_, pss_one (ps_ret (pe_callTy call_boolTup (by rfl) B.bool (by decide +kernel) (pa_cons (pe_fld (pv 0) rfl) pa_nil))), ?_⟩
    refine ⟨_, rfl, p, C, dx, _, .ref a, rfl, h1, PC.cl, PC.nS, lk_stays _, a, ws, rfl, SqT.of h2, ?_⟩
    have e : ws.isEmpty = xs.isEmpty := by
      have := pair_len h3
      cases ws <;> cases xs <;> simp at this <;> rfl
    rw [e]
    exact k
def named (xs : List Stay) (z : Str) : Bool := xs.any fun x => x.1 == z
def spPIn (C : Addr) : Sp := fun vs H Q _ => ∃ (p : Addr) (z : Str) (xs : List Stay), vs = [.ref p, .str z] ∧ PartyAt C H p xs ∧ xs.length ≤ sizeLine ∧ ∀ H', Same H H' → Q (.bl (named xs z)) H'
theorem scPIn : FnScope ["self", "name"] ["self", "name"] (defScope sPIn) := ⟨rfl, rfl, rfl, by decide +kernel, rfl, by decide +kernel, by decide +kernel⟩
theorem ok_pin {f C fN pN : Addr} {fd fdN : FuncData} (F : Fun K "__contains__" "Party.__contains__" sPIn f fd) (PC : PartyC K mg C) (GN : FnOk P w K mg base CX0 1 fN fdN ["self"] (spPNames C)) (hN : PropOf K C "names" pN fN) (bN : Binds K fdN ["self"] []) :
    FnOk P w K mg base CX0 3 f fd ["self", "name"] (spPIn C) := by
  refine F.ok scPIn (fun vs H Q E h => ?_) (fun cdv A outer s H vs Q E hr h => ?_)
  · obtain ⟨p, z, xs, rfl, _⟩ := h
    rfl
  · obtain ⟨p, z, xs, rfl, PA, hz, k⟩ := h
    refine ⟨_, pss_one (ps_ret (pe_cmpR op_in_seq (pv 1) (pe_prop (pv 0) PC.cl hN GN hr bN .nil pass0 rfl) rfl)), ?_⟩
    obtain ⟨dx, a, ws, h1, h2, h3⟩ := id PA
    refine ⟨_, rfl, _, rfl, p, dx, _, rfl, h1, p, xs, rfl, PA, hz, fun H' t s' nt e => ?_⟩
    refine ⟨t, _, rfl, .inr (SqT.of e), rfl, ?_, ?_⟩
    · have := flat_strs (xs.map fun x => x.1)
      rw [List.map_map] at this
      exact this
    · have e2 : inV (.str z) (xs.map fun x => V.str x.1) = named xs z := by
        have := inV_strs z (xs.map fun x => x.1)
        rw [List.map_map, List.any_map] at this
        exact this
      rw [if_neg Bool.false_ne_true, e2]
      exact k _ s'
def spPIx (C CU : Addr) : Sp := fun vs H Q E => ∃ (p : Addr) (z : Str) (xs : List Stay), vs = [.ref p, .str z] ∧ PartyAt C H p xs ∧ z.length ≤ 100000 ∧
  (∀ x, guest xs z = some x → ∀ H' t, Same H H' → H t = none → H' t = some (.tup [.int x.2.1, .int x.2.2]) → Q (.ref t) H') ∧
  (guest xs z = none → ∀ (H' : Hp) (d : Addr), Same H H' → H d = none → H' d = some (.xd [(("name" : Str), .str z)]) → E (.ref CU) (some d) H')
theorem scPIx : FnScope ["self", "name"] ["self", "name"] (defScope sPIx) := ⟨rfl, rfl, rfl, by decide +kernel, rfl, by decide +kernel, by decide +kernel⟩
theorem guest_at {C : Addr} {H : Hp} {p : Addr} {xs : List Stay} {z : Str} (h : PartyAt C H p xs) : ∀ {x : Stay}, guest xs z = some x → ∃ t, H t = some (.tup [.str x.1, .int x.2.1, .int x.2.2]) := by
  obtain ⟨dx, a, ws, _, _, h3⟩ := h
  intro x hx
  have key : ∀ {ws : List V} {xs : List Stay}, StaysV H ws xs → x ∈ xs → ∃ t, H t = some (.tup [.str x.1, .int x.2.1, .int x.2.2]) := by
    intro ws xs r
    induction r with
    | nil => intro hm; cases hm
    | cons h r ih =>
      intro hm
      rcases List.mem_cons.mp hm with rfl | hm
      · obtain ⟨t, _, ht⟩ := h
        exact ⟨t, ht⟩
      · exact ih hm
  exact key h3 (List.mem_of_find?_eq_some hx)
theorem ok_pix {f C CU fS : Addr} {fd fdS : FuncData} (F : Fun K "__getitem__" "Party.__getitem__" sPIx f fd) (PC : PartyC K mg C) (GS : FnOk P w K mg base (L2.CX P w) 3 fS fdS ["self", "name"] (spStayOf C CU)) (mS : Meth K C "_stay_of" fS) (bS : Binds K fdS ["self", "name"] []) :
    FnOk P w K mg base (L2.CX P w) 4 f fd ["self", "name"] (spPIx C CU) := by
  refine F.okX scPIx (fun vs H Q E h => ?_) (fun cdv A outer s H vs Q E hr h => ?_)
  · obtain ⟨p, z, xs, rfl, _⟩ := h
    rfl
  · obtain ⟨p, z, xs, rfl, PA, hz, kOk, kBad⟩ := h
    refine ⟨_, pss_one (ps_ret (pe_slice sl_tup (pe_meth (pv 0) PC.cl mS GS hr bS .nil (passes_call (takes_of rfl rfl rfl rfl) fun _ _ _ _ z => z) (pa_cons (pv 1) pa_nil)) (po_some pe_int) po_none)), ?_⟩
    obtain ⟨dx, a, ws, h1, h2, h3⟩ := id PA
    refine ⟨_, rfl, p, dx, _, rfl, h1, no_meth _ (by decide +kernel), _, rfl, p, z, xs, rfl, PA, hz, fun x t hx ht => ?_, kBad⟩
    refine ⟨1, rfl, t, _, rfl, SqT.of ht, ?_, fun q hq => ?_⟩
    · exact fun h => absurd h.1 (by show ¬ HT.sIx 3 0 (some 1) = 0; decide +kernel)
    · refine kOk x hx _ q (fun b o e => ?_) hq ?_
      · rw [upd_ne (ne_of_none e hq)]
        exact e
      · rw [upd_same]
        rfl
end
end Sh1
set_option Elab.async false
set_option linter.all false
set_option maxRecDepth 100000
set_option maxHeartbeats 2000000
namespace Sh1
open PySem L2 Sho NdefX
/-! ### stays compared -/
def stayD (x : Stay) : PyData := .tuple [.str x.1, .int x.2.1, .int x.2.2]
theorem dp_stays {K : PySem.W.Frag} {H : Hp} : ∀ {ws : List V} {xs : List Stay}, StaysV H ws xs → DpAll K H ws (xs.map stayD)
  | _, _, .nil => .nil
  | _, _, .cons ⟨t, e, ht⟩ r => by
    subst e
    exact .cons (.tup (SqT.of ht) (.cons (.str _) (.cons (.int _) (.cons (.int _) .nil)))) (dp_stays r)
theorem lay_stays : ∀ {xs : List Stay}, Short xs → PyData.canLayAll0 (xs.map stayD) = true
  | [], _ => rfl
  | x :: xs, h => by
    have h1 := (h x List.mem_cons_self).2
    have h2 := lay_stays (xs := xs) fun y hy => h y (List.mem_cons_of_mem _ hy)
    show (PyData.canLay0 (stayD x) && PyData.canLayAll0 (xs.map stayD)) = true
    rw [h2, Bool.and_true]
    show (PyData.canLay0 (.str x.1) && (true && (true && true))) = true
    simp only [Bool.and_true]
    exact h1
theorem depth_stays : ∀ xs : List Stay, PyData.depthAll (xs.map stayD) ≤ 1
  | [] => Nat.zero_le _
  | x :: xs => by
    have h := depth_stays xs
    show max (PyData.depth (stayD x)) (PyData.depthAll (xs.map stayD)) ≤ 1
    have e : PyData.depth (stayD x) = 1 := rfl
    rw [e]
    omega
theorem shaped_tup {xs : List Stay} (h : Short xs) : SeqAt.shaped (.tuple (xs.map stayD)) = true := by
  unfold SeqAt.shaped
  have h1 : PyData.canLay0 (.tuple (xs.map stayD)) = true := lay_stays h
  have h2 : PyData.depth (.tuple (xs.map stayD)) ≤ 64 := Nat.le_trans (Nat.succ_le_succ (depth_stays xs)) (by decide)
  rw [h1, decide_eq_true h2]
  rfl
theorem shaped_lst {xs : List Stay} (h : Short xs) : SeqAt.shaped (.list (xs.map stayD)) = true := by
  unfold SeqAt.shaped
  have h1 : PyData.canLay0 (.list (xs.map stayD)) = true := lay_stays h
  have h2 : PyData.depth (.list (xs.map stayD)) ≤ 64 := Nat.le_trans (Nat.succ_le_succ (depth_stays xs)) (by decide)
  rw [h1, decide_eq_true h2]
  rfl
theorem shaped_stay {x : Stay} (h : x.1.cps.all (· < 0x110000) = true) : SeqAt.shaped (stayD x) = true := by
  unfold SeqAt.shaped
  have h1 : PyData.canLay0 (stayD x) = true := by
    show (PyData.canLay0 (.str x.1) && (true && (true && true))) = true
    simp only [Bool.and_true]
    exact h
  rw [h1]
  rfl
theorem eqv_stay (x y : Stay) : PyData.eqv (stayD x) (stayD y) = decide (x = y) := by
  obtain ⟨x1, x2, x3⟩ := x
  obtain ⟨y1, y2, y3⟩ := y
  show ((x1 == y1) && ((x2 == y2) && ((x3 == y3) && true))) = _
  rw [Bool.eq_iff_iff]
  simp
theorem eqv_stays : ∀ xs ys : List Stay, PyData.eqvAll (xs.map stayD) (ys.map stayD) = decide (xs = ys)
  | [], [] => rfl
  | [], y :: ys => by
    rw [decide_eq_false (by simp)]
    rfl
  | x :: xs, [] => by
    rw [decide_eq_false (by simp)]
    rfl
  | x :: xs, y :: ys => by
    show (PyData.eqv (stayD x) (stayD y) && PyData.eqvAll (xs.map stayD) (ys.map stayD)) = _
    rw [eqv_stay, eqv_stays xs ys, Bool.eq_iff_iff]
    simp
section
variable {P : Program} {w : World} {K : PySem.W.Frag} {mg : Str → Option Value} {base : Heap}
/-! ### __eq__ -/
def spPEq (C : Addr) : Sp := fun vs H Q _ => ∃ (p : Addr) (xs : List Stay) (y : V), vs = [.ref p, y] ∧ PartyAt C H p xs ∧ Short xs ∧
  ((∃ q ys, y = .ref q ∧ PartyAt C H q ys ∧ Short ys ∧ Q (.bl (decide (xs = ys))) H) ∨ ∃ b zs, y = .ref b ∧ H b = some (.tup zs) ∧ Q (.bl false) H)
theorem scPEq : FnScope ["self", "other"] ["self", "other"] (defScope sPEq) := ⟨rfl, rfl, rfl, by decide +kernel, rfl, by decide +kernel, by decide +kernel⟩
theorem ok_peq {f C : Addr} {fd : FuncData} (F : Fun K "__eq__" "Party.__eq__" sPEq f fd) (B : Blt mg) (PC : PartyC K mg C) : FnOk P w K mg base CX0 1 f fd ["self", "other"] (spPEq C) := by
  refine F.ok scPEq (fun vs H Q E h => ?_) (fun cdv A outer s H vs Q E hr h => ?_)
  · obtain ⟨p, xs, y, rfl, _⟩ := h
    rfl
  · obtain ⟨p, xs, y, rfl, ⟨dx, a, ws, h1, h2, h3⟩, hsx, k⟩ := h
    refine ⟨_, pss_one (ps_ret (pe_and (pe_callB call_isi (by rfl) B.isi (by decide +kernel) (pa_cons (pv 1) (pa_cons (pe_glob (v := .ref C) rfl PC.gm rfl) pa_nil)))
      (pe_one (pe_cmpR (op_eqD hr.units) (pe_fld (pv 0) rfl) (pe_fld (pv 1) rfl) (nomark _))))), ?_⟩
    rcases k with ⟨q, ys, rfl, ⟨dy, b, zs, g1, g2, g3⟩, hsy, k⟩ | ⟨b, zs, rfl, hb, k⟩
    · refine ⟨_, rfl, .ref q, .ref C, .ref C, .ref C, true, rfl, .own C, .base (.ins g1 PC.cl PC.ca PC.cn PC.ct PC.mo), PC.kS, _, rfl, iteT ?_⟩
      refine ⟨_, rfl, p, C, dx, _, .ref a, rfl, h1, PC.cl, PC.nS, lk_stays _, _, rfl, q, C, dy, _, .ref b, rfl, g1, PC.cl, PC.nS, lk_stays _, ?_⟩
      refine ⟨.tuple (xs.map stayD), .tuple (ys.map stayD), .tup (SqT.of h2) (dp_stays h3), .tup (SqT.of g2) (dp_stays g3), shaped_tup hsx, shaped_tup hsy, ?_⟩
      have e : PyData.eqv (.tuple (xs.map stayD)) (.tuple (ys.map stayD)) = decide (xs = ys) := eqv_stays xs ys
      rw [e]
      exact k
    · refine ⟨_, rfl, .ref b, .ref C, .type "tuple", .ref C, false, rfl, .own C, .base (.tup hb), PC.kT, _, rfl, iteF k⟩
end
end Sh1
set_option Elab.async false
set_option linter.all false
set_option maxRecDepth 100000
set_option maxHeartbeats 2000000
/-! Answers of readings that stand in every law. -/
namespace Shg
open PySem L2 Sho NdefX
/-- a op b op c of ints -/
theorem chainI {f g : Int → Int → Bool} {ta tb tc : TE} {σ : L2.St} {H : Hp} {R : Bool → Hp → Prop} (i j k : Int) (h1 : ∀ Q : VK, Q (.int i) H → ta σ H Q) (h2 : ∀ Q : VK, Q (.int j) H → tb σ H Q) (h3 : ∀ Q : VK, Q (.int k) H → tc σ H Q) (h : R (f i j && g j k) H) :
    tTest (tChain (rI0 fun i j => .bl (f i j)) (rI0 fun i j => .bl (g i j)) ta tb tc) σ H R := by
  refine h1 _ (h2 _ ⟨i, j, rfl, rfl, f i j, rfl, ?_⟩)
  cases e : f i j with
  | false =>
    rw [if_neg Bool.false_ne_true]
    rw [e] at h
    exact ⟨_, rfl, h⟩
  | true =>
    rw [if_pos rfl]
    rw [e] at h
    exact h3 _ ⟨j, k, rfl, rfl, _, rfl, h⟩
theorem chainN {f g : Int → Int → Bool} {ta tb tc : TE} {σ : L2.St} {H : Hp} {R : Bool → Hp → Prop} (i j k : Int) (h1 : ∀ Q : VK, Q (.int i) H → ta σ H Q) (h2 : ∀ Q : VK, Q (.int j) H → tb σ H Q) (h3 : ∀ Q : VK, Q (.int k) H → tc σ H Q) (h : R (!(f i j && g j k)) H) :
    tNot (tTest (tChain (rI0 fun i j => .bl (f i j)) (rI0 fun i j => .bl (g i j)) ta tb tc)) σ H R := chainI (R := fun b H' => R (!b) H') i j k h1 h2 h3 h
/-- a, b = x, y: what is known of x -/
theorem par_rel {i j : Nat} {te : TE} {tr : TA} {u : TS} {D : Ends} {σ : L2.St} {H : Hp} (P : V → Hp → Prop) (h1 : ∀ R : VK, (∀ v H', P v H' → R v H') → te σ H R)
    (h2 : ∀ v H', P v H' → tr σ H' fun ws H2 => ∃ v1 w, v :: ws = [v1, w] ∧ u D ((σ.set i (some v1)).set j (some w)) H2) : tSeq (tPar i j (tCons te tr)) u D σ H := h1 _ h2
/-- paired place by place -/
theorem pair_of {α β : Type} {R : α → β → Prop} : ∀ {as : List α} {bs : List β}, as.length = bs.length → (∀ (i : Nat) a b, as[i]? = some a → bs[i]? = some b → R a b) → PySem.Paired R as bs
  | [], [], _, _ => .nil
  | [], _ :: _, h, _ => by simp at h
  | _ :: _, [], h, _ => by simp at h
  | a :: as, b :: bs, h, k => .cons (k 0 a b rfl rfl) (pair_of (by simpa using h) fun i x y hx hy => k (i + 1) x y hx hy)
end Shg
set_option Elab.async false
set_option linter.all false
set_option maxRecDepth 100000
set_option maxHeartbeats 4000000
/-! Texts: _is_number. -/
namespace Sh1
open PySem L2 Sho NdefX Shg
def digit (c : Nat) : Bool := !decide (c < 48) && !decide (57 < c)
def fit (z : Str) (m : Int) : Bool := (decide ((1 : Int) ≤ z.length) && decide ((z.length : Int) ≤ m)) && z.cps.toList.all digit
/-- a text that writes a number of at most m digits -/
def okNum (z : Str) (m : Int) : Bool := fit z m && (decide (z = "0") || !decide (z.cps.toList.head? = some 48))
theorem cps_0 : (Str.ofString "0").cps.toList = [48] := by decide +kernel
theorem cps_9 : (Str.ofString "9").cps.toList = [57] := by decide +kernel
theorem one_str (c : Nat) : decide (V.str ⟨#[c]⟩ = V.str "0") = decide (some c = some 48) := by
  refine decide_eq_decide.mpr ⟨fun h => ?_, fun h => ?_⟩
  · have h1 : (⟨#[c]⟩ : Str) = "0" := V.str.inj h
    have h2 := congrArg (fun y : Str => y.cps.toList) h1
    have h3 : [c] = [48] := h2.trans cps_0
    rw [List.head_eq_of_cons_eq h3]
  · rw [Option.some.inj h]
    rfl
section
variable {P : Program} {w : World} {K : PySem.W.Frag} {mg : Str → Option Value} {base : Heap}
def spIsNum : Sp := fun vs H Q _ => ∃ (z : Str) (m : Int), vs = [.str z, .int m] ∧ z.length ≤ sizeLine ∧ ∀ H', Same H H' → Q (.bl (okNum z m)) H'
theorem scIsNum : FnScope ["word", "most", "sign"] ["word", "most"] (defScope sIsNumber) := ⟨rfl, rfl, rfl, by decide +kernel, rfl, by decide +kernel, by decide +kernel⟩
theorem ok_isNum {f : Addr} {fd : FuncData} (F : Fun K "_is_number" "_is_number" sIsNumber f fd) (B : Shg.Blt mg) : FnOk P w K mg base CX0 1 f fd ["word", "most"] spIsNum := by
  refine F.ok scIsNum (fun vs H Q E h => ?_) (fun cdv A outer s H vs Q E hr h => ?_)
  · obtain ⟨z, m, rfl, _⟩ := h
    rfl
  · obtain ⟨z, m, rfl, hz, k⟩ := h
    have nd := scIsNum.nd
    refine ⟨_, pss_cons (ps_if (PW.pt (pw_or (pt_not (pt_chain op_le op_le pe_int (pe_callB call_len_str (by rfl) B.len PySem.boot_len (pa_cons (pv 0) pa_nil)) (pv 1)))
        (pw_or1 (pt_not (pt_val (pe_callB (cr_all rfl) (by rfl) B.all (by decide +kernel) (pa_cons (pe_lc (own := [("sign", 2)]) (g := gName 2) (tt := tYes) rfl nd (pi_str (pv 0)) (blkOk_by (own := [("sign", 2)]) (N := ["word", "most", "sign"]) (sc := defScope sIsNumber) (by decide +kernel))
        (fun _ _ _ _ _ => pg_name (i := 2) nd rfl (Or.inl rfl)) (fun _ _ _ _ _ => pts_nil) (fun _ _ _ _ _ => pe_chain op_le_str op_le_str pe_str (pv 2) pe_str)) pa_nil)))))))
        (pss_one (ps_ret pe_bl)) pss_nil)
      (pss_one (ps_ret (pe_or (pe_cmpR op_eq (pv 0) pe_str (nomark _)) (pe_one (pe_cmpR op_ne (pe_ix ix_str (pv 0) pe_int (fun _ _ => rfl)) pe_str (nomark _)))))), ?_⟩
    refine ans_or (!(decide ((1 : Int) ≤ z.length) && decide ((z.length : Int) ≤ m))) (!z.cps.toList.all digit) (fun R h => ?_) (fun H1 s1 c1 R h => ?_) fun H1 s1 => ?_
    · exact chainN 1 z.length m (fun Q q => q) (fun Q q => ⟨_, rfl, z, rfl, hz, q⟩) (fun Q q => ⟨_, rfl, q⟩) (h H (Same.refl H))
    · refine ⟨_, rfl, z, rfl, fun D hD => ?_⟩
      refine lc_map (walk_str (z := z)) (fun i => (z.cps.toList[i]?).map fun c => .bl (digit c)) hD hz (fun _ _ => trivial) (fun i x H2 H' hi s2 y R k1 => ?_) (fun i hi => ⟨_, by rw [List.getElem?_eq_getElem (by simpa using hi)]; rfl⟩) fun H2 s2 e2 => ?_
      · obtain ⟨rfl, c, hc, rfl⟩ := y
        refine ⟨rfl, _, rfl, _, _, rfl, rfl, _, rfl, ?_⟩
        have fi : Option.map (fun c => V.bl (digit c)) z.cps.toList[i]? = some (.bl (digit c)) := by
          rw [Array.getElem?_toList, hc]
          rfl
        have e1 : decide (({ cps := #[c] } : Str).cps.toList < (Str.ofString "0").cps.toList) = decide (c < 48) := by
          rw [cps_0]
          exact decide_eq_decide.mpr (one_lt c 48)
        have e2 : decide ((Str.ofString "9").cps.toList < ({ cps := #[c] } : Str).cps.toList) = decide (57 < c) := by
          rw [cps_9]
          exact decide_eq_decide.mpr (one_lt 57 c)
        rw [e1]
        by_cases h3 : c < 48
        · rw [decide_eq_true h3]
          refine iteF (k1 _ _ (Same.refl _) ?_)
          rw [fi]
          simp [digit, h3]
        · rw [decide_eq_false h3]
          refine iteT ⟨_, _, rfl, rfl, ?_⟩
          rw [e2]
          refine k1 _ _ (Same.refl _) ?_
          rw [fi]
          simp [digit, h3]
      · refine ⟨D, z.cps.toList.map digit, rfl, ?_, ?_⟩
        · have e3 : gather (fun i => (z.cps.toList[i]?).map fun c => V.bl (digit c)) z.cps.size = (z.cps.toList.map digit).map V.bl := by
            have := gather_map z.cps.toList fun c => V.bl (digit c)
            rw [Array.length_toList] at this
            rw [this, List.map_map]
            rfl
          rw [← e3]
          exact SqL.of e2
        · have e3 : (z.cps.toList.map digit).all id = z.cps.toList.all digit := by
            rw [List.all_map]
            rfl
          refine ⟨_, rfl, ?_⟩
          show R (!((z.cps.toList.map digit).all id)) H2
          rw [e3]
          exact h _ s2
    · have e : (!(decide ((1 : Int) ≤ z.length) && decide ((z.length : Int) ≤ m)) || !z.cps.toList.all digit) = !fit z m := by
        unfold fit
        rw [← Bool.not_and]
      rw [e]
      cases c : fit z m with
      | false =>
        refine iteT ?_
        have := k H1 s1
        unfold okNum at this
        rw [c, Bool.false_and] at this
        exact this
      | true =>
        refine iteF (nx_of ?_)
        have kk := k H1 s1
        unfold okNum at kk
        rw [c, Bool.true_and] at kk
        refine ⟨_, rfl, rfl, _, rfl, ?_⟩
        have ez : decide (V.str z = V.str "0") = decide (z = "0") := decide_eq_decide.mpr ⟨fun q => V.str.inj q, fun q => by rw [q]⟩
        rw [ez]
        refine ite2 (fun c2 => ?_) (fun c2 => ?_)
        · rw [c2, Bool.true_or] at kk
          exact kk
        · rw [Bool.eq_false_iff.mpr c2, Bool.false_or] at kk
          have c1 : (1 : Int) ≤ z.length := by
            unfold fit at c
            simp only [Bool.and_eq_true, decide_eq_true_eq] at c
            exact c.1.1
          obtain ⟨d, r, hd⟩ : ∃ d r, z.cps.toList = d :: r := by
            cases hq : z.cps.toList with
            | nil =>
              have : z.length = 0 := by
                show z.cps.size = 0
                rw [← Array.length_toList, hq]
                rfl
              omega
            | cons d r => exact ⟨d, r, rfl⟩
          refine ⟨_, rfl, z, 0, d, rfl, rfl, hz, ?_, rfl, ?_⟩
          · rw [hd]
            exact atI_nat (j := 0) rfl
          · rw [one_str]
            rw [hd] at kk
            exact kk
end
end Sh1
set_option Elab.async false
set_option linter.all false
set_option maxRecDepth 100000
set_option maxHeartbeats 4000000
/-! all([lo <= c <= hi for c in z]); [c for c in z if not lo <= c <= hi] != []. -/
namespace Shg
open PySem L2 Sho NdefX
abbrev sgn (c : Nat) : V := .str ⟨#[c]⟩
abbrev rLeS : R2 := fun x y H Q => ∃ i j, x = .str i ∧ y = .str j ∧ Q (.bl (!decide (j.cps.toList < i.cps.toList))) H
theorem one_less (c d : Nat) : ([c] < [d]) ↔ c < d := by
  rw [List.cons_lt_cons_iff]
  simp
/-- between the signs a and b -/
def within (a b c : Nat) : Bool := !decide (c < a) && !decide (b < c)
theorem dpSigns {K : PySem.W.Frag} {H : Hp} : ∀ cs : List Nat, DpAll K H (cs.map sgn) (cs.map fun c => .str ⟨#[c]⟩)
  | [] => .nil
  | c :: cs => .cons (.str _) (dpSigns cs)
theorem laySigns : ∀ {cs : List Nat}, (∀ c ∈ cs, c < 0x110000) → PyData.canLayAll0 (cs.map fun c => .str ⟨#[c]⟩) = true
  | [], _ => rfl
  | c :: cs, h => by
    have h1 := h c List.mem_cons_self
    have h2 := laySigns (cs := cs) fun y hy => h y (List.mem_cons_of_mem _ hy)
    show (PyData.canLay0 (.str ⟨#[c]⟩) && PyData.canLayAll0 (cs.map fun c => .str ⟨#[c]⟩)) = true
    rw [h2, Bool.and_true]
    show (#[c].all fun x => decide (x < 0x110000)) = true
    simpa using h1
theorem depthSigns : ∀ cs : List Nat, PyData.depthAll (cs.map fun c => .str ⟨#[c]⟩) = 0
  | [] => rfl
  | c :: cs => by
    have h := depthSigns cs
    show max (PyData.depth (.str ⟨#[c]⟩)) (PyData.depthAll (cs.map fun c => .str ⟨#[c]⟩)) = 0
    rw [h]
    rfl
theorem shapedSigns {cs : List Nat} (h : ∀ c ∈ cs, c < 0x110000) : SeqAt.shaped (.list (cs.map fun c => .str ⟨#[c]⟩)) = true := by
  unfold SeqAt.shaped
  have h1 : PyData.canLay0 (.list (cs.map fun c => .str ⟨#[c]⟩)) = true := laySigns h
  have h2 : PyData.depth (.list (cs.map fun c => .str ⟨#[c]⟩)) ≤ 64 := by
    show PyData.depthAll (cs.map fun c => .str ⟨#[c]⟩) + 1 ≤ 64
    rw [depthSigns]
    decide
  rw [h1, decide_eq_true h2]
  rfl
/-- lo <= c <= hi of one sign -/
theorem chain_sign {lo up : Str} {a b c i : Nat} {σ : L2.St} {H : Hp} {Q : VK} (ha : lo.cps.toList = [a]) (hb : up.cps.toList = [b]) (hi : σ[i]? = some (some (sgn c))) (h : Q (.bl (within a b c)) H) :
    tChain rLeS rLeS (tC (.str lo)) (tVar i) (tC (.str up)) σ H Q := by
  refine ⟨_, hi, _, _, rfl, rfl, _, rfl, ?_⟩
  have e1 : decide (({ cps := #[c] } : Str).cps.toList < lo.cps.toList) = decide (c < a) := by
    rw [ha]
    exact decide_eq_decide.mpr (one_less c a)
  
  have e2 : decide (up.cps.toList < ({ cps := #[c] } : Str).cps.toList) = decide (b < c) := by
    rw [hb]
    exact decide_eq_decide.mpr (one_less b c)
  rw [e1]
  unfold within at h
  by_cases h3 : c < a
  · rw [decide_eq_true h3] at h ⊢
    exact iteF h
  · rw [decide_eq_false h3] at h ⊢
    refine iteT ⟨_, _, rfl, rfl, ?_⟩
    rw [e2]
    exact h
section
variable {z : Str} {lo up : Str} {a b i : Nat} {σ : L2.St} {vs : List Nat} {H1 : Hp} {D : Addr}
/-- all([lo <= c <= hi for c in z]) -/
theorem lc_all {Q : Addr → VK} {K : PySem.W.Frag} {R : VK} (ha : lo.cps.toList = [a]) (hb : up.cps.toList = [b]) (hz : z.length ≤ sizeLine) (hs : ∀ v, wipe ((wipe σ vs).set i (some v)) vs = wipe σ vs) (hg : ∀ v : V, ((wipe σ vs).set i (some v))[i]? = some (some v))
    {te : TE} (hte : ∀ Q : VK, Q (.str z) H1 → te σ H1 Q) (h : ∀ H', Same H1 H' → R (.bl (z.cps.toList.all (within a b))) H') :
    tCB (rAll K) (tCons (tLc (iStr te) (gName i) tYes (tChain rLeS rLeS (tC (.str lo)) (tVar i) (tC (.str up))) vs) tNil) σ H1 R := by
  refine hte _ ⟨z, rfl, fun D hD => ?_⟩
  refine lc_map (walk_str (z := z)) (fun i => (z.cps.toList[i]?).map fun c => .bl (within a b c)) hD hz (fun _ _ => trivial) (fun j x H2 H' hi s2 y R k1 => ?_) (fun i hi => ⟨_, by rw [List.getElem?_eq_getElem (by simpa using hi)]; rfl⟩) fun H2 s2 e2 => ?_
  · obtain ⟨rfl, c, hc, rfl⟩ := y
    refine ⟨hs _, chain_sign ha hb (hg _) (k1 _ _ (Same.refl _) ?_)⟩
    rw [Array.getElem?_toList, hc]
    rfl
  · refine ⟨D, z.cps.toList.map (within a b), rfl, ?_, ?_⟩
    · have e3 : gather (fun i => (z.cps.toList[i]?).map fun c => V.bl (within a b c)) z.cps.size = (z.cps.toList.map (within a b)).map V.bl := by
        have := gather_map z.cps.toList fun c => V.bl (within a b c)
        rw [Array.length_toList] at this
        rw [this, List.map_map]
        rfl
      rw [← e3]
      exact SqL.of e2
    · have e3 : (z.cps.toList.map (within a b)).all id = z.cps.toList.all (within a b) := by
        rw [List.all_map]
        rfl
      rw [e3]
      exact h _ s2
/-- [c for c in z if not lo <= c <= hi] != [] -/
theorem lc_bad {K : PySem.W.Frag} {R : Bool → Hp → Prop} (ha : lo.cps.toList = [a]) (hb : up.cps.toList = [b]) (hz : z.length ≤ sizeLine) (hc : ∀ c ∈ z.cps.toList, c < 0x110000) (hs : ∀ v, wipe ((wipe σ vs).set i (some v)) vs = wipe σ vs) (hg : ∀ v : V, ((wipe σ vs).set i (some v))[i]? = some (some v))
    {te : TE} (hte : ∀ Q : VK, Q (.str z) H1 → te σ H1 Q) (h : ∀ H', Same H1 H' → R (!z.cps.toList.all (within a b)) H') :
    tTest (tOp (rNeD K) (tLc (iStr te) (gName i) (tNot (tTest (tChain rLeS rLeS (tC (.str lo)) (tVar i) (tC (.str up))))) (tVar i) vs) (tLst tNil)) σ H1 R := by
  refine hte _ ⟨z, rfl, fun D hD => ?_⟩
  refine lc_gather (walk_str (z := z)) (fun i => (z.cps.toList[i]?).bind fun c => if within a b c = true then none else some (sgn c)) hD hz (fun _ _ => trivial) (fun j x H2 H' hi s2 y R k1 => ?_) fun H2 s2 e2 => ?_
  · obtain ⟨rfl, c, hc, rfl⟩ := y
    have k2 := k1 _ (Same.refl _)
    have fi : ((z.cps.toList[j]?).bind fun c => if within a b c = true then none else some (sgn c)) = if within a b c = true then none else some (sgn c) := by
      rw [Array.getElem?_toList, hc]
      rfl
    rw [fi] at k2
    refine ⟨hs _, chain_sign ha hb (hg _) ⟨_, rfl, ?_⟩⟩
    cases e : within a b c with
    | true =>
      rw [e, if_pos rfl] at k2
      exact iteF k2
    | false =>
      rw [e, if_neg Bool.false_ne_true] at k2
      exact iteT ⟨_, hg _, k2⟩
  · have e4 : gather (fun i => (z.cps.toList[i]?).bind fun c => if within a b c = true then none else some (sgn c)) z.cps.size = (z.cps.toList.filter fun c => !within a b c).map sgn := by
      have e := gather_list z.cps.toList fun c => if within a b c = true then none else some (sgn c)
      rw [Array.length_toList] at e
      rw [e]
      generalize z.cps.toList = cs
      induction cs with
      | nil => rfl
      | cons c cs ih =>
        rw [List.filterMap_cons, List.filter_cons, ih]
        cases within a b c <;> rfl
    rw [e4] at e2
    refine ⟨Nat.zero_le _, fun L hL => ⟨_, .list [], .lst (SqL.of ?_) (dpSigns (z.cps.toList.filter fun c => !within a b c)), .lst (SqL.of upd_same) .nil, shapedSigns (cs := z.cps.toList.filter fun c => !within a b c) fun c hc' => hc c (List.mem_filter.mp hc').1, rfl, _, rfl, ?_⟩⟩
    · rw [upd_ne (ne_of_none e2 hL)]
      exact e2
    · have e5 : z.cps.toList.all (within a b) = PyData.eqv (.list ((z.cps.toList.filter fun c => !within a b c).map fun c => .str ⟨#[c]⟩)) (.list []) := by
        generalize z.cps.toList = cs
        show cs.all _ = PyData.eqvAll _ []
        induction cs with
        | nil => rfl
        | cons c cs ih =>
          rw [List.all_cons, List.filter_cons]
          cases within a b c with
          | true => simpa using ih
          | false => rfl
      rw [← e5]
      exact h _ (s2.trans (same_upd hL))
end
end Shg
set_option Elab.async false
set_option linter.all false
set_option maxRecDepth 100000
set_option maxHeartbeats 4000000
/-! _law_is_tick. -/
namespace Sh1
open PySem L2 Sho NdefX Shg
theorem digit_eq : digit = within 48 57 := rfl
theorem letter_eq : letter = within 97 122 := rfl
def Plain (z : Str) : Prop := ∀ c ∈ z.cps.toList, c < 0x110000
section
variable {P : Program} {w : World} {K : PySem.W.Frag} {mg : Str → Option Value} {base : Heap}
/-- the end of both readers of a number -/
theorem num_tail {z : Str} {m : Int} {σ : L2.St} {H : Hp} {Q : VK} (h0 : σ[0]? = some (some (.str z))) (hz : z.length ≤ sizeLine) (c : fit z m = true) (k : Q (.bl (okNum z m)) H) :
    tOrV (tOp rEq (tVar 0) (tC (.str "0"))) (tOp rNe (tOp rIxS (tVar 0) (tC (.int 0))) (tC (.str "0"))) σ H Q := by
  unfold okNum at k
  rw [c, Bool.true_and] at k
  refine ⟨_, h0, rfl, _, rfl, ?_⟩
  have ez : decide (V.str z = V.str "0") = decide (z = "0") := decide_eq_decide.mpr ⟨fun q => V.str.inj q, fun q => by rw [q]⟩
  rw [ez]
  refine ite2 (fun c2 => ?_) (fun c2 => ?_)
  · rw [c2, Bool.true_or] at k
    exact k
  · rw [Bool.eq_false_iff.mpr c2, Bool.false_or] at k
    have c1 : (1 : Int) ≤ z.length := by
      unfold fit at c
      simp only [Bool.and_eq_true, decide_eq_true_eq] at c
      exact c.1.1
    obtain ⟨d, r, hd⟩ : ∃ d r, z.cps.toList = d :: r := by
      cases hq : z.cps.toList with
      | nil =>
        have : z.length = 0 := by
          show z.cps.size = 0
          rw [← Array.length_toList, hq]
          rfl
        omega
      | cons d r => exact ⟨d, r, rfl⟩
    refine ⟨_, h0, z, 0, d, rfl, rfl, hz, ?_, rfl, ?_⟩
    · rw [hd]
      exact atI_nat (j := 0) rfl
    · rw [one_str]
      rw [hd] at k
      exact k
def spLawTick : Sp := fun vs H Q _ => ∃ z : Str, vs = [.str z] ∧ z.length ≤ sizeLine ∧ Plain z ∧ ∀ H', Same H H' → Q (.bl (okNum z 10)) H'
theorem scLawTick : FnScope ["_law_word", "_law_c"] ["_law_word"] (defScope sLawIsTick) := ⟨rfl, rfl, rfl, by decide +kernel, rfl, by decide +kernel, by decide +kernel⟩
theorem ok_lawTick {f : Addr} {fd : FuncData} (F : Fun K "_law_is_tick" "_law_is_tick" sLawIsTick f fd) (B : Shg.Blt mg) : FnOk P w K mg base CX0 1 f fd ["_law_word"] spLawTick := by
  refine F.ok scLawTick (fun vs H Q E h => ?_) (fun cdv A outer s H vs Q E hr h => ?_)
  · obtain ⟨z, rfl, _⟩ := h
    rfl
  · obtain ⟨z, rfl, hz, hp, k⟩ := h
    have nd := scLawTick.nd
    refine ⟨_, pss_cons (ps_if (PW.pt (pw_or (pt_not (pt_chain op_le op_le pe_int (pe_callB call_len_str (by rfl) B.len PySem.boot_len (pa_cons (pv 0) pa_nil)) pe_int))
        (pw_or1 (pt_cmpR (op_neD hr.units) (pe_lc (own := [("_law_c", 1)]) (g := gName 1) (tt := tNot (tTest (tChain rLeS rLeS (tC (.str "0")) (tVar 1) (tC (.str "9"))))) (te := tVar 1) rfl nd (pi_str (pv 0)) (blkOk_by (own := [("_law_c", 1)]) (N := ["_law_word", "_law_c"]) (sc := defScope sLawIsTick) (by decide +kernel))
        (fun _ _ _ _ _ => pg_name (i := 1) nd rfl (Or.inl rfl)) (fun _ _ _ _ _ => pts_one (pt_not (pt_chain op_le_str op_le_str pe_str (pv 1) pe_str))) (fun _ _ _ _ _ => pv 1)) (pe_lst pa_nil) (nomark _)))))
        (pss_one (ps_ret pe_bl)) pss_nil)
      (pss_one (ps_ret (pe_or (pe_cmpR op_eq (pv 0) pe_str (nomark _)) (pe_one (pe_cmpR op_ne (pe_ix ix_str (pv 0) pe_int (fun _ _ => rfl)) pe_str (nomark _)))))), ?_⟩
    refine ans_or (!(decide ((1 : Int) ≤ z.length) && decide ((z.length : Int) ≤ 10))) (!z.cps.toList.all digit) (fun R h => ?_) (fun H1 s1 c1 R h => ?_) fun H1 s1 => ?_
    · exact chainN 1 z.length 10 (fun Q q => q) (fun Q q => ⟨_, rfl, z, rfl, hz, q⟩) (fun Q q => q) (h H (Same.refl H))
    · exact lc_bad (a := 48) (b := 57) cps_0 cps_9 hz hp (fun v => rfl) (fun v => rfl) (fun Q q => ⟨_, rfl, q⟩) fun H' s' => h H' s'
    · have e : (!(decide ((1 : Int) ≤ z.length) && decide ((z.length : Int) ≤ 10)) || !z.cps.toList.all digit) = !fit z 10 := by
        unfold fit
        rw [← Bool.not_and]
      rw [e]
      cases c : fit z 10 with
      | false =>
        refine iteT ?_
        have := k H1 s1
        unfold okNum at this
        rw [c, Bool.false_and] at this
        exact this
      | true => exact iteF (nx_of (num_tail rfl hz c (k H1 s1)))
end
end Sh1
set_option Elab.async false
set_option linter.all false
set_option maxRecDepth 100000
set_option maxHeartbeats 4000000
/-! Texts split at one sign: numbers only. -/
namespace Sh1
open PySem L2 Sho NdefX Shg TL
section
variable {s : Nat}
theorem pre_one (c : Nat) (r : List Nat) : pre [s] (c :: r) = decide (c = s) := by
  show ([c] == [s]) = _
  rw [Bool.eq_iff_iff, beq_iff_eq, decide_eq_true_eq]
  exact ⟨fun h => List.head_eq_of_cons_eq h, fun h => by rw [h]⟩
theorem spl_eq (acc : List Nat) (c : Nat) (r : List Nat) : spl [s] 0 acc (c :: r) = if c = s then acc :: spl [s] 0 [] r else spl [s] 0 (acc ++ [c]) r := by
  by_cases h : c = s
  · rw [if_pos h, spl_hit (by rw [pre_one]; exact decide_eq_true h)]
    rfl
  · rw [if_neg h, spl_miss (by rw [pre_one]; exact decide_eq_false h)]
theorem spl_count : ∀ (l acc : List Nat), (spl [s] 0 acc l).length = l.count s + 1
  | [], acc => by rw [spl_nil]; rfl
  | c :: r, acc => by
    rw [spl_eq, List.count_cons]
    by_cases h : c = s
    · rw [if_pos h, List.length_cons, spl_count r [], if_pos (by simpa using h)]
    · rw [if_neg h, spl_count r, if_neg (by simpa using h)]
theorem spl_free : ∀ (l acc : List Nat), s ∉ acc → ∀ p ∈ spl [s] 0 acc l, s ∉ p
  | [], acc, ha, p, hp => by
    rw [spl_nil] at hp
    rw [List.mem_singleton.mp hp]
    exact ha
  | c :: r, acc, ha, p, hp => by
    rw [spl_eq] at hp
    by_cases h : c = s
    · rw [if_pos h] at hp
      rcases List.mem_cons.mp hp with rfl | hp
      · exact ha
      · exact spl_free r [] (by simp) p hp
    · rw [if_neg h] at hp
      exact spl_free r _ (by simp [ha, Ne.symm h]) p hp
theorem spl_sub : ∀ (l acc : List Nat), ∀ p ∈ spl [s] 0 acc l, ∀ c ∈ p, c ∈ acc ∨ c ∈ l
  | [], acc, p, hp, c, hc => by
    rw [spl_nil] at hp
    rw [List.mem_singleton.mp hp] at hc
    exact Or.inl hc
  | d :: r, acc, p, hp, c, hc => by
    rw [spl_eq] at hp
    by_cases h : d = s
    · rw [if_pos h] at hp
      rcases List.mem_cons.mp hp with rfl | hp
      · exact Or.inl hc
      · rcases spl_sub r [] p hp c hc with q | q
        · cases q
        · exact Or.inr (List.mem_cons_of_mem _ q)
    · rw [if_neg h] at hp
      rcases spl_sub r _ p hp c hc with q | q
      · rcases List.mem_append.mp q with q | q
        · exact Or.inl q
        · exact Or.inr (by rw [List.mem_singleton.mp q]; exact List.mem_cons_self ..)
      · exact Or.inr (List.mem_cons_of_mem _ q)
theorem spl_total : ∀ (l acc : List Nat), ((spl [s] 0 acc l).map List.length).sum + (spl [s] 0 acc l).length = acc.length + l.length + 1
  | [], acc => by rw [spl_nil]; simp
  | c :: r, acc => by
    rw [spl_eq]
    by_cases h : c = s
    · rw [if_pos h, List.map_cons, List.sum_cons, List.length_cons]
      have := spl_total r []
      simp only [List.length_cons, List.length_nil] at *
      omega
    · rw [if_neg h]
      have := spl_total r (acc ++ [c])
      simp only [List.length_cons, List.length_append, List.length_nil] at *
      omega
theorem le_sum {l : List Nat} {n : Nat} (h : n ∈ l) : n ≤ l.sum := by
  induction l with
  | nil => cases h
  | cons a l ih =>
    rw [List.sum_cons]
    rcases List.mem_cons.mp h with rfl | h
    · omega
    · have := ih h
      omega
end
/-- x split at the one sign s of y -/
structure Sep (y : Str) (s : Nat) : Prop where
  tl : TL.tl y = [s]
  lo : y.cps.all (· < 256) = true
section
variable {y : Str} {s : Nat} (e : Sep y s)
include e
theorem Sep.spl (x : Str) : (Txt.split x y).map TL.tl = TL.spl [s] 0 [] (TL.tl x) := by
  have := split_spl x y (by rw [e.tl]; simp) (kind_ok e.lo)
  rw [e.tl] at this
  exact this
theorem Sep.len (x : Str) : (Txt.split x y).length = (TL.tl x).count s + 1 := by
  have h := congrArg List.length (e.spl x)
  rw [List.length_map, spl_count] at h
  exact h
theorem Sep.free (x : Str) : ∀ p ∈ Txt.split x y, s ∉ TL.tl p := fun p hp =>
  spl_free (TL.tl x) [] (by simp) (TL.tl p) (by rw [← e.spl x]; exact List.mem_map_of_mem hp)
theorem Sep.sub (x : Str) : ∀ p ∈ Txt.split x y, ∀ c ∈ TL.tl p, c ∈ TL.tl x := fun p hp c hc =>
  (spl_sub (TL.tl x) [] (TL.tl p) (by rw [← e.spl x]; exact List.mem_map_of_mem hp) c hc).resolve_left (by simp)
theorem Sep.total (x : Str) : ((Txt.split x y).map fun p => p.length).sum + (Txt.split x y).length = x.length + 1 := by
  have h := spl_total (s := s) (TL.tl x) []
  rw [← e.spl x, List.map_map, List.length_map] at h
  have e1 : (List.length ∘ TL.tl) = fun p : Str => p.length := funext fun p => (len_tl p).symm
  rw [e1, List.length_nil, ← len_tl x] at h
  omega
theorem Sep.le (x : Str) : ∀ p ∈ Txt.split x y, p.length ≤ x.length := fun p hp => by
  have h := e.total x
  have h1 := le_sum (List.mem_map_of_mem (f := fun p : Str => p.length) hp)
  have h2 : 1 ≤ (Txt.split x y).length := List.length_pos_of_mem hp
  omega
theorem Sep.plain (x : Str) (h : Plain x) : ∀ p ∈ Txt.split x y, Plain p := fun p hp c hc => h c (e.sub x p hp c hc)
theorem Sep.join {parts : List Str} (hne : parts ≠ []) (hp : ∀ p ∈ parts, s ∉ TL.tl p) : Txt.split (Txt.join y parts) y = parts := split_join e.tl e.lo hne hp
end
theorem sepN : Sep "\n" 10 := ⟨by decide +kernel, by decide +kernel⟩
theorem sepB : Sep " " 32 := ⟨by decide +kernel, by decide +kernel⟩
theorem sepD : Sep "-" 45 := ⟨by decide +kernel, by decide +kernel⟩
end Sh1
set_option Elab.async false
set_option linter.all false
set_option maxRecDepth 100000
set_option maxHeartbeats 2000000
/-! A list comprehension whose turns make new lists. -/
namespace Sho
open PySem PySem.Spec PyProof.Rows L2
section
/-- .. whose turns make new lists: Rl i y H, what holds of the i-th -/
theorem lc_relD {J : It} {n : Nat} {G : Hp → Prop} {Y : Nat → Hp → V → Hp → Prop} (w : Walk J n G Y) {g : TG} {te : TE} {vs : List Nat} {σ : L2.St} {H1 : Hp} {D : Addr} {Qd : Hp → Prop} (Rl : Nat → V → Hp → Prop) (hD : H1 D = none) (hz : n ≤ sizeLine)
    (hG : ∀ H, Same H1 H → G H) (stable : ∀ i y H H', (∀ b o, b ≠ D → H b = some o → H' b = some o) → Rl i y H → Rl i y H')
    (hs : ∀ i x H H', i < n → Same H1 H → (∃ zs, H D = some (.lst zs)) → Y i H x H' → ∀ R : V → Hp → Prop, (∀ y H4, Same H H4 → Rl i y H4 → R y H4) →
      g x (wipe σ vs) H' fun σ2 H2 => wipe σ2 vs = wipe σ vs ∧ te σ2 H2 R)
    (hd : ∀ H ys, Same H1 H → H D = some (.lst ys) → ys.length = n → (∀ i y, ys[i]? = some y → Rl i y H) → Qd H) :
    ∃ W : Nat → Nat → Hp → Prop, (∃ m, W 0 m (upd H1 D (.lst []))) ∧ ∀ i m H, W i m H →
      (J.stop i H ∧ Qd H) ∨ (J.go i H ∧ ∃ Nx : Hp → Prop, (∀ H', Nx H' → ∃ m', m' < m ∧ W (i + 1) m' H') ∧ ∀ x H', J.yld i H x H' → g x (wipe σ vs) H' fun σ2 H2 => wipe σ2 vs = wipe σ vs ∧ tYes σ2 H2 fun b H3 =>
        if b = true then te σ2 H3 fun y H4 => ∃ acc, H4 D = some (.lst acc) ∧ acc.length < sizeLine ∧ Nx (upd H4 D (.lst (acc ++ [y]))) else Nx H3) := by
  have s0 : ∀ o, Same H1 (upd H1 D o) := fun o b u e => by rw [upd_ne (ne_of_none e hD)]; exact e
  refine lc_it w (fun i H => Same H1 H ∧ ∃ ys, H D = some (.lst ys) ∧ ys.length = i ∧ ∀ j y, ys[j]? = some y → Rl j y H) ⟨s0 _, [], upd_same, rfl, fun j y e => by simp at e⟩ (fun i H _ p => hG H p.1) (fun i x H H' hi p y => ?_) fun H p => ?_
  · obtain ⟨p1, ys, p2, p3, p4⟩ := p
    have z := hs i x H H' hi p1 ⟨_, p2⟩ y (fun y H4 => ∃ acc, H4 D = some (.lst acc) ∧ acc.length < sizeLine ∧ Same H1 (upd H4 D (.lst (acc ++ [y]))) ∧
      ∃ ys, upd H4 D (.lst (acc ++ [y])) D = some (.lst ys) ∧ ys.length = i + 1 ∧ ∀ j y', ys[j]? = some y' → Rl j y' (upd H4 D (.lst (acc ++ [y])))) fun y H4 q r => by
        have e4 := q _ _ p2
        have tups : ∀ o b u, b ≠ D → H4 b = some u → upd H4 D o b = some u := fun o b u hb e => by
          rw [upd_ne hb]
          exact e
        refine ⟨ys, e4, by rw [p3]; exact Nat.lt_of_lt_of_le hi hz, fun b u e => by rw [upd_ne (ne_of_none e hD)]; exact (p1.trans q) b u e, ys ++ [y], upd_same, by simp [p3], fun j y' e => ?_⟩
        by_cases hj : j < ys.length
        · rw [List.getElem?_append_left hj] at e
          exact stable j y' H4 _ (tups _) (stable j y' H H4 (fun b u _ e => q _ _ e) (p4 j y' e))
        · rw [List.getElem?_append_right (by omega)] at e
          have ej : j = ys.length := by
            have := (List.getElem?_eq_some_iff.mp e).1
            simp at this
            omega
          subst ej
          simp at e
          subst e
          rw [p3]
          exact stable _ _ H4 _ (tups _) r
    exact z
  · obtain ⟨p1, ys, p2, p3, p4⟩ := p
    exact hd H ys p1 p2 p3 p4
end
end Sho
set_option Elab.async false
set_option linter.all false
set_option maxRecDepth 100000
set_option maxHeartbeats 4000000
/-! _rows_of; what a text says. -/
namespace Sh1
open PySem L2 Sho NdefX Shg
def rowsOf (t : Str) : List Str := if t = "" then [] else Txt.split t "\n"
def wordsOf (r : Str) : List Str := Txt.split r " "
def ticksOf (z : Str) : List Str := Txt.split z "-"
def valN (z : Str) : Int := ((NumText.digitsVal (TL.tl z) : Nat) : Int)
def okTicks : List Str → Bool
  | [a, b] => okNum a 10 && okNum b 10
  | _ => false
def okWords : List Str → Bool
  | [n, t] => okName n && okTicks (ticksOf t)
  | _ => false
def ticksSay : List Str → Int × Int
  | [a, b] => (valN a, valN b)
  | _ => (0, 0)
def wordsSay : List Str → Stay
  | [n, t] => (n, ticksSay (ticksOf t))
  | _ => ("", 0, 0)
def allWords (t : Str) : List (List Str) := (rowsOf t).map wordsOf
def badWordsFrom : Nat → List (List Str) → Option Nat
  | _, [] => none
  | i, ws :: r => if okWords ws = true then badWordsFrom (i + 1) r else some i
theorem wordsOf_ne (r : Str) : (wordsOf r).map V.str ≠ [] := fun e => by
  have h := congrArg List.length e
  rw [List.length_map] at h
  have h2 := sepB.len r
  unfold wordsOf at h
  rw [h2] at h
  simp at h
def WordsV (H : Hp) (ys : List V) (wss : List (List Str)) : Prop := PySem.Paired (fun y (ws : List Str) => ∃ a, y = .ref a ∧ H a = some (.lst (ws.map V.str))) ys wss
section
variable {P : Program} {w : World} {K : PySem.W.Frag} {mg : Str → Option Value} {base : Heap}
def spRows : Sp := fun vs H Q _ => ∃ t : Str, vs = [.str t] ∧ t.length ≤ 1000 ∧ ∀ p H' ys, Same H H' → H p = none → H' p = some (.lst ys) → WordsV H' ys (allWords t) → Q (.ref p) H'
theorem scRows : FnScope ["text", "row"] ["text"] (defScope sRowsOf) := ⟨rfl, rfl, rfl, by decide +kernel, rfl, by decide +kernel, by decide +kernel⟩
theorem ok_rows {f : Addr} {fd : FuncData} (F : Fun K "_rows_of" "_rows_of" sRowsOf f fd) (B : Shg.Blt mg) : FnOk P w K mg base CX0 1 f fd ["text"] spRows := by
  refine F.ok scRows (fun vs H Q E h => ?_) (fun cdv A outer s H vs Q E hr h => ?_)
  · obtain ⟨t, rfl, _⟩ := h
    rfl
  · obtain ⟨t, rfl, hz, k⟩ := h
    have nd := scRows.nd
    refine ⟨_, pss_cons (ps_if (pt_cmpR op_eq (pv 0) pe_str (nomark _)) (pss_one (ps_ret (pe_lst pa_nil))) pss_nil)
      (pss_one (ps_ret (pe_lc (own := [("row", 1)]) (g := gName 1) (tt := tYes) rfl nd (pi_list (pe_split (pv 0) pe_str)) (blkOk_by (own := [("row", 1)]) (N := ["text", "row"]) (sc := defScope sRowsOf) (by decide +kernel))
        (fun _ _ _ _ _ => pg_name (i := 1) nd rfl (Or.inl rfl)) (fun _ _ _ _ _ => pts_nil) (fun _ _ _ _ _ => pe_split (pv 1) pe_str)))), ?_⟩
    refine ⟨_, rfl, rfl, ?_⟩
    by_cases e : t = ""
    · have ed : decide (V.str t = V.str "") = true := decide_eq_true (by rw [e])
      rw [ed]
      refine ⟨_, rfl, iteT ⟨Nat.zero_le _, fun p hp => k p _ [] (same_upd hp) hp upd_same ?_⟩⟩
      have e0 : allWords t = [] := by
        unfold allWords rowsOf
        rw [if_pos e]
        rfl
      rw [e0]
      exact .nil
    · have ed : decide (V.str t = V.str "") = false := decide_eq_false fun q => e (V.str.inj q)
      rw [ed]
      have e0 : allWords t = (Txt.split t "\n").map wordsOf := by
        unfold allWords rowsOf
        rw [if_neg e]
      have ln := sepN.total t
      refine ⟨_, rfl, iteF (nx_of ⟨_, rfl, ⟨t, rfl⟩, t, "\n", rfl, rfl, by decide +kernel, Nat.le_trans (Nat.add_le_add_right hz 2) (by decide), fun q hq => ⟨q, rfl, ⟨_, SqL.of upd_same⟩, fun D hD => ?_⟩⟩)⟩
      have hq1 : (upd H q (.lst ((Txt.split t "\n").map V.str))) q = some (.lst ((Txt.split t "\n").map V.str)) := upd_same
      have s1 : Same H (upd H q (.lst ((Txt.split t "\n").map V.str))) := same_upd hq
      generalize upd H q (.lst ((Txt.split t "\n").map V.str)) = H1 at *
      have len : ((Txt.split t "\n").map V.str).length = (Txt.split t "\n").length := List.length_map ..
      refine lc_relD walk_list (fun i y H => ∃ a r, y = .ref a ∧ (Txt.split t "\n")[i]? = some r ∧ a ≠ D ∧ H a = some (.lst ((wordsOf r).map V.str))) hD ?_ (fun H2 s2 => SqL.of (s2 _ _ hq1)) (fun i y H H' st ⟨a, r, e1, e2, e3, e4⟩ => ⟨a, r, e1, e2, e3, st _ _ e3 e4⟩) (fun i x H2 H' hi s2 hd y R k1 => ?_) fun H2 ys s2 e2 l2 rel => ?_
      · rw [len]
        exact Nat.le_trans (show _ ≤ 1001 by omega) (by decide)
      · obtain ⟨rfl, ex⟩ := y
        rw [List.getElem?_map] at ex
        obtain ⟨r, hr', rfl⟩ := Option.map_eq_some_iff.mp ex
        have hl := sepN.le t r (List.mem_of_getElem? hr')
        refine ⟨rfl, _, rfl, ⟨r, rfl⟩, r, " ", rfl, rfl, by decide +kernel, Nat.le_trans (Nat.add_le_add_right (Nat.le_trans hl hz) 2) (by decide), fun a ha => k1 _ _ (same_upd ha) ⟨a, r, rfl, hr', ?_, upd_same⟩⟩
        obtain ⟨zs, hd⟩ := hd
        exact fun z => by rw [z, hd] at ha; cases ha
      · refine k D H2 ys (s1.trans s2) (s1.free hD) e2 ?_
        rw [e0]
        refine pair_of (by rw [l2, len, List.length_map]) fun i y ws hy hw => ?_
        obtain ⟨a, r, rfl, hr', _, ha⟩ := rel i y hy
        rw [List.getElem?_map, hr'] at hw
        cases hw
        exact ⟨a, rfl, ha⟩
end
end Sh1
set_option Elab.async false
set_option linter.all false
set_option maxRecDepth 100000
set_option maxHeartbeats 4000000
/-! _is_stay_row. -/
namespace Sh1
open PySem L2 Sho NdefX Shg
theorem two_of {α : Type} {l : List α} (h : l.length = 2) : ∃ a b, l = [a, b] := by
  match l, h with
  | [a, b], _ => exact ⟨a, b, rfl⟩
theorem okWords_not {ws : List Str} (h : ws.length ≠ 2) : okWords ws = false := by
  match ws, h with
  | [], _ => rfl
  | [_], _ => rfl
  | [_, _], h => exact absurd rfl h
  | _ :: _ :: _ :: _, _ => rfl
theorem okWords_two (n t : Str) : okWords [n, t] = (okName n && okTicks (ticksOf t)) := rfl
theorem okTicks_two (u v : Str) : okTicks [u, v] = (okNum u 10 && okNum v 10) := rfl
theorem okTicks_not {ws : List Str} (h : ws.length ≠ 2) : okTicks ws = false := by
  match ws, h with
  | [], _ => rfl
  | [_], _ => rfl
  | [_, _], h => exact absurd rfl h
  | _ :: _ :: _ :: _, _ => rfl
section
variable {P : Program} {w : World} {K : PySem.W.Frag} {mg : Str → Option Value} {base : Heap}
def spStayRow : Sp := fun vs H Q _ => ∃ (a : Addr) (ws : List Str), vs = [.ref a] ∧ H a = some (.lst (ws.map V.str)) ∧ ws.length ≤ 1001 ∧ (∀ z ∈ ws, z.length ≤ 1000) ∧ ∀ H', Same H H' → Q (.bl (okWords ws)) H'
theorem scStayRow : FnScope ["words", "ticks", "tick"] ["words"] (defScope sIsStayRow) := ⟨rfl, rfl, rfl, by decide +kernel, rfl, by decide +kernel, by decide +kernel⟩
theorem ok_stayRow {f fN fD : Addr} {fd fdN fdD : FuncData} {tM : Tok} (F : Fun K "_is_stay_row" "_is_stay_row" sIsStayRow f fd) (B : Shg.Blt mg) (gM : mg "MOST_TICK_DIGITS" = some (.int 10 tM))
    (GN : FnOk P w K mg base CX0 1 fN fdN ["word"] spIsName) (mN : mg "is_name" = some (.ref fN)) (kN : PySem.W.keepIn K (.ref fN) = true) (bN : Binds K fdN ["word"] [])
    (GD : FnOk P w K mg base CX0 1 fD fdD ["word", "most"] spIsNum) (mD : mg "_is_number" = some (.ref fD)) (kD : PySem.W.keepIn K (.ref fD) = true) (bD : Binds K fdD ["word", "most"] []) :
    FnOk P w K mg base CX0 2 f fd ["words"] spStayRow := by
  refine F.ok scStayRow (fun vs H Q E h => ?_) (fun cdv A outer s H vs Q E hr h => ?_)
  · obtain ⟨a, ws, rfl, _⟩ := h
    rfl
  · obtain ⟨a, ws, rfl, ha, hl, hz, k⟩ := h
    have nd := scStayRow.nd
    refine ⟨_, pss_cons (ps_if (PW.pt (pw_or (pt_cmpR op_ne (pe_callB call_len_seq (by rfl) B.len PySem.boot_len (pa_cons (pv 0) pa_nil)) pe_int (nomark _)) (pw_or1 (pt_not (pt_val (pe_call GN (hr.mono (by decide)) rfl mN kN bN .nil pass0 (pa_cons (pe_ix ix_list (pv 0) pe_int (fun _ _ => rfl)) pa_nil)))))))
        (pss_one (ps_ret pe_bl)) pss_nil)
      (pss_cons (ps_set (i := 1) nd rfl (Or.inl rfl) (pe_split (pe_ix ix_list (pv 0) pe_int (fun _ _ => rfl)) pe_str))
      (pss_one (ps_ret (pe_and (pe_cmpR op_eq (pe_callB call_len_seq (by rfl) B.len PySem.boot_len (pa_cons (pv 1) pa_nil)) pe_int (nomark _)) (pe_one
        (pe_callB (cr_all rfl) (by rfl) B.all (by decide +kernel) (pa_cons (pe_lc (own := [("tick", 2)]) (g := gName 2) (tt := tYes) (te := tCall spIsNum [] E0 (tCons (tVar 2) (tCons (tC (.int 10)) tNil))) rfl nd (pi_list (pv 1)) (blkOk_by (own := [("tick", 2)]) (N := ["words", "ticks", "tick"]) (sc := defScope sIsStayRow) (by decide +kernel))
        (fun _ _ _ _ _ => pg_name (i := 2) nd rfl (Or.inl rfl)) (fun _ _ _ _ _ => pts_nil) (fun _ _ _ _ _ => pe_call GD (hr.mono (by decide)) rfl mD kD bD .nil pass0 (pa_cons (pv 2) (pa_cons (pe_glob (v := .int 10) rfl gM ⟨_, rfl⟩) pa_nil)))) pa_nil))))))), ?_⟩
    by_cases h2 : ws.length = 2
    · obtain ⟨n, t, rfl⟩ := two_of h2
      have zn := hz n (by simp)
      have zt := hz t (by simp)
      refine ⟨_, rfl, a, _, rfl, .inl (SqL.of ha), rfl, _, rfl, iteF ?_⟩
      refine ⟨_, rfl, a, _, 0, .str n, rfl, rfl, SqL.of ha, atI_nat (j := 0) rfl, n, rfl, Nat.le_trans zn (by decide), fun H1 s1 => ⟨_, rfl, ?_⟩⟩
      cases c1 : okName n with
      | false =>
        refine iteT ?_
        have := k H1 s1
        rw [okWords_two, c1, Bool.false_and] at this
        exact this
      | true =>
        refine iteF (nx_of ?_)
        refine ⟨_, rfl, a, _, 1, .str t, rfl, rfl, SqL.of (s1 _ _ ha), atI_nat (j := 1) rfl, ⟨t, rfl⟩, t, "-", rfl, rfl, by decide +kernel, Nat.le_trans (Nat.add_le_add_right zt 2) (by decide), fun q hq => name_of ?_⟩
        have hq1 : (upd H1 q (.lst ((Txt.split t "-").map V.str))) q = some (.lst ((Txt.split t "-").map V.str)) := upd_same
        have s2 : Same H (upd H1 q (.lst ((Txt.split t "-").map V.str))) := s1.trans (same_upd hq)
        generalize upd H1 q (.lst ((Txt.split t "-").map V.str)) = H2 at *
        have kk : ∀ H', Same H2 H' → Q (.bl (okTicks (ticksOf t))) H' := fun H' s' => by
          have := k H' (s2.trans s')
          rw [okWords_two, c1, Bool.true_and] at this
          exact this
        have le := sepD.le t
        unfold ticksOf at kk
        generalize Txt.split t "-" = ts at *
        have len : (ts.map V.str).length = ts.length := List.length_map ..
        by_cases h3 : ts.length = 2
        · obtain ⟨u, v, rfl⟩ := two_of h3
          refine ⟨_, rfl, q, _, rfl, .inl (SqL.of hq1), rfl, _, rfl, iteT ?_⟩
          refine ⟨_, rfl, q, rfl, ⟨_, SqL.of hq1⟩, fun D hD => ?_⟩
          refine lc_map walk_list (fun i => ([u, v][i]?).map fun z => .bl (okNum z 10)) hD (by show 2 ≤ sizeLine; decide) (fun H3 s3 => SqL.of (s3 _ _ hq1)) (fun i x H3 H' hi s3 y R k1 => ?_) (fun i hi => ⟨_, by rw [List.getElem?_eq_getElem (by exact hi)]; rfl⟩) fun H3 s3 e3 => ?_
          · obtain ⟨rfl, ex⟩ := y
            rw [List.getElem?_map] at ex
            obtain ⟨z, hz', rfl⟩ := Option.map_eq_some_iff.mp ex
            have := le z (List.mem_of_getElem? hz')
            exact ⟨rfl, _, rfl, z, 10, rfl, Nat.le_trans (Nat.le_trans this zt) (by decide), fun H4 s4 => k1 _ _ s4 (by rw [hz']; rfl)⟩
          · refine ⟨D, [okNum u 10, okNum v 10], rfl, SqL.of e3, ?_⟩
            have := kk H3 s3
            rw [okTicks_two] at this
            have e : [okNum u 10, okNum v 10].all id = (okNum u 10 && okNum v 10) := by simp
            rw [e]
            exact this
        · have e : decide (V.int ((ts.map V.str).length : Nat) = V.int 2) = false := decide_eq_false fun z => h3 (by
            have := V.int.inj z
            rw [len] at this
            omega)
          refine ⟨_, rfl, q, _, rfl, .inl (SqL.of hq1), rfl, _, rfl, ?_⟩
          rw [e]
          refine iteF ?_
          have := kk H2 (Same.refl _)
          rw [okTicks_not h3] at this
          exact this
    · have len : (ws.map V.str).length = ws.length := List.length_map ..
      have e : decide (V.int ((ws.map V.str).length : Nat) = V.int 2) = false := decide_eq_false fun z => h2 (by
        have := V.int.inj z
        rw [len] at this
        omega)
      refine ⟨_, rfl, a, _, rfl, .inl (SqL.of ha), rfl, _, rfl, ?_⟩
      rw [e]
      refine iteT ?_
      have := k H (Same.refl _)
      rw [okWords_not h2] at this
      exact this
end
end Sh1
set_option Elab.async false
set_option linter.all false
set_option maxRecDepth 100000
set_option maxHeartbeats 2000000
namespace Sh1
open PySem L2 Sho NdefX
/-! ### valid lists of stays -/
structure Valid (xs : List Stay) : Prop where
  len : xs.length ≤ 24
  nd : (xs.map fun x => x.1).Nodup
  ok : ∀ x ∈ xs, okStay x.1 x.2.1 x.2.2 = true
theorem any_mem {l : List Str} {z : Str} : l.any (fun y => y == z) = true ↔ z ∈ l := by
  rw [List.any_eq_true]
  constructor
  · rintro ⟨y, hy, e⟩
    have := eq_of_beq e
    rw [← this]
    exact hy
  · intro h
    exact ⟨z, h, by simp⟩
theorem fbf_none : ∀ (xs : List Stay) (i : Nat) (seen : List Str), i ≤ 24 → firstBadFrom i seen xs = none →
    i + xs.length ≤ 24 ∧ (∀ x ∈ xs, x.1 ∉ seen) ∧ (xs.map fun x => x.1).Nodup ∧ ∀ x ∈ xs, okStay x.1 x.2.1 x.2.2 = true
  | [], i, seen, hi, _ => ⟨hi, by simp, by simp, by simp⟩
  | x :: r, i, seen, hi, h => by
    unfold firstBadFrom at h
    by_cases hb : badStay i seen x = true
    · rw [if_pos hb] at h
      cases h
    · rw [if_neg hb] at h
      have hb2 := Bool.eq_false_iff.mpr hb
      unfold badStay at hb2
      rw [Bool.or_eq_false_iff, Bool.or_eq_false_iff] at hb2
      obtain ⟨b1, b2, b3⟩ := hb2
      have n24 : (i : Int) ≠ 24 := of_decide_eq_false b1
      have ns : x.1 ∉ seen := fun m => by
        rw [any_mem.mpr m] at b2
        cases b2
      have ok1 : okStay x.1 x.2.1 x.2.2 = true := by
        cases e : okStay x.1 x.2.1 x.2.2 with
        | true => rfl
        | false => rw [e] at b3; cases b3
      obtain ⟨c1, c2, c3, c4⟩ := fbf_none r (i + 1) (seen ++ [x.1]) (by omega) h
      refine ⟨by rw [List.length_cons]; omega, fun y hy => ?_, ?_, fun y hy => ?_⟩
      · rcases List.mem_cons.mp hy with rfl | hy
        · exact ns
        · exact fun m => c2 y hy (List.mem_append_left _ m)
      · rw [List.map_cons, List.nodup_cons]
        refine ⟨fun m => ?_, c3⟩
        obtain ⟨y, hy, e⟩ := List.mem_map.mp m
        exact c2 y hy (by rw [e]; simp)
      · rcases List.mem_cons.mp hy with rfl | hy
        · exact ok1
        · exact c4 y hy
theorem fbf_of : ∀ (xs : List Stay) (i : Nat) (seen : List Str), i + xs.length ≤ 24 → (∀ x ∈ xs, x.1 ∉ seen) → (xs.map fun x => x.1).Nodup → (∀ x ∈ xs, okStay x.1 x.2.1 x.2.2 = true) → firstBadFrom i seen xs = none
  | [], _, _, _, _, _, _ => rfl
  | x :: r, i, seen, h1, h2, h3, h4 => by
    rw [List.length_cons] at h1
    have hb : badStay i seen x = false := by
      unfold badStay
      rw [h4 x List.mem_cons_self, decide_eq_false (by omega)]
      have e : seen.any (fun y => y == x.1) = false := by
        rw [Bool.eq_false_iff]
        exact fun q => h2 x List.mem_cons_self (any_mem.mp q)
      rw [e]
      rfl
    unfold firstBadFrom
    rw [if_neg (by rw [hb]; exact Bool.false_ne_true)]
    rw [List.map_cons, List.nodup_cons] at h3
    refine fbf_of r (i + 1) _ (by omega) (fun y hy m => ?_) h3.2 fun y hy => h4 y (List.mem_cons_of_mem _ hy)
    rcases List.mem_append.mp m with m | m
    · exact h2 y (List.mem_cons_of_mem _ hy) m
    · rw [List.mem_singleton] at m
      exact h3.1 (List.mem_map.mpr ⟨y, hy, m⟩)
theorem valid_iff {xs : List Stay} : firstBad xs = none ↔ Valid xs := by
  constructor
  · intro h
    obtain ⟨a, _, b, c⟩ := fbf_none xs 0 [] (by decide) h
    exact ⟨by omega, b, c⟩
  · intro h
    exact fbf_of xs 0 [] (by have := h.len; omega) (by simp) h.nd h.ok
theorem Valid.filter {xs : List Stay} (h : Valid xs) (p : Stay → Bool) : Valid (xs.filter p) :=
  ⟨Nat.le_trans (List.length_filter_le ..) h.len, (List.Nodup.sublist (List.Sublist.map _ List.filter_sublist) h.nd), fun x hx => h.ok x (List.mem_filter.mp hx).1⟩
theorem Short.filter {xs : List Stay} (h : Short xs) (p : Stay → Bool) : Short (xs.filter p) := fun x hx => h x (List.mem_filter.mp hx).1
/-- what is kept of paired lists -/
theorem stays_filter {H : Hp} (p : Stay → Bool) : ∀ {ws : List V} {xs : List Stay}, StaysV H ws xs → StaysV H ((ws.zip xs).filterMap fun q => if p q.2 = true then some q.1 else none) (xs.filter p)
  | _, _, .nil => .nil
  | _, _, .cons (a := v) (b := x) h r => by
    have ih := stays_filter p r
    rw [List.zip_cons_cons, List.filterMap_cons, List.filter_cons]
    by_cases e : p x = true
    · simp only [e, if_true]
      exact .cons h ih
    · simp only [e, if_false]
      exact ih
section
variable {P : Program} {w : World} {K : PySem.W.Frag} {mg : Str → Option Value} {base : Heap}
/-! ### __sub__ -/
def without (xs : List Stay) (x : Stay) : List Stay := xs.filter fun y => !decide (y = x)
def spPSub (C CU : Addr) : Sp := fun vs H Q E => ∃ (p : Addr) (z : Str) (xs : List Stay), vs = [.ref p, .str z] ∧ PartyAt C H p xs ∧ Short xs ∧ Valid xs ∧ z.length ≤ 100000 ∧
  (∀ x, guest xs z = some x → ∀ q H', Same H H' → H q = none → PartyAt C H' q (without xs x) → Q (.ref q) H') ∧
  (guest xs z = none → ∀ (H' : Hp) (d : Addr), Same H H' → H d = none → H' d = some (.xd [(("name" : Str), .str z)]) → E (.ref CU) (some d) H')
theorem scPSub : FnScope ["self", "name", "gone", "stays", "stay"] ["self", "name"] (defScope sPSub) := ⟨rfl, rfl, rfl, by decide +kernel, rfl, by decide +kernel, by decide +kernel⟩
theorem ok_psub {f C CI CU fS fI : Addr} {fd fdS : FuncData} (F : Fun K "__sub__" "Party.__sub__" sPSub f fd) (PC : PartyC K mg C)
    (GS : FnOk P w K mg base (L2.CX P w) 3 fS fdS ["self", "name"] (spStayOf C CU)) (mS : Meth K C "_stay_of" fS) (bS : Binds K fdS ["self", "name"] [])
    (M : Mk K C fI) (GI : FnR P w K mg base (L2.CX P w) 5 fI (spPNew C CI)) : FnOk P w K mg base (L2.CX P w) 7 f fd ["self", "name"] (spPSub C CU) := by
  refine F.okX scPSub (fun vs H Q E h => ?_) (fun cdv A outer s H vs Q E hr h => ?_)
  · obtain ⟨p, z, xs, rfl, _⟩ := h
    rfl
  · obtain ⟨p, z, xs, rfl, PA, hsh, hv, hz, kOk, kBad⟩ := h
    have nd := scPSub.nd
    have pass : Passes (L2.CX P w) (cxOf (L2.CX P w) P w K mg base ["self", "name", "gone", "stays", "stay"] "Party.__sub__" (defScope sPSub) f cdv A outer s H E) E := passes_call (takes_of rfl rfl rfl rfl) fun _ _ _ _ z => z
    refine ⟨_, pss_cons (ps_set (i := 2) nd rfl (Or.inr rfl) (pe_meth (pv 0) PC.cl mS GS (hr.mono (by decide)) bS .nil pass (pa_cons (pv 1) pa_nil)))
      (pss_cons (ps_setLc (i := 3) (own := [("stay", 4)]) (g := gName 4) (tt := tTest (tOp (rNeD K) (tVar 4) (tVar 2))) rfl nd rfl rfl (sw_true rfl rfl rfl (by decide +kernel)) (pi_tup (pe_fld (pv 0) rfl)) (blkOk_by (own := [("stay", 4)]) (N := ["self", "name", "gone", "stays", "stay"]) (sc := defScope sPSub) (by decide +kernel))
        (fun _ _ _ _ _ => pg_name (i := 4) nd rfl (Or.inl rfl)) (fun _ _ _ _ _ => pts_one (pt_cmpR (op_neD hr.units) (pv 4) (pv 2) (nomark _))) (fun _ _ _ _ _ => pv 4))
      (pss_one (ps_ret (pe_makeS M GI hr rfl PC.gm pass (pv 3))))), ?_⟩
    obtain ⟨dx, a, ws, h1, h2, h3⟩ := id PA
    refine ⟨_, rfl, p, dx, _, rfl, h1, no_meth _ (by decide +kernel), _, rfl, p, z, xs, rfl, PA, hz, fun x t hx ht => ?_, kBad⟩
    refine ⟨_, rfl, p, C, dx, _, .ref a, rfl, h1, PC.cl, PC.nS, lk_stays _, a, rfl, ⟨_, SqT.of h2⟩, fun D hD => ?_⟩
    have lenE := pair_len h3
    have hz24 : ws.length ≤ sizeLine := by
      rw [lenE]
      exact Nat.le_trans hv.len (by decide)
    have hxs : x.1.cps.all (· < 0x110000) = true := (hsh x (List.mem_of_find?_eq_some hx)).2
    have dpx : ∀ {t : Addr} {y : Stay} {H1 : Hp}, H1 t = some (.tup [.str y.1, .int y.2.1, .int y.2.2]) → Dp K H1 (.ref t) (stayD y) := fun {t y H1} e => .tup (SqT.of e) (.cons (.str _) (.cons (.int _) (.cons (.int _) .nil)))
    refine lc_gather walk_tup (fun i => ((ws.zip xs)[i]?).bind fun q => if (!decide (q.2 = x)) = true then some q.1 else none) hD hz24 (fun H1 s1 => SqT.of (s1 _ _ h2)) (fun i v H1 H' hi s1 y R k1 => ?_) fun H1 s1 e1 => ?_
    · obtain ⟨rfl, e2⟩ := y
      obtain ⟨y, hy, t', rfl, ht'⟩ := pair_get h3 e2
      have k2 := k1 _ (Same.refl _)
      have ez : (ws.zip xs)[i]? = some (.ref t', y) := by
        rw [List.getElem?_zip_eq_some]
        exact ⟨e2, hy⟩
      rw [ez] at k2
      refine ⟨rfl, _, rfl, _, rfl, stayD y, stayD x, dpx (s1 _ _ ht'), dpx (s1 _ _ ht), shaped_stay (hsh y (List.mem_of_getElem? hy)).2, shaped_stay hxs, _, rfl, ?_⟩
      rw [eqv_stay]
      by_cases e : y = x
      · have : decide (y = x) = true := decide_eq_true e
        rw [this]
        refine iteF ?_
        simp only [Option.bind_some, this] at k2
        exact k2
      · have : decide (y = x) = false := decide_eq_false e
        rw [this]
        refine iteT ⟨_, rfl, ?_⟩
        simp only [Option.bind_some, this] at k2
        exact k2
    · have e2 : (ws.zip xs).length = ws.length := by
        rw [List.length_zip, lenE]
        exact Nat.min_self _
      rw [← e2, gather_list] at e1
      have sv := stays_filter (fun y => !decide (y = x)) (h3.same s1)
      refine ⟨_, rfl, D, _, rfl, .inr (SqL.of e1), ?_⟩
      refine party_new sv (hsh.filter _) ?_ (fun _ q H' s' hq PQ => ?_) (fun i hi => ?_)
      · rw [pair_len sv]
        exact Nat.le_trans (hv.filter _).len (by decide)
      · exact kOk x hx q H' (s1.trans s') (s1.free hq) PQ
      · rw [valid_iff.mpr (hv.filter _)] at hi
        cases hi
end
end Sh1
set_option Elab.async false
set_option linter.all false
set_option maxRecDepth 100000
set_option maxHeartbeats 2000000
namespace Sh1
open PySem L2 Sho NdefX
theorem cat_one {K : PySem.W.Frag} {H : Hp} {a b : Addr} {xs ys : List V} {Q : VK} (ha : SqT K H a xs) (hb : SqT K H b ys) (hz : xs.length + ys.length ≤ sizeLine) (h : ∀ c H', Same H H' → SqT K H' c (xs ++ ys) → Q (.ref c) H') : rCatA K (.ref a) (.ref b) H Q := by
  refine ⟨a, b, xs, ys, rfl, rfl, ha, hb, hz, fun e => ?_, fun _ e => ?_, fun _ _ p hp => ?_⟩
  · exact h b H (Same.refl _) (by rw [e]; exact hb)
  · exact h a H (Same.refl _) (by rw [e, List.append_nil]; exact ha)
  · refine h p _ (fun c o e => ?_) (SqT.of upd_same)
    rw [upd_ne (ne_of_none e hp)]
    exact e
theorem paired_append {α β : Type} {R : α → β → Prop} : ∀ {a c : List α} {b d : List β}, PySem.Paired R a b → PySem.Paired R c d → PySem.Paired R (a ++ c) (b ++ d)
  | _, _, _, _, .nil, h => h
  | _, _, _, _, .cons x r, h => .cons x (paired_append r h)
theorem Short.append {xs ys : List Stay} (h : Short xs) (k : Short ys) : Short (xs ++ ys) := fun x hx => (List.mem_append.mp hx).elim (h x) (k x)
/-- stays moved -/
def moved (n : Int) (xs : List Stay) : List Stay := xs.map fun x => (x.1, x.2.1 + n, x.2.2 + n)
theorem Short.moved {xs : List Stay} (h : Short xs) (n : Int) : Short (moved n xs) := fun x hx => by
  obtain ⟨y, hy, e⟩ := List.mem_map.mp hx
  subst e
  exact h y hy
theorem stays_of {H : Hp} : ∀ {ys : List V} {xs : List Stay}, ys.length = xs.length → (∀ (i : Nat) (y : V), ys[i]? = some y → ∃ x, xs[i]? = some x ∧ StayV H y x) → StaysV H ys xs
  | [], [], _, _ => .nil
  | [], _ :: _, h, _ => by simp at h
  | _ :: _, [], h, _ => by simp at h
  | y :: ys, x :: xs, h, k => by
    obtain ⟨x', e, r⟩ := k 0 y rfl
    simp at e
    subst e
    exact .cons r (stays_of (by simpa using h) fun i y' e => by
      obtain ⟨x', e2, r2⟩ := k (i + 1) y' (by simpa using e)
      exact ⟨x', by simpa using e2, r2⟩)
section
variable {P : Program} {w : World} {K : PySem.W.Frag} {mg : Str → Option Value} {base : Heap}
/-- what making a Party of xs may end in -/
def Making (C CI : Addr) (H : Hp) (xs : List Stay) (Q : VK) (E : XK) : Prop :=
  (firstBad xs = none → ∀ (p : Addr) (H' : Hp), Same H H' → H p = none → PartyAt C H' p xs → Q (.ref p) H') ∧
  ∀ i, firstBad xs = some i → ∀ (H' : Hp) (d : Addr), Same H H' → H d = none → H' d = some (.xd [(("index" : Str), .int (i : Nat))]) → E (.ref CI) (some d) H'
theorem Making.after {C CI : Addr} {H H1 : Hp} {xs : List Stay} {Q : VK} {E : XK} (m : Making C CI H xs Q E) (s : Same H H1) : Making C CI H1 xs Q E :=
  ⟨fun h p H' s' hp P => m.1 h p H' (s.trans s') (s.free hp) P, fun i h H' d s' hd e => m.2 i h H' d (s.trans s') (s.free hd) e⟩
def spPAdd (C CI : Addr) : Sp := fun vs H Q E => ∃ (p q : Addr) (xs ys : List Stay), vs = [.ref p, .ref q] ∧ PartyAt C H p xs ∧ PartyAt C H q ys ∧ Short xs ∧ Short ys ∧ xs.length + ys.length ≤ 1000 ∧ Making C CI H (xs ++ ys) Q E
theorem scPAdd : FnScope ["self", "other", "stays"] ["self", "other"] (defScope sPAdd) := ⟨rfl, rfl, rfl, by decide +kernel, rfl, by decide +kernel, by decide +kernel⟩
theorem ok_padd {f C CI fI : Addr} {fd : FuncData} (F : Fun K "__add__" "Party.__add__" sPAdd f fd) (PC : PartyC K mg C) (M : Mk K C fI) (GI : FnR P w K mg base (L2.CX P w) 5 fI (spPNew C CI)) :
    FnOk P w K mg base (L2.CX P w) 7 f fd ["self", "other"] (spPAdd C CI) := by
  refine F.okX scPAdd (fun vs H Q E h => ?_) (fun cdv A outer s H vs Q E hr h => ?_)
  · obtain ⟨p, q, xs, ys, rfl, _⟩ := h
    rfl
  · obtain ⟨p, q, xs, ys, rfl, ⟨dx, a, ws, h1, h2, h3⟩, ⟨dy, b, zs, g1, g2, g3⟩, hsx, hsy, hz, k⟩ := h
    have nd := scPAdd.nd
    have pass : Passes (L2.CX P w) (cxOf (L2.CX P w) P w K mg base ["self", "other", "stays"] "Party.__add__" (defScope sPAdd) f cdv A outer s H E) E := passes_call (takes_of rfl rfl rfl rfl) fun _ _ _ _ z => z
    refine ⟨_, pss_cons (ps_set (i := 2) nd rfl (Or.inl rfl) (pe_op op_catA (pe_fld (pv 0) rfl) (pe_fld (pv 1) rfl))) (pss_one (ps_ret (pe_makeS M GI hr rfl PC.gm pass (pv 2)))), ?_⟩
    refine ⟨_, rfl, p, C, dx, _, .ref a, rfl, h1, PC.cl, PC.nS, lk_stays _, _, rfl, q, C, dy, _, .ref b, rfl, g1, PC.cl, PC.nS, lk_stays _, ?_⟩
    have l1 := pair_len h3
    have l2 := pair_len g3
    have l3 : ws.length + zs.length ≤ 1000 := by omega
    refine cat_one (SqT.of h2) (SqT.of g2) (Nat.le_trans l3 (by decide)) fun c H' s' hc => ?_
    have k' := k.after s'
    refine ⟨_, rfl, c, ws ++ zs, rfl, .inl hc, ?_⟩
    exact party_new (paired_append (h3.same s') (g3.same s')) (hsx.append hsy) (by rw [List.length_append]; exact Nat.le_trans l3 (by decide)) k'.1 k'.2
def spPShift (C CI : Addr) : Sp := fun vs H Q E => ∃ (p : Addr) (n : Int) (xs : List Stay), vs = [.ref p, .int n] ∧ PartyAt C H p xs ∧ Short xs ∧ xs.length ≤ 1000 ∧ Making C CI H (moved n xs) Q E
theorem scPShift : FnScope ["self", "ticks", "stays", "name", "come", "go"] ["self", "ticks"] (defScope sPShift) := ⟨rfl, rfl, rfl, by decide +kernel, rfl, by decide +kernel, by decide +kernel⟩
theorem ok_pshift {f C CI fI : Addr} {fd : FuncData} (F : Fun K "__rshift__" "Party.__rshift__" sPShift f fd) (PC : PartyC K mg C) (M : Mk K C fI) (GI : FnR P w K mg base (L2.CX P w) 5 fI (spPNew C CI)) :
    FnOk P w K mg base (L2.CX P w) 7 f fd ["self", "ticks"] (spPShift C CI) := by
  refine F.okX scPShift (fun vs H Q E h => ?_) (fun cdv A outer s H vs Q E hr h => ?_)
  · obtain ⟨p, n, xs, rfl, _⟩ := h
    rfl
  · obtain ⟨p, n, xs, rfl, ⟨dx, a, ws, h1, h2, h3⟩, hsx, hz, k⟩ := h
    have nd := scPShift.nd
    have pass : Passes (L2.CX P w) (cxOf (L2.CX P w) P w K mg base ["self", "ticks", "stays", "name", "come", "go"] "Party.__rshift__" (defScope sPShift) f cdv A outer s H E) E := passes_call (takes_of rfl rfl rfl rfl) fun _ _ _ _ z => z
    refine ⟨_, pss_cons (ps_setLc (i := 2) (own := [("name", 3), ("come", 4), ("go", 5)]) (g := gTup K 3 (gCons (gName 3) (gCons (gName 4) (gCons (gName 5) gNil)))) (tt := tYes) rfl nd rfl rfl (sw_true rfl rfl rfl (by decide +kernel))
        (pi_tup (pe_fld (pv 0) rfl)) (blkOk_by (own := [("name", 3), ("come", 4), ("go", 5)]) (N := ["self", "ticks", "stays", "name", "come", "go"]) (sc := defScope sPShift) (by decide +kernel))
        (fun _ _ _ _ _ => pg_tup rfl (pgs_cons (pg_name (i := 3) nd rfl (Or.inl rfl)) (pgs_cons (pg_name (i := 4) nd rfl (Or.inl rfl)) (pgs_cons (pg_name (i := 5) nd rfl (Or.inl rfl)) pgs_nil))))
        (fun _ _ _ _ _ => pts_nil) (fun _ _ _ _ _ => pe_tup (pa_cons (pv 3) (pa_cons (pe_op op_add (pv 4) (pv 1)) (pa_cons (pe_op op_add (pv 5) (pv 1)) pa_nil)))))
      (pss_one (ps_ret (pe_makeS M GI hr rfl PC.gm pass (pv 2)))), ?_⟩
    have l1 := pair_len h3
    refine ⟨_, rfl, p, C, dx, _, .ref a, rfl, h1, PC.cl, PC.nS, lk_stays _, a, rfl, ⟨_, SqT.of h2⟩, fun D hD => ?_⟩
    refine lc_rel walk_tup (fun i y H => ∃ x, (moved n xs)[i]? = some x ∧ StayV H y x) hD (by rw [l1]; exact Nat.le_trans hz (by decide)) (fun H1 s1 => SqT.of (s1 _ _ h2)) (fun i y H H' st r => ?_) (fun i v H1 H' hi s1 y R k1 => ?_) fun H1 ys s1 e1 e2 e3 => ?_
    · obtain ⟨x, e, t, e2, e3⟩ := r
      exact ⟨x, e, t, e2, st _ _ e3⟩
    · obtain ⟨rfl, e2⟩ := y
      obtain ⟨x, hx, t, rfl, ht⟩ := pair_get h3 e2
      refine ⟨t, _, rfl, SqT.of (s1 _ _ ht), rfl, _, _, rfl, _, _, rfl, _, _, rfl, rfl, rfl, _, rfl, _, rfl, _, rfl, _, _, rfl, rfl, _, rfl, _, rfl, _, _, rfl, rfl, by show 3 ≤ sizeLine; decide, fun q hq => ?_⟩
      refine k1 _ _ (fun b o e => by rw [upd_ne (ne_of_none e hq)]; exact e) ⟨(x.1, x.2.1 + n, x.2.2 + n), ?_, q, rfl, upd_same⟩
      unfold moved
      rw [List.getElem?_map, hx]
      rfl
    · have lm : (moved n xs).length = xs.length := by
        unfold moved
        rw [List.length_map]
      have sv : StaysV H1 ys (moved n xs) := stays_of (by rw [e2, lm, l1]) e3
      have k' := k.after s1
      refine ⟨_, rfl, D, ys, rfl, .inr (SqL.of e1), ?_⟩
      exact party_new sv (hsx.moved n) (by rw [e2, l1]; exact Nat.le_trans hz (by decide)) k'.1 k'.2
end
end Sh1
set_option Elab.async false
set_option linter.all false
set_option maxRecDepth 100000
set_option maxHeartbeats 2000000
/-! Parties without stays and of one. -/
namespace Sh1
open PySem L2 Sho NdefX
theorem Valid.take {xs : List Stay} (h : Valid xs) (n : Nat) : Valid (xs.take n) :=
  ⟨Nat.le_trans (List.length_take_le' ..) h.len, h.nd.sublist (List.Sublist.map _ (List.take_sublist ..)), fun x hx => h.ok x (List.mem_of_mem_take hx)⟩
theorem Valid.one {x : Stay} (h : okStay x.1 x.2.1 x.2.2 = true) : Valid [x] :=
  ⟨by simp, by simp, fun y hy => by rw [List.mem_singleton] at hy; rw [hy]; exact h⟩
theorem Short.take {xs : List Stay} (h : Short xs) (n : Nat) : Short (xs.take n) := fun x hx => h x (List.mem_of_mem_take hx)
theorem new0 {C CI : Addr} {E : XK} {σ : L2.St} {H : Hp} {Q : VK} (h : ∀ (p : Addr) (H' : Hp), Same H H' → H p = none → PartyAt C H' p [] → Q (.ref p) H') : StX.tMakeR C (spPNew C CI) E tNil σ H Q := by
  intro x0 d0 n1 n2 n3
  exact party_new (C := C) (CI := CI) (H := H) (xs := []) (ys := []) .nil (by intro x hx; cases hx) (Nat.zero_le _) (fun _ => h) (fun i hi => nomatch hi) x0 d0 n1 n2 n3
theorem new1 {C CI : Addr} {E : XK} {σ : L2.St} {H : Hp} {Q : VK} {i : Nat} {v : V} {x : Stay} (e : σ[i]? = some (some v)) (hv : StayV H v x) (hs : Short [x]) (h : Making C CI H [x] Q E) : StX.tMakeR C (spPNew C CI) E (tCons (tVar i) tNil) σ H Q :=
  ⟨v, e, party_new (C := C) (CI := CI) (H := H) (xs := [x]) (ys := [v]) (.cons hv .nil) hs (by show 1 ≤ sizeLine; decide) h.1 h.2⟩
end Sh1
set_option Elab.async false
set_option linter.all false
/-! What is asked of an own error class without an own __init__. -/
namespace Sho
open PySem L2
structure ErrO (K : PySem.W.Frag) (mg : Str → Option Value) (x : Str) (C : Addr) : Prop where
  ex : PySem.W.excIn K C [.type "ValueError", .type "Exception", .type "BaseException", .type "object"] "ValueError.__new__" = true
  gm : mg x = some (.ref C)
  kp : PySem.W.keepIn K (.ref C) = true
  be : PySem.W.subIn K (.ref C) (.type "BaseException") = some true
  ty : PySem.W.typeIn K (.ref C) = some (.type "type")
  exm : PySem.W.exmOne K (.ref C) (.ref C) = some true
theorem cat_le {a b : Str} {n m : Nat} (ha : a.length ≤ n) (hb : b.length ≤ m) : (a ++ b).length ≤ n + m := by
  rw [PySem.Str.length_append]
  omega
end Sho
set_option Elab.async false
set_option linter.all false
set_option maxRecDepth 100000
set_option maxHeartbeats 4000000
/-! InvalidText; parse_party. -/
namespace Sh1
open PySem L2 Sho NdefX Shg
abbrev nfTxt (cc cda : Addr) : NF := ⟨"__init__", "InvalidText.__init__", defArgs sInvalidText_Init, defBody sInvalidText_Init, defScope sInvalidText_Init, [("__class__", cc)], cda⟩
section
variable {X : Cx} {CX : CXT} {C : Addr} {k : Nat} {kws : List Keyword} {te : TA} {p pos : Pos}
theorem pmk_txt (EC : ErrC X.prog X.K X.mg "InvalidText" "row" nfTxt C) (hr : Room (k + 2) X.A) (hx : Passes CX X (fun _ _ _ => False)) (hg : Gl X "InvalidText")
    (hkw : PK X kws te) (hall : (backToKw pos (keywordEach kws X.env)).all (·.1.isSome) = true) (hks : (backToKw pos (keywordEach kws X.env)).filterMap (·.1) = [("row" : Str)])
    (hpl : ((backTo pos (starEach [] X.env)).any (·.1) || (backToKw pos (keywordEach kws X.env)).any (·.1.isNone)) = false) : PMk X (.Call (.Name "InvalidText" p) [] kws pos) (tMkW C "row" te) := by
  obtain ⟨f, cc, cda, T, iC, tI⟩ := EC.txt
  have S : NScope ["self", "row", "__class__"] ["self", "row"] ["__class__"] (defScope sInvalidText_Init) := nscope_by (by decide +kernel)
  refine pmk_kw (F := nfTxt cc cda) (fld := "row") (k := k) T EC.cls EC.xf EC.no iC tI S hr hx hg EC.gm hkw hall hks hpl rfl (fun s doc pm an ct xa u => .of_eq rfl) (fun A outer s H E xa v hv => ?_) (fun L => rfl) (fun L => rfl) (fun L => rfl)
  refine ⟨_, pa_cons (pe_joined (.cons pe_str (.cons (pe_fmt (pv 1)) (.cons pe_str .nil)))) pa_nil, fun R hR => ?_⟩
  have e0 : (Str.empty ++ Str.ofString "row ").length ≤ 30 := by decide +kernel
  have e3 : (Str.ofString " is not formed as rows are").length ≤ 30 := by decide +kernel
  refine ⟨_, rfl, Nat.le_trans e0 (by decide), v, rfl, ?_⟩
  rcases tells_len hv with ⟨y, rfl, hy⟩ | ⟨i, rfl, hi, hl⟩
  · have l1 := small_cat e0 hy
    have l2 := small_cat l1 e3
    exact .inl ⟨y, rfl, Nat.le_trans hy (by decide), y, rfl, Nat.le_trans l1 (by decide), _, rfl, Nat.le_trans l2 (by decide), hR _⟩
  · have l1 := small_cat e0 hl
    have l2 := small_cat l1 e3
    exact .inr ⟨i, rfl, hi, _, rfl, Nat.le_trans l1 (by decide), _, rfl, Nat.le_trans l2 (by decide), hR _⟩
end
/-- all but what stands at l stays -/
def ButL (l : Addr) (H H' : Hp) : Prop := ∀ b o, H b = some o → b ≠ l → H' b = some o
theorem ButL.refl (l : Addr) (H : Hp) : ButL l H H := fun _ _ e _ => e
theorem ButL.trans {l : Addr} {H H1 H2 : Hp} (a : ButL l H H1) (b : ButL l H1 H2) : ButL l H H2 := fun c o e n => b c o (a c o e n) n
theorem ButL.of {l : Addr} {H H' : Hp} (s : Same H H') : ButL l H H' := fun b o e _ => s b o e
theorem ButL.upd {l : Addr} {H : Hp} {o : HO} : ButL l H (upd H l o) := fun b u e nb => by rw [upd_ne nb]; exact e
theorem ButL.same {l : Addr} {H H1 H2 : Hp} (s : Same H H1) (hl : H l = none) (b : ButL l H1 H2) : Same H H2 := fun x o e => b x o (s x o e) (ne_of_none e hl)
theorem stays_updL {H : Hp} {L : Addr} {zs : List V} {o : HO} (hL : H L = some (.lst zs)) : ∀ {ws : List V} {xs : List Stay}, StaysV H ws xs → StaysV (L2.upd H L o) ws xs
  | _, _, .nil => .nil
  | _, _, .cons h t => by
    obtain ⟨p, e, hp⟩ := h
    refine .cons ⟨p, e, ?_⟩ (stays_updL hL t)
    rw [upd_ne fun z => by rw [z, hL] at hp; cases hp]
    exact hp
/-! ### numbers -/
theorem okNum_int {z : Str} {m : Int} (h : okNum z m = true) (hz : z.length ≤ 640) : PySem.intText? z = some (valN z) := by
  have hf : fit z m = true := by
    unfold okNum at h
    exact (Bool.and_eq_true _ _ ▸ h).1
  unfold fit at hf
  simp only [Bool.and_eq_true, decide_eq_true_eq, List.all_eq_true] at hf
  obtain ⟨⟨h1, _⟩, h2⟩ := hf
  refine PySem.intText_digits (fun c hc => ?_) (fun e => ?_) (Nat.le_trans hz (by decide))
  · have := h2 c hc
    unfold digit at this
    simp only [Bool.and_eq_true, Bool.not_eq_true', decide_eq_false_iff_not] at this
    omega
  · have : z.length = 0 := by
      show z.cps.size = 0
      rw [← Array.length_toList, e]
      rfl
    omega
theorem okNum_len {z : Str} (h : okNum z 10 = true) : z.length ≤ 640 := by
  unfold okNum fit at h
  simp only [Bool.and_eq_true, decide_eq_true_eq] at h
  omega
theorem okName_short {z : Str} (h : okName z = true) : z.length ≤ 100000 ∧ z.cps.all (· < 0x110000) = true := by
  unfold okName at h
  simp only [Bool.and_eq_true, decide_eq_true_eq, List.all_eq_true] at h
  obtain ⟨_, h2, h3⟩ := h
  refine ⟨by omega, ?_⟩
  rw [← Array.all_toList, List.all_eq_true]
  intro c hc
  have := h3 c hc
  unfold letter at this
  simp only [Bool.and_eq_true, Bool.not_eq_true', decide_eq_false_iff_not] at this
  exact decide_eq_true (by omega)
theorem okWords_iff {ws : List Str} (h : okWords ws = true) : ∃ n t u v, ws = [n, t] ∧ okName n = true ∧ ticksOf t = [u, v] ∧ okNum u 10 = true ∧ okNum v 10 = true := by
  by_cases h2 : ws.length = 2
  · obtain ⟨n, t, rfl⟩ := two_of h2
    rw [okWords_two, Bool.and_eq_true] at h
    obtain ⟨h1, h3⟩ := h
    by_cases h4 : (ticksOf t).length = 2
    · obtain ⟨u, v, e⟩ := two_of h4
      rw [e, okTicks_two, Bool.and_eq_true] at h3
      exact ⟨n, t, u, v, rfl, h1, e, h3.1, h3.2⟩
    · rw [okTicks_not h4] at h3
      cases h3
  · rw [okWords_not h2] at h
    cases h
theorem wordsSay_eq {n t u v : Str} (e : ticksOf t = [u, v]) : wordsSay [n, t] = (n, valN u, valN v) := by
  show (n, ticksSay (ticksOf t)) = _
  rw [e]
  rfl
theorem badWords_cons (i : Nat) (ws : List Str) (r : List (List Str)) : badWordsFrom i (ws :: r) = if okWords ws = true then badWordsFrom (i + 1) r else some i := rfl
/-- what the words of all rows say -/
def saysAll (wss : List (List Str)) : List Stay := wss.map wordsSay
theorem badWords_take {wss : List (List Str)} : ∀ {i : Nat}, badWordsFrom i wss = none → ∀ ws ∈ wss, okWords ws = true := by
  induction wss with
  | nil => intro i _ ws h; cases h
  | cons x r ih =>
    intro i h ws hw
    unfold badWordsFrom at h
    by_cases c : okWords x = true
    · rw [if_pos c] at h
      rcases List.mem_cons.mp hw with rfl | hw
      · exact c
      · exact ih h ws hw
    · rw [if_neg c] at h
      cases h
section
variable {P : Program} {w : World} {K : PySem.W.Frag} {mg : Str → Option Value} {base : Heap}
abbrev NPAS : List Str := ["text", "stays", "row", "words", "come", "go"]
def spParse (CP CI CT : Addr) : Sp := fun vs H Q E => ∃ t : Str, vs = [.str t] ∧ t.length ≤ 1000 ∧
  (∀ i, badWordsFrom 0 (allWords t) = some i → ∀ (H' : Hp) (d : Addr), Same H H' → H' d = some (.xd [(("row" : Str), .int (i : Nat))]) → E (.ref CT) (some d) H') ∧
  (badWordsFrom 0 (allWords t) = none → (firstBad (saysAll (allWords t)) = none → ∀ (p : Addr) (H' : Hp), Same H H' → PartyAt CP H' p (saysAll (allWords t)) → Q (.ref p) H') ∧
    ∀ i, firstBad (saysAll (allWords t)) = some i → ∀ (H' : Hp) (d : Addr), Same H H' → H' d = some (.xd [(("index" : Str), .int (i : Nat))]) → E (.ref CI) (some d) H')
theorem scParse : FnScope NPAS ["text"] (defScope sParseParty) := ⟨rfl, rfl, rfl, by decide +kernel, rfl, by decide +kernel, by decide +kernel⟩
theorem ok_parse {f CP CI CT fI fR fS : Addr} {fd fdR fdS : FuncData} (F : Fun K "parse_party" "parse_party" sParseParty f fd) (B : Shg.Blt mg) (PC : PartyC K mg CP) (M : Mk K CP fI) (GI : FnR P w K mg base (L2.CX P w) 5 fI (spPNew CP CI)) (EC : ErrC P K mg "InvalidText" "row" nfTxt CT)
    (GR : FnOk P w K mg base CX0 1 fR fdR ["text"] spRows) (mR : mg "_rows_of" = some (.ref fR)) (kR : PySem.W.keepIn K (.ref fR) = true) (bR : Binds K fdR ["text"] [])
    (GS : FnOk P w K mg base CX0 2 fS fdS ["words"] spStayRow) (mS : mg "_is_stay_row" = some (.ref fS)) (kS : PySem.W.keepIn K (.ref fS) = true) (bS : Binds K fdS ["words"] []) :
    FnOk P w K mg base (L2.CX P w) 7 f fd ["text"] (spParse CP CI CT) := by
  refine F.okX scParse (fun vs H Q E h => ?_) (fun cdv A outer s H vs Q E hr h => ?_)
  · obtain ⟨t, rfl, _⟩ := h
    rfl
  · obtain ⟨t, rfl, hz, kBad, kOk⟩ := h
    have nd := scParse.nd
    have pass : Passes (L2.CX P w) (cxOf (L2.CX P w) P w K mg base NPAS "parse_party" (defScope sParseParty) f cdv A outer s H E) E := passes_call (takes_of rfl rfl rfl rfl) fun _ _ _ _ z => z
    refine ⟨_, pss_cons (ps_set (i := 1) nd rfl (Or.inl rfl) (pe_lst pa_nil))
      (pss_cons (ps_for (passes_of rfl) rfl (pi_enum (by rfl) B.enum (pa_cons (pe_call GR (hr.mono (by decide)) rfl mR kR bR .nil pass0 (pa_cons (pv 0) pa_nil)) pa_nil)) (pg_tup rfl (pgs_cons (pg_name (i := 2) nd rfl (Or.inl rfl)) (pgs_cons (pg_name (i := 3) nd rfl (Or.inl rfl)) pgs_nil)))
        (pss_cons (ps_if (pt_not (pt_val (pe_call GS (hr.mono (by decide)) rfl mS kS bS .nil pass0 (pa_cons (pv 3) pa_nil))))
          (pss_one (ps_raise rfl (takes_of rfl rfl rfl rfl) (pmk_txt (k := 0) EC (hr.mono (by decide)) passL (by rfl) (pk_cons (pv 2) pk_nil) rfl rfl rfl))) pss_nil)
        (pss_cons (ps_asg (pe_split (pe_ix ix_list (pv 3) pe_int (fun _ _ => rfl)) pe_str) (pg_lst rfl (pgs_cons (pg_name (i := 4) nd rfl (Or.inl rfl)) (pgs_cons (pg_name (i := 5) nd rfl (Or.inl rfl)) pgs_nil))))
        (pss_one (ps_expr (pe_bm PySem.F.plainAttrs_list PySem.F.slot_list_append PySem.F.type_list_append mt_append (pv 1) (pa_cons (pe_tup (pa_cons (pe_ix ix_list (pv 3) pe_int (fun _ _ => rfl)) (pa_cons (pe_callTy call_int_str (by rfl) B.int (by decide +kernel) (pa_cons (pv 4) pa_nil)) (pa_cons (pe_callTy call_int_str (by rfl) B.int (by decide +kernel) (pa_cons (pv 5) pa_nil)) pa_nil)))) pa_nil)))))))
      (pss_one (ps_ret (pe_makeS M GI hr rfl PC.gm pass (pv 1))))), ?_⟩
    refine ⟨Nat.zero_le _, fun L hL => ?_⟩
    have s1 : Same H (upd H L (.lst [])) := same_upd hL
    have hL1 : (upd H L (.lst [])) L = some (.lst []) := upd_same
    generalize upd H L (.lst []) = H1 at *
    refine ⟨_, rfl, t, rfl, hz, fun q H2 ys s2 hq e2 wv => ?_⟩
    have nq : q ≠ L := fun z => by rw [z, hL1] at hq; cases hq
    have wl := pair_len wv
    have al : (allWords t).length ≤ 1001 := by
      unfold allWords rowsOf
      rw [List.length_map]
      by_cases c : t = ""
      · rw [if_pos c]
        decide
      · rw [if_neg c]
        have := sepN.total t
        omega
    have hw1 : ∀ ws ∈ allWords t, ws.length ≤ 1001 ∧ ∀ z ∈ ws, z.length ≤ 1000 := by
      unfold allWords rowsOf
      intro ws h
      obtain ⟨r, hr', rfl⟩ := List.mem_map.mp h
      by_cases c : t = ""
      · rw [if_pos c] at hr'
        cases hr'
      · rw [if_neg c] at hr'
        have h1 := sepN.le t r hr'
        refine ⟨?_, fun z hz' => Nat.le_trans (Nat.le_trans (sepB.le r z hz') h1) hz⟩
        have := sepB.total r
        show (Txt.split r " ").length ≤ 1001
        omega
    refine ⟨q, ys, rfl, SqL.of e2, for_it walk_enum (fun i σ H3 => ∃ o2 o3 o4 o5 ws, σ = [some (.str t), some (.ref L), o2, o3, o4, o5] ∧ ButL L H2 H3 ∧ H3 L = some (.lst ws) ∧ StaysV H3 ws (saysAll ((allWords t).take i)) ∧ ws.length = i ∧ badWordsFrom i ((allWords t).drop i) = badWordsFrom 0 (allWords t))
      ⟨none, none, none, none, [], rfl, ButL.refl _ _, s2 _ _ hL1, .nil, rfl, rfl⟩ (fun i σ H3 _ ⟨_, _, _, _, _, _, b3, _⟩ => SqL.of (b3 _ _ e2 nq)) ?_ ?_⟩
    · rintro i y σ H3 H4 hi ⟨o2, o3, o4, o5, ws, rfl, b3, hL3, st3, wsl, bad⟩ ⟨T, y1, y2, rfl, hT, rfl, e1, e3⟩
      cases e1
      obtain ⟨wi, hwi, a, rfl, ha⟩ := pair_get wv e3
      have na : a ≠ L := fun z => by
        rw [z, s2 _ _ hL1] at ha
        obtain ⟨r, _, rfl⟩ := List.mem_map.mp (List.mem_of_getElem? hwi)
        exact wordsOf_ne r (HO.lst.inj (Option.some.inj ha)).symm
      have s4 : Same H3 (upd H3 T (.tup [.int (i : Nat), .ref a])) := same_upd hT
      have eT : (upd H3 T (.tup [.int (i : Nat), .ref a])) T = some (.tup [.int (i : Nat), .ref a]) := upd_same
      generalize upd H3 T (.tup [.int (i : Nat), .ref a]) = H4 at *
      have ha4 := s4 _ _ (b3 _ _ ha na)
      obtain ⟨lw, lz⟩ := hw1 wi (List.mem_of_getElem? hwi)
      have lt : i < (allWords t).length := (List.getElem?_eq_some_iff.mp hwi).1
      have hdrop : (allWords t).drop i = wi :: (allWords t).drop (i + 1) := by
        obtain ⟨lt, e⟩ := List.getElem?_eq_some_iff.mp hwi
        rw [List.drop_eq_getElem_cons lt, e]
      rw [hdrop, badWords_cons] at bad
      refine ⟨T, _, rfl, SqT.of eT, rfl, _, _, rfl, _, _, rfl, rfl, ?_⟩
      refine ⟨_, rfl, a, wi, rfl, ha4, lw, lz, fun H5 s5 => ⟨_, rfl, ?_⟩⟩
      have s03 : Same H H3 := ButL.same (s1.trans s2) hL b3
      have s05 : Same H H5 := (s03.trans s4).trans s5
      cases c : okWords wi with
      | false =>
        rw [if_neg (by rw [c]; exact Bool.false_ne_true)] at bad
        refine iteT ⟨_, rfl, _, rfl, .inr ⟨_, rfl, log_small (Nat.le_trans (Nat.le_trans (Nat.le_of_lt lt) al) (by decide))⟩, fun d hd => ?_⟩
        exact kBad i bad.symm _ d (s05.trans (same_upd hd)) upd_same
      | true =>
        rw [if_pos c] at bad
        obtain ⟨n, z, u, v, rfl, hn, ht, hu, hv⟩ := okWords_iff c
        refine iteF (nx_of ?_)
        have ha5 := s5 _ _ ha4
        have hzl := lz z (by simp)
        refine ⟨_, rfl, a, _, 1, .str z, rfl, rfl, SqL.of ha5, atI_nat (j := 1) rfl, ⟨z, rfl⟩, z, "-", rfl, rfl, by decide +kernel, Nat.le_trans (Nat.add_le_add_right hzl 2) (by decide), fun g hg => ?_⟩
        have ez : Txt.split z "-" = [u, v] := ht
        rw [ez]
        have lu := sepD.le z u (by rw [ez]; simp)
        have lv := sepD.le z v (by rw [ez]; simp)
        have nu : u.length ≤ 640 := okNum_len hu
        have nv : v.length ≤ 640 := okNum_len hv
        have s6 : Same H5 (upd H5 g (.lst ([u, v].map V.str))) := same_upd hg
        have eg : (upd H5 g (.lst ([u, v].map V.str))) g = some (.lst ([u, v].map V.str)) := upd_same
        generalize upd H5 g (.lst ([u, v].map V.str)) = H6 at *
        have hL6 := s6 _ _ (s5 _ _ (s4 _ _ hL3))
        refine ⟨g, _, rfl, SqL.of eg, rfl, _, _, rfl, _, _, rfl, rfl, ?_⟩
        refine ⟨_, rfl, .inl ⟨rfl, _, SqL.of hL6⟩, _, rfl, a, _, 0, .str n, rfl, rfl, SqL.of (s6 _ _ ha5), atI_nat (j := 0) rfl, _, rfl, u, valN u, rfl, okNum_int hu nu, nu, _, rfl, v, valN v, rfl, okNum_int hv nv, nv, by show 3 ≤ sizeLine; decide, fun p hp => ?_⟩
        have s7 : Same H6 (upd H6 p (.tup [.str n, .int (valN u), .int (valN v)])) := same_upd hp
        have ep : (upd H6 p (.tup [.str n, .int (valN u), .int (valN v)])) p = some (.tup [.str n, .int (valN u), .int (valN v)]) := upd_same
        generalize upd H6 p (.tup [.str n, .int (valN u), .int (valN v)]) = H7 at *
        have hL7 := s7 _ _ hL6
        have npL : p ≠ L := fun z => by rw [z, hL7] at ep; cases ep
        refine ⟨L, ws, .ref p, rfl, rfl, hL7, by rw [wsl]; exact Nat.lt_of_lt_of_le lt (Nat.le_trans al (by decide)), ?_⟩
        have s37 : Same H3 H7 := ((s4.trans s5).trans s6).trans s7
        have take1 : (allWords t).take (i + 1) = (allWords t).take i ++ [[n, z]] := by rw [List.take_add_one, hwi]; rfl
        refine ⟨_, _, _, _, ws ++ [.ref p], rfl, (b3.trans (ButL.of s37)).trans ButL.upd, upd_same, ?_, by rw [List.length_append, wsl]; rfl, bad⟩
        unfold saysAll
        rw [take1, List.map_append]
        refine pair_app (stays_updL hL7 (st3.same s37)) (.cons ⟨p, rfl, ?_⟩ .nil)
        rw [wordsSay_eq ht, upd_ne npL]
        exact ep
    · rintro σ H3 ⟨o2, o3, o4, o5, ws, rfl, b3, hL3, st3, wsl, bad⟩
      rw [wl] at wsl bad st3
      rw [List.take_length] at st3
      rw [List.drop_length] at bad
      have s03 : Same H H3 := ButL.same (s1.trans s2) hL b3
      obtain ⟨good, badS⟩ := kOk bad.symm
      refine ⟨_, rfl, L, ws, rfl, .inr (SqL.of hL3), ?_⟩
      refine party_new (C := CP) (CI := CI) st3 (fun x hx => ?_) (by rw [wsl]; exact Nat.le_trans al (by decide)) (fun e p H' s' hp PA => good e p H' (s03.trans s') PA) fun i e H' d s' hd ed => badS i e H' d (s03.trans s') ed
      obtain ⟨wi, hwi, rfl⟩ := List.mem_map.mp hx
      obtain ⟨n, z, u, v, rfl, hn, ht, _⟩ := okWords_iff (badWords_take bad.symm wi hwi)
      rw [wordsSay_eq ht]
      exact okName_short hn
end
end Sh1
set_option Elab.async false
set_option linter.all false
set_option maxRecDepth 100000
set_option maxHeartbeats 4000000
/-! max(list of ints, default=int). -/
namespace Sho
open PySem PySem.Spec PyProof.Rows L2 PySem.W
theorem maxOf_most (x : Int) : ∀ xs : List Int, maxOf x xs ∈ x :: xs ∧ ∀ y ∈ x :: xs, y ≤ maxOf x xs := by
  intro xs
  induction xs generalizing x with
  | nil => exact ⟨List.mem_singleton.mpr rfl, fun y h => by rw [List.mem_singleton.mp h]; exact Int.le_refl _⟩
  | cons a xs ih =>
    have e : maxOf x (a :: xs) = maxOf (if decide (x < a) = true then a else x) xs := rfl
    obtain ⟨h1, h2⟩ := ih (if decide (x < a) = true then a else x)
    rw [e]
    have top := h2 _ (List.mem_cons_self ..)
    by_cases c : x < a
    · rw [decide_eq_true c, if_pos rfl] at h1 h2 top ⊢
      refine ⟨List.mem_cons_of_mem _ h1, fun y hy => ?_⟩
      rcases List.mem_cons.mp hy with rfl | hy
      · omega
      · exact h2 y hy
    · rw [decide_eq_false c, if_neg Bool.false_ne_true] at h1 h2 top ⊢
      refine ⟨?_, fun y hy => ?_⟩
      · rcases List.mem_cons.mp h1 with h1 | h1
        · rw [h1]
          exact List.mem_cons_self ..
        · exact List.mem_cons_of_mem _ (List.mem_cons_of_mem _ h1)
      · rcases List.mem_cons.mp hy with rfl | hy
        · exact top
        · rcases List.mem_cons.mp hy with rfl | hy
          · omega
          · exact h2 y (List.mem_cons_of_mem _ hy)
theorem hold_ints {h : Heap} : ∀ {us : List Value} {ns : List Int}, IntsAre us ns → HoldAll h us ns
  | _, _, .nil => HoldAll.nil
  | _, _, .cons n t r => HoldAll.cons ⟨_, .int n t⟩ (hold_ints r)
def rMaxDef (K : PySem.W.Frag) : List V → List V → Hp → VK → Prop := fun xs zs H Q => ∃ (a : Addr) (ns : List Int) (d : Int), xs = [V.ref a] ∧ zs = [V.int d] ∧ SqL K H a (ns.map V.int) ∧ ∀ m, ((ns = [] ∧ m = d) ∨ (m ∈ ns ∧ ∀ y, y ∈ ns → y ≤ m)) → Q (.int m) H
theorem cr_maxDef {X : Cx} {k : Nat} (hr : Room k X.A) : CallRK X (.builtin "max") [Str.ofString "default"] (rMaxDef X.K) := by
  intro pins s σ H xs zs us ws Q I rx rz h
  obtain ⟨a, ns, d, rfl, rfl, hs, q⟩ := h
  obtain ⟨its, rv, hl, _⟩ := I.list hs
  rw [Vals.ref1 rx]
  obtain ⟨w1, rfl, e1⟩ := vals1 rz
  obtain ⟨t, rfl⟩ := e1
  have hI := rv.ints
  have hu : X.A.units + 1 + Datum.depth Int < cLine := by
    have := hr.un
    show X.A.units + 1 + 0 < _
    omega
  refine max_list_datum_default hr.hd hl.isList (xs := ns) (by rw [List.toList_toArray]; exact hold_ints hI) hu (fun e h' tk hk => ⟨.int d, H, I.kept hk, ⟨_, rfl⟩, q d (Or.inl ⟨e, rfl⟩)⟩) fun y ys i v h' tk e hi hd hk => ?_
  obtain ⟨as, hd⟩ := hd
  obtain ⟨t', rfl⟩ : ∃ t', v = .int (maxOf y ys) t' := by
    cases hd
    exact ⟨_, rfl⟩
  exact ⟨.int _, H, I.kept hk, ⟨_, rfl⟩, q _ (Or.inr (by rw [e]; exact maxOf_most y ys))⟩
end Sho
set_option Elab.async false
set_option linter.all false
set_option maxRecDepth 100000
set_option maxHeartbeats 2000000
/-! text * int. -/
namespace Sho
open PySem PySem.Spec PyProof.Rows L2
/-- k times z -/
def repS (z : Str) (k : Nat) : Str := ⟨(List.replicate k z.cps.toList).flatten.toArray⟩
theorem str_ext {a b : Str} (h : a.cps.toList = b.cps.toList) : a = b := by
  obtain ⟨a⟩ := a
  obtain ⟨b⟩ := b
  congr 1
  exact Array.toList_inj.mp h
theorem repS_one (z : Str) : repS z 1 = z := str_ext (by
  show (z.cps.toList ++ []) = z.cps.toList
  rw [List.append_nil])
theorem repS_nil {z : Str} (h : z.length = 0) (k : Nat) : repS z k = z := str_ext (by
  have e : z.cps.toList = [] := List.eq_nil_of_length_eq_zero (by rw [Array.length_toList]; exact h)
  show (List.replicate k z.cps.toList).flatten = z.cps.toList
  rw [e]
  induction k with
  | zero => rfl
  | succ k ih =>
    rw [List.replicate_succ, List.flatten_cons, ih]
    rfl)
theorem repS_fold (z : Str) (k : Nat) : (⟨(List.replicate k z.cps).foldl (· ++ ·) #[]⟩ : Str) = repS z k := str_ext (by
  have go : ∀ (l : List (Array Nat)) (a : Array Nat), (l.foldl (· ++ ·) a).toList = a.toList ++ (l.map Array.toList).flatten := by
    intro l
    induction l with
    | nil => intro a; simp
    | cons x l ih =>
      intro a
      rw [List.foldl_cons, ih]
      simp
  show ((List.replicate k z.cps).foldl (· ++ ·) #[]).toList = (List.replicate k z.cps.toList).flatten
  rw [go]
  simp)
theorem repS_len (z : Str) (k : Nat) : (repS z k).length = k * z.length := by
  show (List.replicate k z.cps.toList).flatten.toArray.size = _
  rw [List.size_toArray, List.length_flatten, List.map_replicate, List.sum_replicate_nat, Array.length_toList]
  rfl
def rRepS : R2 := fun x y H Q => ∃ (z : Str) (n : Int), x = .str z ∧ y = .int n ∧ n ≤ 10000 ∧ -10000 ≤ n ∧ z.length ≤ 1000 ∧ Q (.str (repS z n.toNat)) H
theorem op_repS {X : Cx} : OpR X (binaryOp .Mult) rRepS := by
  intro pins s σ H x y v u Q I rx ry h
  obtain ⟨z, n, rfl, rfl, h1, h2, hz, q⟩ := h
  obtain ⟨t, rfl⟩ := rx
  obtain ⟨t', rfl⟩ := ry
  have hr : (decide (n < -(2 ^ 63 : Int)) || decide (n ≥ 2 ^ 63)) = false := by
    have a : ¬ n < -(2 ^ 63 : Int) := by omega
    have b : ¬ n ≥ 2 ^ 63 := by omega
    rw [decide_eq_false a, decide_eq_false b]
    rfl
  have small : z.length * n.toNat ≤ 10000000 := by
    have : n.toNat ≤ 10000 := by omega
    exact Nat.le_trans (Nat.mul_le_mul hz this) (by decide)
  refine PySem.P.mul_str hr (fun c _ => ?_) (fun c _ => ?_) ?_
  · have hn : 1 ≤ n := by omega
    have : (2 ^ 63 - 1 : Int) / n ≥ (2 ^ 63 - 1) / 10000 := by
      refine Int.le_ediv_of_mul_le (by omega) ?_
      have : (2 ^ 63 - 1 : Int) / 10000 * n ≤ (2 ^ 63 - 1) / 10000 * 10000 := Int.mul_le_mul_of_nonneg_left h1 (by decide)
      have e : (2 ^ 63 - 1 : Int) / 10000 * 10000 ≤ 2 ^ 63 - 1 := by decide
      omega
    have e2 : (2 ^ 63 - 1 : Int) / 10000 ≥ 1000 := by decide
    omega
  · show decide (z.length * n.toNat > sizeLine) = false
    refine decide_eq_false ?_
    have : (10000000 : Nat) ≤ sizeLine := by decide
    omega
  · by_cases c1 : n < 1
    · rw [if_pos c1]
      have e : n.toNat = 0 := by omega
      have e0 : repS z n.toNat = Str.empty := by
        rw [e]
        rfl
      rw [e0] at q
      exact ⟨by decide, .str Str.empty, H, I.tok _, ⟨_, rfl⟩, q⟩
    · rw [if_neg c1]
      cases c2 : (n == 1 || z.length == 0) with
      | true =>
        rw [if_pos rfl]
        refine ⟨.str (repS z n.toNat), H, I, ⟨t, ?_⟩, q⟩
        have e : repS z n.toNat = z := by
          rcases (Bool.or_eq_true _ _).mp c2 with h | h
          · have : n = 1 := by simpa using h
            rw [this]
            exact repS_one z
          · exact repS_nil (by simpa using h) _
        rw [e]
      | false =>
        rw [if_neg Bool.false_ne_true, repS_fold]
        refine ⟨?_, .str (repS z n.toNat), H, I.tok _, ⟨_, rfl⟩, q⟩
        rw [repS_len, Nat.mul_comm]
        exact Nat.le_trans small (by decide)
end Sho
set_option Elab.async false
set_option linter.all false
set_option maxRecDepth 100000
set_option maxHeartbeats 2000000
/-! {text:<8} and {int:>4}. -/
namespace Sho
open PySem PySem.Spec PyProof.Rows L2 PySem.Builtin PySem.Builtin.Str PySem.Builtin.Float
def fs8 : FormatSpec := { align := 60, width := some 8 }
theorem parse8 (n : String) : parseFormatSpec [60, 56] n 60 = .ok fs8 := by kernel_rfl
theorem sub_all (x : Str) : strSub x 0 x.length = x := str_ext (by
  show (x.cps.extract 0 x.cps.size).toList = _
  rw [Array.extract_size])
theorem field8 (x : Str) (n : String) (h : x.length < 8) : strField x fs8 n = .ok (some (padded x 0 (8 - x.length) 32)) := by
  have e : (decide (8 ≤ x.length) && true) = false := by
    rw [decide_eq_false (by omega)]
    rfl
  show (if (decide (8 ≤ x.length) && true) = true then (pure none : Except String (Option Str)) else pure (some (padded (strSub x 0 x.length) 0 (8 - (strSub x 0 x.length).length - 0) 32))) = _
  rw [e, sub_all]
  rfl
theorem field8w (x : Str) (n : String) (h : 8 ≤ x.length) : strField x fs8 n = .ok none := by
  show (if (decide (8 ≤ x.length) && true) = true then (pure none : Except String (Option Str)) else _) = _
  rw [decide_eq_true h]
  rfl
theorem gives_lt8 (x : Str) (t u : Tok) : Gives («str.__format__» ⟨[.str x t, .str "<8" u], []⟩) (if x.length < 8 then .str (padded x 0 (8 - x.length) 32) else .val (.str x t)) := by
  show Gives (match (do
    let f ← parseFormatSpec [60, 56] ((Manifest.find? "str").elim "str" (·.tpName)) 60
    let f := if f.type.isNone && (("<8" : Str).cps.back? == some 0) then { f with type := some 0 } else f
    if PySem.Builtin.Str.tooLong (f.width.getD 0) then return none
    return some (← strField x f ((Manifest.find? "str").elim "str" (·.tpName))) : Except String (Option (Option Str))) with
    | .error msg => _
    | .ok none => _
    | .ok (some none) => _
    | .ok (some (some text)) => retStr text) _
  rw [parse8]
  show Gives (match (do return some (← strField x fs8 ((Manifest.find? "str").elim "str" (·.tpName))) : Except String (Option (Option Str))) with
    | .error msg => _
    | .ok none => _
    | .ok (some none) => (do rule "str.__format__.unchanged"; ret (.str x t))
    | .ok (some (some text)) => retStr text) _
  by_cases h : x.length < 8
  · rw [if_pos h, field8 x _ h]
    exact .of_eq rfl
  · rw [if_neg h, field8w x _ (by omega)]
    exact .rule (.of_eq rfl)
/-- with a width: whatever the method gives, it is a text -/
theorem field_gives {prog : Program} {w : World} {A : Around} {E : Value → Shared → Prop} {s : Shared} {T idf : String} {B : Builtin} {v : Value} {sp : Str} {m : PySem.Made} {Q : Value → Shared → Prop} (hne : (sp.length == 0) = false) (hT : ∀ s' : Shared, s'.TypeIs v T) (slot : Slot T "__format__" idf)
    (entry : entryFor table idf = some B) (args : ∀ a b, argsOk idf ⟨[a, b], []⟩) (g : ∀ u, Gives (B ⟨[v, .str sp u], []⟩) m)
    (h : m.post (fun r s' => ∃ y t, r = .str y t ∧ Q (.str y t) s') { s with toks := s.toks + 1 }) (hsz : sp.length ≤ sizeLine) : wpAny (model prog w) A (formatField v sp) Q E s := by
  have e : formatField v sp = holding [v] (pyFormat v sp) := by
    unfold formatField
    cases v <;> simp only [hne, Bool.false_eq_true, if_false] <;> rfl
  rw [e]
  refine wpAny_holding ?_
  unfold pyFormat
  refine wpAny_bind (wpAny_mkStr ?_ hsz)
  refine wpAny_bind (m := callSpecial? v (Str.ofString "__format__") [.str sp s.toks]) (wpAny_callSpecial?_slot (name := Str.ofString "__format__") (hT _) slot (wpAny_mono (call_gives slot (hT _) entry (args _ _) (g _) h) (fun r s' z => ?_) fun _ _ z => z))
  obtain ⟨y, t, rfl, q⟩ := z
  exact wpAny_bind (wpAny_isInstance (T := "str") (b := true) rfl isSubtype_str_str (wpAny_pure q))
/-- filled up on the right, on the left -/
def padR (y : Str) (k : Nat) : Str := if y.length < k then padded y 0 (k - y.length) 32 else y
def padL (y : Str) (k : Nat) : Str := if y.length < k then padded y (k - y.length) 0 32 else y
section
open PySem.W
theorem m_gt4_0 (t : Tok) : ∀ u, Meets («int.__format__» ⟨[.int 0 t, .str ">4" u], []⟩) (fun _ R s => ∀ t' k, R (.ok (.ret (.str "   0" t'))) { s with toks := k }) := by kxf_run_i
theorem m_gt4_1 (t : Tok) : ∀ u, Meets («int.__format__» ⟨[.int 1 t, .str ">4" u], []⟩) (fun _ R s => ∀ t' k, R (.ok (.ret (.str "   1" t'))) { s with toks := k }) := by kxf_run_i
theorem m_gt4_2 (t : Tok) : ∀ u, Meets («int.__format__» ⟨[.int 2 t, .str ">4" u], []⟩) (fun _ R s => ∀ t' k, R (.ok (.ret (.str "   2" t'))) { s with toks := k }) := by kxf_run_i
theorem m_gt4_3 (t : Tok) : ∀ u, Meets («int.__format__» ⟨[.int 3 t, .str ">4" u], []⟩) (fun _ R s => ∀ t' k, R (.ok (.ret (.str "   3" t'))) { s with toks := k }) := by kxf_run_i
theorem m_gt4_4 (t : Tok) : ∀ u, Meets («int.__format__» ⟨[.int 4 t, .str ">4" u], []⟩) (fun _ R s => ∀ t' k, R (.ok (.ret (.str "   4" t'))) { s with toks := k }) := by kxf_run_i
theorem m_gt4_5 (t : Tok) : ∀ u, Meets («int.__format__» ⟨[.int 5 t, .str ">4" u], []⟩) (fun _ R s => ∀ t' k, R (.ok (.ret (.str "   5" t'))) { s with toks := k }) := by kxf_run_i
theorem m_gt4_6 (t : Tok) : ∀ u, Meets («int.__format__» ⟨[.int 6 t, .str ">4" u], []⟩) (fun _ R s => ∀ t' k, R (.ok (.ret (.str "   6" t'))) { s with toks := k }) := by kxf_run_i
theorem m_gt4_7 (t : Tok) : ∀ u, Meets («int.__format__» ⟨[.int 7 t, .str ">4" u], []⟩) (fun _ R s => ∀ t' k, R (.ok (.ret (.str "   7" t'))) { s with toks := k }) := by kxf_run_i
theorem field_gt4 {prog : Program} {w : World} {A : Around} {E : Value → Shared → Prop} {s : Shared} {t : Tok} {n : Int} {Q : Value → Shared → Prop} (h0 : 0 ≤ n) (h7 : n ≤ 7) (h : ∀ t' k, Q (.str (padL (Str.ofString (toString n)) 4) t') { s with toks := k }) : wpAny (model prog w) A (formatField (.int n t) ">4") Q E s := by
  have c : n = 0 ∨ n = 1 ∨ n = 2 ∨ n = 3 ∨ n = 4 ∨ n = 5 ∨ n = 6 ∨ n = 7 := by omega
  rcases c with rfl | rfl | rfl | rfl | rfl | rfl | rfl | rfl
  · exact KXf.field_int rfl (by decide +kernel) (by decide +kernel) (m_gt4_0 t) h
  · exact KXf.field_int rfl (by decide +kernel) (by decide +kernel) (m_gt4_1 t) h
  · exact KXf.field_int rfl (by decide +kernel) (by decide +kernel) (m_gt4_2 t) h
  · exact KXf.field_int rfl (by decide +kernel) (by decide +kernel) (m_gt4_3 t) h
  · exact KXf.field_int rfl (by decide +kernel) (by decide +kernel) (m_gt4_4 t) h
  · exact KXf.field_int rfl (by decide +kernel) (by decide +kernel) (m_gt4_5 t) h
  · exact KXf.field_int rfl (by decide +kernel) (by decide +kernel) (m_gt4_6 t) h
  · exact KXf.field_int rfl (by decide +kernel) (by decide +kernel) (m_gt4_7 t) h
end
/-- {int:>4} of a small number -/
def gt4 (n : Int) : Str := padL (Str.ofString (toString n)) 4
def tGt4 (te : TE) : TE := fun σ H Q => te σ H fun x H1 => ∃ n : Int, x = .int n ∧ 0 ≤ n ∧ n ≤ 7 ∧ Q (.str (gt4 n)) H1
section
variable {X : Cx} {e : Expr} {te : TE} {pos jp : Pos}
def tLt8 (te : TE) : TE := fun σ H Q => te σ H fun x H1 => ∃ y : Str, x = .str y ∧ y.length ≤ 1000 ∧ Q (.str (padR y 8)) H1
theorem spec_eval {z : Str} {k : Nat} {kp : Pos} {pins : List (Addr × Obj)} {σ : L2.St} {H : Hp} {s : Shared} (I : Inv X pins σ H s) {Q : Value → Shared → Prop} (q : ∀ s' t, Inv X pins σ H s' → Q (.str z t) s') : wpAny (model X.prog X.w) X.A (eval (.JoinedStr [.Constant (.str z) k kp] jp) X.env) Q X.xe s := by
  refine thn ((pe_joined1 (pos := jp) (pe_str (X := X) (x := z) (j := k) (pos := kp))).run pins s σ H (fun v H' => v = .str z ∧ H' = H) I ⟨rfl, rfl⟩) fun v s' hv => ?_
  obtain ⟨x, H1, I1, r1, rfl, rfl⟩ := hv
  obtain ⟨t, rfl⟩ := r1
  exact q s' t I1
theorem pe_lt8 {k : Nat} {kp : Pos} (he : PE X e te) : PE X (.FormattedValue e (-1) (some (.JoinedStr [.Constant (.str "<8") k kp] jp)) pos) (tLt8 te) := by
  refine ⟨fun pins s σ H Q I h => ?_⟩
  refine wpAny_FormattedValue_spec (thn (he.run pins s σ H _ I h) fun v s1 hv => ?_)
  obtain ⟨x, H1, I1, r1, y, rfl, hy, q⟩ := hv
  obtain ⟨t, rfl⟩ := r1
  refine spec_eval I1 fun s2 t2 I2 => ⟨_, t2, rfl, ?_⟩
  refine field_gives (by decide +kernel) (fun s' => typeIs_str s' _ _) PySem.F.slot_str_format PySem.F.entry_str_format PySem.F.args_str_format_2 (fun u => gives_lt8 y t u) ?_ (by decide +kernel)
  by_cases c : y.length < 8
  · rw [if_pos c]
    have e : padR y 8 = padded y 0 (8 - y.length) 32 := if_pos c
    rw [e] at q
    refine ⟨?_, _, _, rfl, ⟨.str (padded y 0 (8 - y.length) 32), H1, (I2.tok _).tok _, ⟨_, rfl⟩, q⟩⟩
    show (Array.replicate 0 32 ++ y.cps ++ Array.replicate (8 - y.length) 32).size ≤ sizeLine
    have : y.cps.size = y.length := rfl
    simp
    rw [sizeLine_eq]
    omega
  · rw [if_neg c]
    have e : padR y 8 = y := if_neg c
    rw [e] at q
    exact ⟨_, _, rfl, .str y, H1, I2.tok _, ⟨_, rfl⟩, q⟩
theorem pe_gt4 {k : Nat} {kp : Pos} (he : PE X e te) : PE X (.FormattedValue e (-1) (some (.JoinedStr [.Constant (.str ">4") k kp] jp)) pos) (tGt4 te) := by
  refine ⟨fun pins s σ H Q I h => ?_⟩
  refine wpAny_FormattedValue_spec (thn (he.run pins s σ H _ I h) fun v s1 hv => ?_)
  obtain ⟨x, H1, I1, r1, n, rfl, h0, h7, q⟩ := hv
  obtain ⟨t, rfl⟩ := r1
  refine spec_eval I1 fun s2 t2 I2 => ⟨_, t2, rfl, ?_⟩
  exact field_gt4 h0 h7 fun t' k => ⟨.str (gt4 n), H1, I2.tok _, ⟨_, rfl⟩, q⟩
end
end Sho
set_option Elab.async false
set_option linter.all false
set_option maxRecDepth 100000
set_option maxHeartbeats 4000000
/-! format_party. -/
namespace Sh1
open PySem L2 Sho NdefX Shg
def tJoin (ts : List TE) : TE := fun σ H Q => tJs ts Str.empty σ H fun out H1 => Q (.str out) H1
theorem pe_joinT {X : Cx} {v1 v2 : Expr} {rest : List Expr} {ts : List TE} {pos : Pos} (h : PJ X (v1 :: v2 :: rest) ts) : PE X (.JoinedStr (v1 :: v2 :: rest) pos) (tJoin ts) := pe_joined h
def numS (i : Int) : Str := Str.ofString (toString i)
theorem numS_tl {i : Int} (h : 0 ≤ i) : TL.tl (numS i) = TL.numL i.toNat := by
  obtain ⟨n, rfl⟩ := Int.eq_ofNat_of_zero_le h
  exact TL.tl_num n
theorem numS_len {i : Int} (h0 : 0 ≤ i) (h1 : i ≤ 1000000000) : (numS i).length ≤ 10 := by
  rw [TL.len_tl, numS_tl h0]
  exact TL.numL_len (by decide) (show i.toNat < 10 ^ 10 by omega)
/-- the row of a stay -/
def rowText (x : Stay) : Str := x.1 ++ " " ++ numS x.2.1 ++ "-" ++ numS x.2.2
/-- a stay with a short name and ticks -/
def Tidy (x : Stay) : Prop := x.1.length ≤ 8 ∧ 0 ≤ x.2.1 ∧ x.2.1 ≤ 1000000000 ∧ 0 ≤ x.2.2 ∧ x.2.2 ≤ 1000000000
theorem len_str (a b : Str) : (a ++ b).length = a.length + b.length := PySem.Str.length_append ..
theorem rowText_len {x : Stay} (h : Tidy x) : (rowText x).length ≤ 30 := by
  obtain ⟨h1, h2, h3, h4, h5⟩ := h
  have l1 := numS_len h2 h3
  have l2 := numS_len h4 h5
  unfold rowText
  have e1 : (Str.ofString " ").length = 1 := by decide +kernel
  have e2 : (Str.ofString "-").length = 1 := by decide +kernel
  rw [len_str, len_str, len_str, len_str, e1, e2]
  omega
theorem small_log {i : Int} (h0 : 0 ≤ i) (h1 : i ≤ 1000000000) : i.natAbs.log2 < 1920 := by
  have : i.natAbs < 2 ^ 30 := by omega
  have h2 : i.natAbs.log2 < 30 := by
    by_cases z : i.natAbs = 0
    · rw [z]
      decide
    · exact (Nat.log2_lt z).mpr this
  omega
theorem sum_le {α : Type} (f : α → Nat) (n : Nat) : ∀ l : List α, (∀ x ∈ l, f x ≤ n) → (l.map f).sum ≤ l.length * n
  | [], _ => by simp
  | x :: l, h => by
    rw [List.map_cons, List.sum_cons, List.length_cons, Nat.succ_mul]
    have h1 := h x (by simp)
    have h2 := sum_le f n l fun y hy => h y (List.mem_cons_of_mem _ hy)
    omega
def textOf (xs : List Stay) : Str := Txt.join "\n" (xs.map rowText)
section
variable {P : Program} {w : World} {K : PySem.W.Frag} {mg : Str → Option Value} {base : Heap}
def spFormat (CP : Addr) : Sp := fun vs H Q _ => ∃ (p : Addr) (xs : List Stay), vs = [.ref p] ∧ PartyAt CP H p xs ∧ (∀ x ∈ xs, Tidy x) ∧ xs.length ≤ 24 ∧ ∀ H', Same H H' → Q (.str (textOf xs)) H'
theorem scFormat : FnScope ["party", "name", "come", "go"] ["party"] (defScope sFormatParty) := ⟨rfl, rfl, rfl, by decide +kernel, rfl, by decide +kernel, by decide +kernel⟩
theorem ok_format {f CP fS pS : Addr} {fd fdS : FuncData} (F : Fun K "format_party" "format_party" sFormatParty f fd) (B : Shg.Blt mg) (PC : PartyC K mg CP)
    (GS : FnOk P w K mg base CX0 1 fS fdS ["self"] (getSp CP "_stays")) (hS : PropOf K CP "stays" pS fS) (bS : Binds K fdS ["self"] []) : FnOk P w K mg base CX0 4 f fd ["party"] (spFormat CP) := by
  refine F.ok scFormat (fun vs H Q E h => ?_) (fun cdv A outer s H vs Q E hr h => ?_)
  · obtain ⟨p, xs, rfl, _⟩ := h
    rfl
  · obtain ⟨p, xs, rfl, PA, hok, hl, k⟩ := h
    have nd := scFormat.nd
    refine ⟨_, pss_one (ps_ret (pe_join pe_str (pe_lc (own := [("name", 1), ("come", 2), ("go", 3)]) (g := gTup K 3 (gCons (gName 1) (gCons (gName 2) (gCons (gName 3) gNil)))) (tt := tYes)
      (te := tJoin [tFmt (tVar 1), tC (.str " "), tFmt (tVar 2), tC (.str "-"), tFmt (tVar 3)]) rfl nd
      (pi_tup (pe_prop (pv 0) PC.cl hS GS (hr.mono (by decide)) bS .nil pass0 rfl)) (blkOk_by (own := [("name", 1), ("come", 2), ("go", 3)]) (N := ["party", "name", "come", "go"]) (sc := defScope sFormatParty) (by decide +kernel))
      (fun _ _ _ _ _ => pg_tup rfl (pgs_cons (pg_name (i := 1) nd rfl (Or.inl rfl)) (pgs_cons (pg_name (i := 2) nd rfl (Or.inl rfl)) (pgs_cons (pg_name (i := 3) nd rfl (Or.inl rfl)) pgs_nil))))
      (fun _ _ _ _ _ => pts_nil) (fun _ _ _ _ _ => pe_joinT (.cons (pe_fmt (pv 1)) (.cons pe_str (.cons (pe_fmt (pv 2)) (.cons pe_str (.cons (pe_fmt (pv 3)) .nil))))))))), ?_⟩
    obtain ⟨dx, a, ws, h1, h2, h3⟩ := id PA
    have wl := pair_len h3
    refine ⟨⟨_, rfl⟩, _, rfl, p, dx, _, rfl, h1, p, dx, _, .ref a, rfl, h1, lk_stays _, a, rfl, ⟨_, SqT.of h2⟩, fun D hD => ?_⟩
    refine lc_map walk_tup (fun i => (xs[i]?).map fun x => .str (rowText x)) hD (by rw [wl]; exact Nat.le_trans hl (by decide)) (fun H1 s1 => SqT.of (s1 _ _ h2)) (fun i v H1 H' hi s1 y R k1 => ?_) (fun i hi => ⟨_, by rw [List.getElem?_eq_getElem (by rw [← wl]; exact hi)]; rfl⟩) fun H1 s1 e1 => ?_
    · obtain ⟨rfl, e2⟩ := y
      obtain ⟨x, hx, t, rfl, ht⟩ := pair_get h3 e2
      have T := hok x (List.mem_of_getElem? hx)
      have lr := rowText_len T
      obtain ⟨t1, t2, t3, t4, t5⟩ := T
      have z1 : (Str.empty ++ x.1) = x.1 := PySem.Str.empty_append _
      have small : ∀ {y : Str}, y.length ≤ 30 → y.length ≤ sizeLine := fun h => Nat.le_trans h (by decide)
      have e5 : rowText x = x.1 ++ " " ++ numS x.2.1 ++ "-" ++ numS x.2.2 := rfl
      have l5 : rowText x = (x.1 ++ " " ++ numS x.2.1 ++ "-") ++ numS x.2.2 := rfl
      have l4 : (x.1 ++ " " ++ numS x.2.1 ++ "-").length ≤ 30 := by rw [l5, len_str] at lr; omega
      have l3 : (x.1 ++ " " ++ numS x.2.1).length ≤ 30 := by rw [len_str] at l4; omega
      have l2 : (x.1 ++ " ").length ≤ 30 := by rw [len_str] at l3; omega
      have l1 : x.1.length ≤ 30 := by rw [len_str] at l2; omega
      refine ⟨t, _, rfl, SqT.of (s1 _ _ ht), rfl, _, _, rfl, _, _, rfl, _, _, rfl, rfl, rfl, ?_⟩
      refine ⟨_, rfl, .inl ⟨x.1, rfl, small l1, _, rfl, ?_, ?_⟩⟩
      · rw [z1]
        exact small l1
      · rw [z1]
        refine ⟨_, rfl, small l2, _, rfl, .inr ⟨x.2.1, rfl, small_log t2 t3, _, rfl, small l3, _, rfl, small l4, _, rfl, .inr ⟨x.2.2, rfl, small_log t4 t5, _, rfl, small lr, ?_⟩⟩⟩
        exact k1 _ _ (Same.refl _) (by rw [hx]; rfl)
    · rw [wl, gather_map xs fun x => V.str (rowText x)] at e1
      have e2 : xs.map (fun x => V.str (rowText x)) = (xs.map rowText).map V.str := by
        rw [List.map_map]
        rfl
      rw [e2] at e1
      refine ⟨"\n", D, xs.map rowText, rfl, rfl, .inl (SqL.of e1), ?_, k _ s1⟩
      have e3 : (Str.ofString "\n").length = 1 := by decide +kernel
      rw [e3, List.map_map, List.length_map]
      have := sum_le ((fun y : Str => y.length) ∘ rowText) 30 xs fun x hx => rowText_len (hok x hx)
      omega
end
end Sh1
set_option Elab.async false
set_option linter.all false
set_option maxRecDepth 100000
set_option maxHeartbeats 4000000
/-! sorted(xs, key=lambda ..): a stable order by whole numbers. -/
namespace Sho
open PySem PySem.Spec PyProof.Rows L2 LamX NdefX

/-! ### the order -/
section
variable {α β : Type}
def insK (p : Int × α) : List (Int × α) → List (Int × α)
  | [] => [p]
  | q :: r => if p.1 ≤ q.1 then p :: q :: r else q :: insK p r
def sortK : List (Int × α) → List (Int × α)
  | [] => []
  | p :: r => insK p (sortK r)
/-- ys in the order of their numbers kz; who stands first stays first among equals -/
def sortV (kz : List Int) (ys : List α) : List α := (sortK (kz.zip ys)).map Prod.snd
theorem insK_perm (p : Int × α) : ∀ l, (insK p l).Perm (p :: l)
  | [] => .refl _
  | q :: r => by
    unfold insK
    split
    · exact .refl _
    · exact ((insK_perm p r).cons q).trans (.swap p q r)
theorem sortK_perm : ∀ l : List (Int × α), (sortK l).Perm l
  | [] => .refl _
  | p :: r => (insK_perm p (sortK r)).trans ((sortK_perm r).cons p)
theorem insK_pair (p : Int × α) : ∀ {l : List (Int × α)}, l.Pairwise (fun a b => a.1 ≤ b.1) → (insK p l).Pairwise (fun a b => a.1 ≤ b.1)
  | [], _ => List.pairwise_singleton _ _
  | q :: r, h => by
    have hh := List.pairwise_cons.mp h
    unfold insK
    split
    · rename_i le
      refine List.pairwise_cons.mpr ⟨fun b hb => ?_, h⟩
      rcases List.mem_cons.mp hb with rfl | hb
      · exact le
      · exact Int.le_trans le (hh.1 b hb)
    · rename_i le
      refine List.pairwise_cons.mpr ⟨fun b hb => ?_, insK_pair p hh.2⟩
      rcases List.mem_cons.mp ((insK_perm p r).mem_iff.mp hb) with rfl | hb
      · omega
      · exact hh.1 b hb
theorem sortK_pair : ∀ l : List (Int × α), (sortK l).Pairwise (fun a b => a.1 ≤ b.1)
  | [] => .nil
  | p :: r => insK_pair p (sortK_pair r)
theorem insK_filter (p : Int × α) (c : Int) : ∀ l : List (Int × α), (insK p l).filter (fun q => q.1 == c) = (p :: l).filter (fun q => q.1 == c)
  | [] => rfl
  | q :: r => by
    unfold insK
    split
    · rfl
    · rename_i le
      have ih := insK_filter p c r
      rw [List.filter_cons, ih, List.filter_cons (x := p), List.filter_cons (x := p), List.filter_cons (x := q)]
      by_cases h1 : (p.1 == c) = true
      · have h2 : (q.1 == c) = false := by
          have := beq_iff_eq.mp h1
          simp only [beq_eq_false_iff_ne, ne_eq]
          omega
        simp [h1, h2]
      · simp [h1]
theorem sortK_filter (c : Int) : ∀ l : List (Int × α), (sortK l).filter (fun q => q.1 == c) = l.filter (fun q => q.1 == c)
  | [] => rfl
  | p :: r => by
    show (insK p (sortK r)).filter _ = _
    rw [insK_filter, List.filter_cons, List.filter_cons, sortK_filter c r]
/-- a sorted list that keeps equals in order is the only one -/
theorem stable_one : ∀ {l m : List (Int × α)}, l.Pairwise (fun a b => a.1 ≤ b.1) → m.Pairwise (fun a b => a.1 ≤ b.1) → (∀ c, l.filter (fun q => q.1 == c) = m.filter (fun q => q.1 == c)) → l = m
  | [], [], _, _, _ => rfl
  | [], q :: m, _, _, h => by
    have := h q.1
    simp at this
  | p :: l, [], _, _, h => by
    have := h p.1
    simp at this
  | p :: l, q :: m, hl, hm, h => by
    have hl' := List.pairwise_cons.mp hl
    have hm' := List.pairwise_cons.mp hm
    have mem1 : p ∈ (q :: m) := by
      have e := h p.1
      have : p ∈ (p :: l).filter (fun z => z.1 == p.1) := List.mem_filter.mpr ⟨List.mem_cons_self, by simp⟩
      rw [e] at this
      exact (List.mem_filter.mp this).1
    have mem2 : q ∈ (p :: l) := by
      have e := h q.1
      have : q ∈ (q :: m).filter (fun z => z.1 == q.1) := List.mem_filter.mpr ⟨List.mem_cons_self, by simp⟩
      rw [← e] at this
      exact (List.mem_filter.mp this).1
    have e1 : q.1 ≤ p.1 := by
      rcases List.mem_cons.mp mem1 with z | z
      · rw [z]; exact Int.le_refl _
      · exact hm'.1 _ z
    have e2 : p.1 ≤ q.1 := by
      rcases List.mem_cons.mp mem2 with z | z
      · rw [z]; exact Int.le_refl _
      · exact hl'.1 _ z
    have ek : p.1 = q.1 := Int.le_antisymm e2 e1
    have hp : p = q := by
      have e := h p.1
      rw [List.filter_cons, List.filter_cons] at e
      simp only [beq_self_eq_true, ek, if_true] at e
      exact (List.cons.inj e).1
    subst hp
    rw [stable_one hl'.2 hm'.2 fun c => ?_]
    have e := h c
    rw [List.filter_cons, List.filter_cons] at e
    split at e
    · exact (List.cons.inj e).2
    · exact e
theorem sortK_one {l m : List (Int × α)} (hm : m.Pairwise (fun a b => a.1 ≤ b.1)) (h : ∀ c, m.filter (fun q => q.1 == c) = l.filter (fun q => q.1 == c)) : m = sortK l :=
  stable_one hm (sortK_pair l) fun c => (h c).trans (sortK_filter c l).symm
theorem sortV_length {kz : List Int} {ys : List α} (h : kz.length = ys.length) : (sortV kz ys).length = ys.length := by
  unfold sortV
  rw [List.length_map, (sortK_perm _).length_eq, List.length_zip, h, Nat.min_self]
end

/-! ### list.sort by a key, whatever stands around -/
section
variable {prog : Program} {w : World} {A : Around} {E : Value → Shared → Prop} {a : Addr} {vs : List Value} {kz : List Int}
/-- all objects of a heap but three -/
def rest3 (h : Heap) (L x y : Addr) : List (Addr × Obj) := (List.range h.objs.size).filterMap fun b => if b = L ∨ b = x ∨ b = y then none else (h.get? b).map fun o => (b, o)
theorem mem_rest3 {h : Heap} {L x y b : Addr} {o : Obj} (h1 : b ≠ L) (h2 : b ≠ x) (h3 : b ≠ y) (e : h.get? b = some o) : (b, o) ∈ rest3 h L x y :=
  List.mem_filterMap.mpr ⟨b, List.mem_range.mpr (Heap.lt_size e), by simp [h1, h2, h3, e]⟩
theorem of_rest3 {h : Heap} {L x y : Addr} {p : Addr × Obj} (hp : p ∈ rest3 h L x y) : p.1 ≠ L ∧ p.1 ≠ x ∧ p.1 ≠ y ∧ h.get? p.1 = some p.2 := by
  obtain ⟨b, _, e⟩ := List.mem_filterMap.mp hp
  split at e
  · cases e
  · rename_i hn
    cases q : h.get? b with
    | none =>
      rw [q] at e
      cases e
    | some o =>
      rw [q] at e
      cases e
      exact ⟨fun z => hn (.inl z), fun z => hn (.inr (.inl z)), fun z => hn (.inr (.inr z)), q⟩

/-- the end: from the list of the numbers -/
theorem sortkey_end {s : Shared} {kS L : Addr} {m : Str → Option Value} {keys : Array Value} {e e1 : Nat} {P : PySem.Fin → Shared → Prop} (hn : s.heap.Ns L m) (hkL : kS ≠ L) (haL : a ≠ L) (hka : kS ≠ a)
    (hkS : s.heap.get? kS = some (seqObj "list" keys e)) (ha : s.heap.get? a = some (seqObj "list" #[] e1)) (hk : IntsAre keys.toList kz) (hlen : kz.length = vs.length) (hZ : vs.length ≤ sizeLine)
    (h : ∀ h' tk out c, h'.Ns L m → (∀ b o, b ≠ L → b ≠ kS → b ≠ a → s.heap.get? b = some o → h'.get? b = some o) → h'.get? a = some (seqObj "list" out c) → KskOutSt false kz vs out.toList → P (.done (.ret .none)) { s with heap := h', toks := tk }) :
    wpAny (model prog w) A (ksk_end a false vs.toArray e1 (.ref kS) keys) P E s := by
  have F := Att.fr_all hn
  refine ksk_end_St (h₀ := Att.noObjs s.heap) (news := rest3 s.heap L kS a) (L := L) (m := m) (kz := kz) (vs := vs) (e := e) F (fun p hp => ?_) hka (fun p hp => (of_rest3 hp).2.1) (fun p hp => (of_rest3 hp).2.2.1) hk hlen hZ fun h' tk out c F' N' k' => ?_
  · rcases List.mem_append.mp hp with hp | hp
    · obtain ⟨p1, _, _, p4⟩ := of_rest3 hp
      exact ⟨p4, p1, Att.noObjs_get _ _⟩
    · rcases List.mem_cons.mp hp with rfl | hp
      · exact ⟨hkS, hkL, Att.noObjs_get _ _⟩
      · rw [List.mem_singleton.mp hp]
        exact ⟨ha, haL, Att.noObjs_get _ _⟩
  · refine h h' tk out c F'.ns (fun b o b1 b2 b3 eb => ?_) (N' _ List.mem_cons_self).1 k'
    exact (N' _ (List.mem_cons_of_mem _ (mem_rest3 b1 b2 b3 eb))).1

theorem sortkey_rest {f : Value} {s : Shared} {kS L : Addr} {m : Str → Option Value} {e1 : Nat} {P : PySem.Fin → Shared → Prop} (J : Shared → Prop) (hkL : kS ≠ L) (haL : a ≠ L) (hka : kS ≠ a) (hlen : kz.length = vs.length) (hZ : vs.length ≤ sizeLine) (h0 : J s)
    (hns : ∀ s', J s' → s'.heap.Ns L m)
    (hkS : s.heap.get? kS = some (seqObj "list" #[] 0)) (ha : s.heap.get? a = some (seqObj "list" #[] e1))
    (hup : ∀ s' g, J s' → J { s' with heap := s'.heap.update kS (Obj.mapSeq g) })
    (turn : ∀ (i : Nat) (v : Value) (k : Int), vs[i]? = some v → kz[i]? = some k → ∀ s', J s' →
      wpAny (model prog w) A (call f [v]) (fun u s2 => ∃ t, u = .int k t ∧ J s2 ∧ (∀ o, s'.heap.get? kS = some o → s2.heap.get? kS = some o) ∧ (∀ o, s'.heap.get? a = some o → s2.heap.get? a = some o)) (fun _ _ => False) s')
    (h : ∀ s' h' tk out c, J s' → h'.Ns L m → (∀ b o, b ≠ L → b ≠ kS → b ≠ a → s'.heap.get? b = some o → h'.get? b = some o) → h'.get? a = some (seqObj "list" out c) → KskOutSt false kz vs out.toList → P (.done (.ret .none)) { s' with heap := h', toks := tk }) :
    wpAny (model prog w) A (ksk_rest a f false vs.toArray e1 (.ref kS)) P E s := by
  have hZ2 := hZ
  rw [sizeLine_eq] at hZ2
  unfold ksk_rest
  refine wpAny_bind (wpAny_rule ?_)
  first
    | rw [List.forIn_toArray]
    | (rw [← Array.forIn_toList]; simp only [List.toList_toArray])
  refine wpAny_bind (ksk_fold (fun i s' => ∃ kA e, J s' ∧ s'.heap.get? kS = some (seqObj "list" kA e) ∧ s'.heap.get? a = some (seqObj "list" #[] e1) ∧ IntsAre kA.toList (kz.take i)) vs 0 s
    ⟨#[], 0, h0, hkS, ha, by simpa using IntsAre.nil⟩ ?step ?done)
  case step =>
    rintro j x s' hx ⟨kA, e, hJ, gk, ga, hk⟩
    simp only [Nat.zero_add] at hk ⊢
    have hj := (List.getElem?_eq_some_iff.mp hx).1
    obtain ⟨k, hkj⟩ : ∃ k, kz[j]? = some k := ⟨_, List.getElem?_eq_getElem (by omega)⟩
    have hz : kA.size ≤ vs.length := by
      have h1 := hk.length
      rw [Array.length_toList, List.length_take] at h1
      omega
    refine wpAny_bind (wpAny_attempt (wpAny_mono (turn j x k hx hkj s' hJ) (fun v s2 he => ?_) fun _ _ hF => hF.elim))
    obtain ⟨t2, rfl, J2, q1, q2⟩ := he
    try dsimp only
    have gk2 := q1 _ gk
    have ek : kz.take (j + 1) = kz.take j ++ [k] := by rw [List.take_add_one, hkj]; simp
    have ea : (kA.push (Value.int k t2)).toList = kA.toList ++ [Value.int k t2] := by simp
    refine wpAny_bind (listUpdate_at gk2 rfl ?_ (by rw [sizeLine_eq]; omega) (Nat.le_trans (Nat.le_of_eq (Array.size_push ..)) (by rw [sizeLine_eq]; omega)))
    refine wpAny_pure ⟨rfl, kA.push (.int k t2), _, hup s2 _ J2, get?_update_seq gk2 (·.push (.int k t2)), ?_, by rw [ea, ek]; exact ksk_snoc hk⟩
    exact ((Heap.SameBut.update s2.heap kS _).2 a hka.symm).trans (q2 _ ga)
  case done =>
    rintro s' ⟨kA, e, hJ, gk, ga, hk⟩
    have hk' : IntsAre kA.toList kz := by
      have e3 : kz.take (0 + vs.length) = kz := List.take_of_length_le (by omega)
      rw [e3] at hk
      exact hk
    try dsimp only
    refine wpAny_bind (listItems_at gk rfl ?_)
    exact sortkey_end (hns s' hJ) hkL haL hka gk ga hk' hlen hZ fun h' tk out c n1 n2 n3 n4 => h s' h' tk out c hJ n1 n2 n3 n4
end

/-! ### at the layer -/
theorem abs_of {x : V} {u : Value} (r : L2.RelV x u) : absV u = some x := RelV.abs r
def unV (u : Value) : V := (absV u).getD .non
theorem unV_of {x : V} {u : Value} (r : L2.RelV x u) : unV u = x := by
  unfold unV
  rw [abs_of r]
  rfl
theorem zip_unV : ∀ {ys : List V} {us : List Value} (kz : List Int), Vals ys us → (kz.zip us).map (fun p => (p.1, unV p.2)) = kz.zip ys
  | _, _, [], _ => rfl
  | _, _, _ :: _, .nil => by simp
  | _, _, k :: kz, .cons r rs => by
    simp only [List.zip_cons_cons, List.map_cons]
    rw [unV_of r, zip_unV kz rs]
theorem vals_mem : ∀ {ys : List V} {us : List Value} {u : Value}, Vals ys us → u ∈ us → L2.RelV (unV u) u
  | _, _, _, .cons r rs, h => by
    rcases List.mem_cons.mp h with rfl | h
    · rw [unV_of r]
      exact r
    · exact vals_mem rs h
theorem vals_un : ∀ {us : List Value}, (∀ u ∈ us, L2.RelV (unV u) u) → Vals (us.map unV) us
  | [], _ => .nil
  | u :: us, h => .cons (h u List.mem_cons_self) (vals_un fun v hv => h v (List.mem_cons_of_mem _ hv))
theorem out_sorted {ys : List V} {vs out : List Value} {kz : List Int} (r : Vals ys vs) (hl : kz.length = vs.length) (h : KskOutSt false kz vs out) : Vals (sortV kz ys) out := by
  obtain ⟨ps, h1, rfl, h2, h3⟩ := h
  have mem : ∀ u ∈ ps.map Prod.snd, L2.RelV (unV u) u := fun u hu => by
    obtain ⟨p, hp, rfl⟩ := List.mem_map.mp hu
    have q := h1.mem_iff.mp hp
    exact vals_mem r (List.of_mem_zip (a := p.1) (b := p.2) q).2
  have e1 : (ps.map fun p => (p.1, unV p.2)) = sortK (kz.zip ys) := by
    refine sortK_one ?_ fun c => ?_
    · refine List.pairwise_map.mpr (h2.imp fun {x y} z => ?_)
      simpa using z
    · rw [← zip_unV kz r, List.filter_map, List.filter_map]
      have e := h3 c
      exact congrArg (List.map fun p => (p.1, unV p.2)) e
  have e2 : sortV kz ys = (ps.map Prod.snd).map unV := by
    unfold sortV
    rw [← e1, List.map_map, List.map_map]
    rfl
  rw [e2]
  exact vals_un mem

/-- a list or a tuple, collected: the very heap behind it -/
theorem collect_any {prog : Program} {w : World} {A : Around} {E : Value → Shared → Prop} {s : Shared} {l : Addr} {vs : List Value} {o : Obj} {n : Nat} {T : String} {Q : List Value → Shared → Prop} (hT : T = "list" ∨ T = "tuple") (ho : s.heap.get? l = some o) (hc : o.cls = .type T) (hd : o.data = .seq vs.toArray n)
    (h : Q vs { s with heap := (s.heap.push (seqObj "list" #[] 0)).update s.heap.objs.size (Obj.mapSeq (· ++ vs.toArray)) }) (hsz : vs.length ≤ sizeLine) :
    wpAny (model prog w) A (collect (.ref l)) Q E s := by
  have new : (s.heap.push (seqObj "list" #[] 0)).get? s.heap.objs.size = some (seqObj "list" #[] 0) := Heap.get?_push_size _ rfl
  have size : vs.toArray.size ≤ sizeLine := by simpa using hsz
  have grown := Heap.get?_update_self (Obj.mapSeq (· ++ vs.toArray)) new rfl
  have fin : ∀ s', s' = { s with heap := (s.heap.push (seqObj "list" #[] 0)).update s.heap.objs.size (Obj.mapSeq (· ++ vs.toArray)) } → wpAny (model prog w) A (load s.heap.objs.size >>= fun o => match o.data with
      | .seq xs _ => pure xs.toList
      | _ => unsupported "internal:collect") Q E s' := by
    rintro _ rfl
    refine wpAny_bind (wpAny_load grown ?_)
    show wpAny _ _ (pure (#[] ++ vs.toArray).toList) _ _ _
    have e : ((#[] : Array Value) ++ vs.toArray).toList = vs := by simp
    rw [e]
    exact wpAny_pure h
  unfold collect
  refine wpAny_bind (wpAny_runValue (codeAny_builtin F.entry_proto_collect ?_))
  rw [Around.under_plainId F.plain_proto_collect _]
  refine wpAny_bind (m := newList []) (wpAny_newList (wpAny_pure ⟨plainId_quiet F.plain_list_iadd _, codeAny_builtin F.entry_list_iadd ?_⟩))
  rw [Around.under_plainId F.plain_list_iadd _]
  have run := wpAny_extend_seq (prog := prog) (w := w) (A := A) (s := { s with heap := s.heap.push (seqObj "list" #[] 0) }) (R := fun r s' => r = .ok (.ret (.ref s.heap.objs.size)) ∧ s' = { s with heap := (s.heap.push (seqObj "list" #[] 0)).update s.heap.objs.size (Obj.mapSeq (· ++ vs.toArray)) })
    s.heap.objs.size l (.ref s.heap.objs.size) 0 hT new (Heap.get?_push_of_some _ ho) hc hd ⟨rfl, rfl⟩ size
  refine wpAny_mono run (fun f s' q => ?_) fun _ _ q => nomatch q.1
  cases f with
  | done r =>
    obtain ⟨e, q⟩ := q
    cases e
    exact fin _ q
  | again c => exact ⟨q.1, codeAny_mono q.2 fun r s'' z => by
      obtain ⟨rfl, z⟩ := z
      exact fin _ z⟩
section
variable {X : Cx} {k : Nat}
/-- sorted(xs, key=f): f a lambda, hands back whole numbers and leaves all as it was -/
def rSortL (X : Cx) (k : Nat) : List V → List V → Hp → VK → Prop := fun xs zs H Q => ∃ (a f : Addr) (Z : LF) (ys : List V) (kz : List Int), xs = [V.ref a] ∧ zs = [V.ref f] ∧ (SqL X.K H a ys ∨ SqT X.K H a ys) ∧ LamAt H f Z ∧ kz.length = ys.length ∧
  (∀ (A : Around) (outer : List Env) (s : Shared) (i : Nat) (v : V) (n : Int) (u : Value), Room k A → Env0 X.prog X.w X.K X.mg X.base A outer s H → ys[i]? = some v → kz[i]? = some n → RelV v u →
    codeAny (model X.prog X.w) A (.call (.ref f) ⟨[u], []⟩) (CR CX0 outer X.prog X.w H s (fun r H' => r = .int n ∧ H' = H) E0) s) ∧
  ∀ p, H p = none → Q (.ref p) (upd H p (.lst (sortV kz ys)))
theorem cr_sortedLam (hr : Room (k + 3) X.A) : CallRK X (.builtin "sorted") [Str.ofString "key"] (rSortL X k) := by
  rintro pins s σ H xs zs us ws Q I rx rz ⟨l, f, Z, ys, kz, rfl, rfl, hl, hf, hlen, hkey, hq⟩
  obtain ⟨us1, rfl⟩ : ∃ u, us = [u] := by cases rx with | cons r t => cases t; exact ⟨_, rfl⟩
  obtain ⟨ws1, rfl⟩ : ∃ u, ws = [u] := by cases rz with | cons r t => cases t; exact ⟨_, rfl⟩
  obtain rfl : us1 = .ref l := by cases rx with | cons r t => exact r
  obtain rfl : ws1 = .ref f := by cases rz with | cons r t => exact r
  obtain ⟨vs, T, o1, n1, rv, hT, e1, e2, e3, hZ⟩ : ∃ (vs : List Value) (T : String) (o1 : Obj) (n1 : Nat), Vals ys vs ∧ (T = "list" ∨ T = "tuple") ∧ s.heap.get? l = some o1 ∧ o1.cls = .type T ∧ o1.data = .seq vs.toArray n1 ∧ ys.length ≤ sizeLine := by
    rcases hl with hl | hl
    · obtain ⟨vs, rv, pl, hZ⟩ := I.list hl
      obtain ⟨o, n, e1, e2, _, e3⟩ := pl
      exact ⟨vs, "list", o, n, rv, .inl rfl, e1, e2, e3, hZ⟩
    · obtain ⟨vs, rv, pl, hZ⟩ := I.tuple hl
      obtain ⟨o, e1, e2, n, e3⟩ := pl
      exact ⟨vs, "tuple", o, n, rv, .inr rfl, e1, e2, e3, hZ⟩
  have hlv : kz.length = vs.length := by rw [hlen, rv.length]
  have hZv : vs.length ≤ sizeLine := by rw [← rv.length]; exact hZ
  have hZ2 := hZv
  rw [sizeLine_eq] at hZ2
  show wpAny _ _ (call (.builtin "sorted") [.ref l] [(Str.ofString "key", .ref f)]) _ _ _
  refine call_function_entry_kw kind_sorted plain_sorted entry_sorted (ksk_s1 _ _) ?_
  unfold Builtin.«sorted»
  refine wpAny_bind (m := checkCount "sorted" 1 1 _) (wpAny_pure ?_)
  refine wpAny_bind (collect_any hT e1 e2 e3 ?_ hZv)
  refine wpAny_bind (wpAny_newList ?_ (by rw [sizeLine_eq]; omega))
  generalize hh1 : ((s.heap.push (seqObj "list" #[] 0)).update s.heap.objs.size (Obj.mapSeq (· ++ vs.toArray))) = h1
  have z1 : h1.objs.size = s.heap.objs.size + 1 := by rw [← hh1, Heap.size_update, size_push']
  have k1 : ∀ b o, s.heap.get? b = some o → h1.get? b = some o := fun b o q => by
    have lt := Heap.lt_size q
    rw [← hh1, Heap.get?_update_ne _ _ _ _ (Nat.ne_of_lt lt), Heap.get?_push_ne _ _ _ (Nat.ne_of_lt lt)]
    exact q
  show wpAny _ _ _ _ _ { s with heap := h1.push (seqObj "list" vs.toArray 0) }
  have k2 : ∀ b o, s.heap.get? b = some o → (h1.push (seqObj "list" vs.toArray 0)).get? b = some o := fun b o q => Heap.get?_push_of_some _ (k1 b o q)
  have g2 : (h1.push (seqObj "list" vs.toArray 0)).get? h1.objs.size = some (seqObj "list" vs.toArray 0) := Heap.get?_push_size _ rfl
  generalize ha0 : h1.objs.size = a0 at g2 ⊢
  generalize hh2 : h1.push (seqObj "list" vs.toArray 0) = h2 at g2 k2 ⊢
  have a0s : s.heap.objs.size ≤ a0 := by omega
  have z2 : h2.objs.size = a0 + 1 := by rw [← hh2, size_push', ha0]
  refine wpAny_bind (wpAny_holding (wpAny_call_entry_kw slot_list_sort ⟨_, g2, rfl⟩ entry_list_sort ?body (ksk_l1 _ _)))
  case body =>
    show wpAny _ X.A.in1.in1 (Builtin.«list.sort» ⟨[.ref a0], [(Str.ofString "key", .ref f)]⟩) _ _ _
    rw [ksk_t1]
    unfold ksk_tree
    have sb3 := Heap.SameBut.update h2 a0 (Obj.mapSeq fun _ => (#[] : Array Value))
    obtain ⟨e1, g3⟩ : ∃ e1, (h2.update a0 (Obj.mapSeq fun _ => (#[] : Array Value))).get? a0 = some (seqObj "list" #[] e1) := ⟨_, get?_update_seq g2 fun _ => #[]⟩
    have z3 : (h2.update a0 (Obj.mapSeq fun _ => (#[] : Array Value))).objs.size = a0 + 1 := by rw [Heap.size_update, z2]
    refine wpAny_bind (listItems_at g2 rfl ?_)
    refine wpAny_bind (listUpdate_at g2 rfl ?_ (by rw [List.size_toArray, sizeLine_eq]; omega) (Nat.zero_le _))
    refine wpAny_bind (seqEpoch_at g3 rfl ?_)
    have k3 : ∀ b o, s.heap.get? b = some o → (h2.update a0 (Obj.mapSeq fun _ => (#[] : Array Value))).get? b = some o := fun b o q =>
      (sb3.2 b (Nat.ne_of_lt (Nat.lt_of_lt_of_le (Heap.lt_size q) a0s))).trans (k2 b o q)
    generalize h2.update a0 (Obj.mapSeq fun _ => (#[] : Array Value)) = h3 at g3 k3 z3
    refine wpAny_bind (wpAny_newTuple ?_ (by show vs.length ≤ _; rw [sizeLine_eq]; omega))
    refine wpAny_bind (wpAny_newList ?_ (Nat.zero_le _))
    refine wpAny_holding ?_
    have z4 : (h3.push (seqObj "tuple" vs.toArray 0)).objs.size = a0 + 2 := by rw [size_push', z3]
    have k5 : ∀ b o, h3.get? b = some o → ((h3.push (seqObj "tuple" vs.toArray 0)).push (seqObj "list" #[] 0)).get? b = some o := fun b o q => Heap.get?_push_of_some _ (Heap.get?_push_of_some _ q)
    have gk : ((h3.push (seqObj "tuple" vs.toArray 0)).push (seqObj "list" #[] 0)).get? (h3.push (seqObj "tuple" vs.toArray 0)).objs.size = some (seqObj "list" #[] 0) := Heap.get?_push_size _ rfl
    have ga := k5 _ _ g3
    generalize hkS : (h3.push (seqObj "tuple" vs.toArray 0)).objs.size = kS at gk
    have hkS2 : kS = a0 + 2 := by rw [← hkS]; exact z4
    have h5k : ∀ b o, s.heap.get? b = some o → ((h3.push (seqObj "tuple" vs.toArray 0)).push (seqObj "list" #[] 0)).get? b = some o := fun b o q => k5 b o (k3 b o q)
    show wpAny _ _ (ksk_rest a0 (.ref f) false vs.toArray e1 (.ref kS)) _ _ { s with heap := (h3.push (seqObj "tuple" vs.toArray 0)).push (seqObj "list" #[] 0) }
    generalize (h3.push (seqObj "tuple" vs.toArray 0)).push (seqObj "list" #[] 0) = h5 at gk ga h5k
    have I5 : Inv X pins σ H { s with heap := h5 } := I.kept (t' := s.toks) h5k
    have na : H a0 = none := I.hok.fresh a0s
    have nk : H kS = none := I.hok.fresh (by omega)
    have fa := I.fpOk a0s na
    have fk := I.fpOk (b := kS) (by omega) nk
    have hka : kS ≠ a0 := by omega
    obtain ⟨m, hm, _⟩ := I5.loc
    have nstk : ∀ b, FpOk X pins H b → b ∉ frs X.stack := fun b fb hb => by
      rcases List.mem_cons.mp (I.stkSub b hb) with z | z
      · exact fb.2.1 z
      · exact fb.2.2.1 z
    have nsOne : ∀ {g : Heap} {m1 m2 : Str → Option Value}, g.Ns X.env.locals m1 → g.Ns X.env.locals m2 → m1 = m2 := by
      rintro g m1 m2 ⟨o, es, ep, q1, q2, _, q3⟩ ⟨o', es', ep', r1, r2, _, r3⟩
      rw [q1] at r1
      cases r1
      rw [q2] at r2
      cases r2
      funext y
      rw [← q3, ← r3]
    refine sortkey_rest (kz := kz) (m := m) (L := X.env.locals) (fun s' => Inv X pins σ H s' ∧ s'.heap.Ns X.env.locals m) fk.2.1 fa.2.1 hka hlv hZv ⟨I5, hm⟩ (fun s' q => q.2) gk ga (fun s' g q => ?_) (fun i v n hv hn s' q => ?_)
      fun s' h' tk out c q n1 n2 n3 n4 => ?_
    · have sb := Heap.SameBut.update s'.heap kS (Obj.mapSeq g)
      refine ⟨q.1.turned (t' := s'.toks) (fun b o hb e => (sb.2 b hb).trans e) nk fk.2.1 fk.2.2.2.1 fk.2.2.2.2.1 fk.2.2.2.2.2, ?_⟩
      exact q.2.sameBut sb (Ne.symm fk.2.1)
    · obtain ⟨I', hm'⟩ := q
      obtain ⟨y, hy⟩ : ∃ y, ys[i]? = some y := by
        cases e : ys[i]? with
        | some y => exact ⟨y, rfl⟩
        | none =>
          rw [rv.none_of e] at hv
          cases hv
      obtain ⟨v2, hv2, ry⟩ := rv.get hy
      rw [hv] at hv2
      cases hv2
      have e0 := I'.env0.in1.in1
      have room : Room k X.A.in1.in1 := (((hr.mono (show k + 2 ≤ k + 3 by omega)).in1).in1).mono (Nat.le_refl _)
      have run := hkey X.A.in1.in1 X.stack s' i y n v room e0 hy hn ry
      refine wpAny_call (codeAny_mono run fun r s2 hq2 => ?_)
      cases r with
      | error e => exact False.elim hq2
      | ok fl =>
        cases fl with
        | ret u =>
          have hq3 : CE X.stack X.prog X.w H s' (fun r H' => r = .int n ∧ H' = H) u s2 := hq2
          have un := hq3
          obtain ⟨_, _, _, _, un, _⟩ := un
          obtain ⟨w2, H2, I2, r2, rfl, rfl⟩ := I'.after hq3
          obtain ⟨t, rfl⟩ := (show ∃ t, u = Value.int n t from r2)
          refine ⟨t, rfl, ⟨I2, ?_⟩, fun o e => un.keep kS o e nk (nstk kS fk) (by simp), fun o e => un.keep a0 o e na (nstk a0 fa) (by simp)⟩
          obtain ⟨o, es, ep, ho, hd, hs, hf'⟩ := hm'
          by_cases hL : X.env.locals ∈ frs X.stack
          · obtain ⟨sl, e2⟩ := un.slot _ o ho I'.free hL (by simp)
            exact ⟨_, es, ep, e2, hd, hs, hf'⟩
          · exact ⟨o, es, ep, un.keep _ o ho I'.free hL (by simp), hd, hs, hf'⟩
        | next => exact False.elim hq2
        | brk => exact False.elim hq2
        | cont => exact False.elim hq2
    · obtain ⟨I', hm'⟩ := q
      have rout : Vals (sortV kz ys) out.toList := out_sorted rv hlv n4
      have ex : ∀ b o, b ≠ X.env.locals → b ∉ [kS, a0] → s'.heap.get? b = some o → h'.get? b = some o := fun b o b1 b2 e => by
        simp only [List.mem_cons, List.not_mem_nil, or_false, not_or] at b2
        exact n2 b o b1 b2.1 b2.2 e
      have tr : ∀ b u, H b = some u → b ≠ a0 := fun b u e z => by rw [z, na] at e; cases e
      have up : ∀ b u, H b = some u → upd H a0 (.lst (sortV kz ys)) b = some u := fun b u e => by rw [upd_ne (tr b u e)]; exact e
      have off : ∀ b u, H b = some u → b ≠ X.env.locals ∧ b ∉ [kS, a0] := fun b u e => by
        refine ⟨fun z => ?_, fun z => ?_⟩
        · rw [z, I'.free] at e
          cases e
        · simp only [List.mem_cons, List.not_mem_nil, or_false] at z
          rcases z with z | z
          · rw [z, nk] at e
            cases e
          · exact tr b u e z
      refine ⟨_, rfl, ?_⟩
      refine wpAny_pure ⟨_, rfl, .ref a0, upd H a0 (.lst (sortV kz ys)), ?_, rfl, hq a0 na⟩
      refine I'.step (g' := s'.gens) (d' := s'.drawn) (t' := tk) (h' := h') (ch := [kS, a0]) (fun b hb => ?_) (fun b o b1 _ b3 e _ => ex b o b1 b3 e) (fun b o b1 _ b3 e _ => ⟨o.slots, ex b o b1 b3 e⟩)
        (fun b o b3 e n => ?_) (fun b o b3 e => ?_) (fun b u e => up b _ e) (fun b o u e => up b _ e) (fun b ps e => ⟨#[], by rw [up b _ e]; simp⟩) (fun m' hm2 => ?_) (fun b u e => ?_) I'.bare
      · simp only [List.mem_cons, List.not_mem_nil, or_false] at hb
        rcases hb with rfl | rfl
        · exact ⟨fk.2.2.2.1, fk.2.1, fk.2.2.2.2.1, fk.2.2.2.2.2⟩
        · exact ⟨fa.2.2.2.1, fa.2.1, fa.2.2.2.2.1, fa.2.2.2.2.2⟩
      · simp only [List.mem_cons, List.not_mem_nil, or_false, not_or] at b3
        rw [upd_ne b3.2]
        exact n
      · by_cases bL : b = X.env.locals
        · rw [bL]
          obtain ⟨o', _, _, q, _⟩ := n1
          exact ⟨o', q⟩
        · exact ⟨o, ex b o bL b3 e⟩
      · rw [nsOne hm2 hm']
        exact n1
      · by_cases hb : b = a0
        · subst hb
          rw [upd_same] at e
          cases e
          have el : (sortV kz ys).length ≤ sizeLine := by
            rw [sortV_length hlen]
            exact hZ
          exact ⟨el, out.toList, c, rout, by rw [n3]⟩
        · rw [upd_ne hb] at e
          refine (I'.hok b u e).stay (fun d v hd q => ?_) (fun d q => up d _ q) fun d xs q => up d _ q
          rcases hd with rfl | hd
          · exact ex _ v (off _ _ e).1 (off _ _ e).2 q
          · exact ex _ v (off _ _ hd).1 (off _ _ hd).2 q
end
end Sho
set_option Elab.async false
set_option linter.all false
set_option maxRecDepth 100000
set_option maxHeartbeats 4000000
/-! Rows (name, come, go, ..); bottom_up, lifted_from. -/
namespace Sh1
open PySem L2 Sho NdefX Shg
/-! ### the stable sort commutes with maps -/
theorem insK_map {α β : Type} (f : α → β) (p : Int × α) : ∀ l : List (Int × α), insK (p.1, f p.2) (l.map fun q => (q.1, f q.2)) = (insK p l).map fun q => (q.1, f q.2)
  | [] => rfl
  | q :: r => by
    show (if p.1 ≤ q.1 then (p.1, f p.2) :: (q.1, f q.2) :: _ else (q.1, f q.2) :: insK (p.1, f p.2) (r.map fun q => (q.1, f q.2))) = (if p.1 ≤ q.1 then p :: q :: r else q :: insK p r).map _
    split
    · rfl
    · rw [insK_map f p r]
      rfl
theorem sortK_map {α β : Type} (f : α → β) : ∀ l : List (Int × α), sortK (l.map fun q => (q.1, f q.2)) = (sortK l).map fun q => (q.1, f q.2)
  | [] => rfl
  | p :: r => by
    show insK (p.1, f p.2) (sortK (r.map fun q => (q.1, f q.2))) = (insK p (sortK r)).map _
    rw [sortK_map f r, insK_map]
theorem sortV_map {α β : Type} (f : α → β) (kz : List Int) (ys : List α) : sortV kz (ys.map f) = (sortV kz ys).map f := by
  unfold sortV
  have e : kz.zip (ys.map f) = (kz.zip ys).map fun q => (q.1, f q.2) := by
    rw [List.zip_map_right]
    rfl
  rw [e, sortK_map, List.map_map, List.map_map]
  rfl
/-! ### rows -/
structure Rw where
  nm : Str
  come : Int
  go : Int
  more : List Int
  deriving DecidableEq
def rwV (r : Rw) : List V := .str r.nm :: .int r.come :: .int r.go :: r.more.map V.int
def RwAt (H : Hp) (v : V) (r : Rw) : Prop := ∃ t, v = .ref t ∧ H t = some (.tup (rwV r))
theorem RwAt.ext {H H' : Hp} (e : LamX.ExtN H H') {v : V} {r : Rw} (h : RwAt H v r) : RwAt H' v r := by
  obtain ⟨t, rfl, ht⟩ := h
  exact ⟨t, rfl, e _ _ ht fun _ z => nomatch z⟩
theorem RwAt.same {H H' : Hp} (e : Same H H') {v : V} {r : Rw} (h : RwAt H v r) : RwAt H' v r := h.ext (LamX.ExtN.of e)
def rwD (r : Rw) : PyData := .tuple (.str r.nm :: .int r.come :: .int r.go :: r.more.map PyData.int)
theorem eqv_ints : ∀ xs ys : List Int, PyData.eqvAll (xs.map PyData.int) (ys.map PyData.int) = decide (xs = ys)
  | [], [] => rfl
  | [], _ :: _ => rfl
  | _ :: _, [] => rfl
  | x :: xs, y :: ys => by
    show ((x == y) && PyData.eqvAll (xs.map PyData.int) (ys.map PyData.int)) = _
    rw [eqv_ints xs ys, Bool.eq_iff_iff]
    simp
theorem eqv_rw (a b : Rw) : PyData.eqv (rwD a) (rwD b) = decide (a = b) := by
  obtain ⟨a1, a2, a3, a4⟩ := a
  obtain ⟨b1, b2, b3, b4⟩ := b
  show ((a1 == b1) && ((a2 == b2) && ((a3 == b3) && PyData.eqvAll (a4.map PyData.int) (b4.map PyData.int)))) = _
  rw [eqv_ints, Bool.eq_iff_iff]
  simp
abbrev OkRw (r : Rw) : Prop := r.nm.cps.all (· < 0x110000) = true
theorem lay_ints : ∀ xs : List Int, PyData.canLayAll0 (xs.map PyData.int) = true
  | [] => rfl
  | x :: xs => by
    show (true && PyData.canLayAll0 (xs.map PyData.int)) = true
    rw [lay_ints xs]
    rfl
theorem depth_ints : ∀ xs : List Int, PyData.depthAll (xs.map PyData.int) = 0
  | [] => rfl
  | x :: xs => by
    show max (PyData.depth (.int x)) (PyData.depthAll (xs.map PyData.int)) = 0
    rw [depth_ints xs]
    rfl
theorem depth_rw (r : Rw) : PyData.depth (rwD r) = 1 := by
  show PyData.depthAll (.str r.nm :: .int r.come :: .int r.go :: r.more.map PyData.int) + 1 = 1
  have e : PyData.depthAll (.str r.nm :: .int r.come :: .int r.go :: r.more.map PyData.int) = 0 := by
    show max (PyData.depth (.str r.nm)) (max (PyData.depth (.int r.come)) (max (PyData.depth (.int r.go)) (PyData.depthAll (r.more.map PyData.int)))) = 0
    rw [depth_ints]
    rfl
  rw [e]
theorem lay_rw {r : Rw} (h : OkRw r) : PyData.canLay0 (rwD r) = true := by
  show (PyData.canLay0 (.str r.nm) && (true && (true && PyData.canLayAll0 (r.more.map PyData.int)))) = true
  rw [lay_ints]
  simp only [Bool.and_true]
  exact h
theorem shaped_rw {r : Rw} (h : OkRw r) : SeqAt.shaped (rwD r) = true := by
  unfold SeqAt.shaped
  rw [lay_rw h, depth_rw]
  rfl
theorem lay_rws : ∀ {rs : List Rw}, (∀ r ∈ rs, OkRw r) → PyData.canLayAll0 (rs.map rwD) = true
  | [], _ => rfl
  | r :: rs, h => by
    show (PyData.canLay0 (rwD r) && PyData.canLayAll0 (rs.map rwD)) = true
    rw [lay_rw (h r List.mem_cons_self), lay_rws fun x hx => h x (List.mem_cons_of_mem _ hx)]
    rfl
theorem depth_rws : ∀ rs : List Rw, PyData.depthAll (rs.map rwD) ≤ 1
  | [] => Nat.zero_le _
  | r :: rs => by
    show max (PyData.depth (rwD r)) (PyData.depthAll (rs.map rwD)) ≤ 1
    have := depth_rws rs
    rw [depth_rw]
    omega
theorem shaped_rws {rs : List Rw} (h : ∀ r ∈ rs, OkRw r) : SeqAt.shaped (.list (rs.map rwD)) = true := by
  unfold SeqAt.shaped
  have h1 : PyData.canLay0 (.list (rs.map rwD)) = true := lay_rws h
  have h2 : PyData.depth (.list (rs.map rwD)) ≤ 64 := Nat.le_trans (Nat.succ_le_succ (depth_rws rs)) (by decide)
  rw [h1, decide_eq_true h2]
  rfl
end Sh1
set_option Elab.async false
set_option linter.all false
set_option maxRecDepth 100000
set_option maxHeartbeats 4000000
namespace Sh1
open PySem L2 Sho NdefX Shg
abbrev qBot : Str := "bottom_up.<locals>.<lambda>"
theorem sql_grows {K : PySem.W.Frag} {H H' : Hp} {a : Addr} {xs : List V} (e : LamX.ExtN H H') (h : SqL K H a xs) : SqL K H' a xs := by
  rcases h with (h | ⟨o, h⟩) | h
  · exact .inl (.inl (e _ _ h fun _ z => nomatch z))
  · exact .inl (.inr ⟨o, e _ _ h fun _ z => nomatch z⟩)
  · exact .inr h
theorem sqt_grows {K : PySem.W.Frag} {H H' : Hp} {a : Addr} {xs : List V} (e : LamX.ExtN H H') (h : SqT K H a xs) : SqT K H' a xs := by
  rcases h with (h | ⟨o, h⟩) | h
  · exact .inl (.inl (e _ _ h fun _ z => nomatch z))
  · exact .inl (.inr ⟨o, e _ _ h fun _ z => nomatch z⟩)
  · exact .inr h
/-- a key lambda: its tuple's item j -/
theorem key_item {P : Program} {w : World} {K : PySem.W.Frag} {mg : Str → Option Value} {base : Heap} {Z : LF} {f : Addr} {H : Hp} {j : Nat} {x : Str} (l : LamAt H f Z) (S : NScope [x] [x] [] Z.F.scope) (hcl : Z.F.cl = []) (hb : ∀ (pm ctv u : Value), bindArgs (Z.fd pm ctv) ⟨[u], []⟩ = pure [(x, u)])
    (body : ∀ (A : Around) (outer : List Env) (s : Shared), PE (lcx CX0 P w K mg base [x] Z f A outer s H E0) Z.e (tOp (rIxT K) (tVar 0) (tC (.int (j : Int)))))
    {A : Around} {outer : List Env} {s : Shared} {v : V} {n : Int} {u : Value} (hr : Room 1 A) (e0 : Env0 P w K mg base A outer s H) (hv : ∃ t ws, v = .ref t ∧ H t = some (.tup ws) ∧ ws[j]? = some (.int n)) (ru : RelV v u) :
    codeAny (model P w) A (.call (.ref f) ⟨[u], []⟩) (CR CX0 outer P w H s (fun r H' => r = .int n ∧ H' = H) E0) s := by
  obtain ⟨pm, ctv, ho⟩ := lamO_at e0.hok l.o
  obtain ⟨t, ws, rfl, ht, hw⟩ := hv
  have C : CellsAt Z.F.cl [] [] s.heap H := by
    rw [hcl]
    exact ⟨rfl, fun _ _ e => (nomatch e), fun _ _ _ e => (nomatch e), fun i y e => (nomatch e)⟩
  refine lam_call (ps := [x]) (us := [u]) (vs := [.ref t]) S hr e0 ho (codeO_at e0.hok l.c) (.of_eq (hb pm ctv u)) rfl C (.cons ru .nil) (fun _ => body A outer s) ?_
  exact ⟨_, rfl, t, ws, _, .int n, rfl, rfl, SqT.of ht, atI_nat hw, rfl, rfl⟩
section
variable {P : Program} {w : World} {K : PySem.W.Frag} {mg : Str → Option Value} {base : Heap}
def spBottom (K : PySem.W.Frag) (T : List (Addr × Str)) : Sp := fun vs H Q _ => ∃ (a : Addr) (ys : List V) (kz : List Int), vs = [.ref a] ∧ (SqL K H a ys ∨ SqT K H a ys) ∧ kz.length = ys.length ∧
  (∀ (i : Nat) (v : V) (n : Int), ys[i]? = some v → kz[i]? = some n → ∃ t ws, v = .ref t ∧ H t = some (.tup ws) ∧ ws[1]? = some (.int n)) ∧ LamX.Tabs T H ∧
  ∀ p H', Grows T H H' → H' p = some (.lst (sortV kz ys)) → Q (.ref p) H'
theorem scBottom : FnScope ["stays"] ["stays"] (defScope sBottomUp) := ⟨rfl, rfl, rfl, by decide +kernel, rfl, by decide +kernel, by decide +kernel⟩
theorem ok_bottom {f c TP : Addr} {fd : FuncData} {T : List (Addr × Str)} (F : Shg.FunL K "bottom_up" "bottom_up" sBottomUp f c fd) (B : Shg.Blt mg) (TB : LamX.TabB base mg c TP) (hm : (TP, qBot) ∈ T) (hu : ∀ p ∈ T, p.1 = TP → p.2 = qBot) :
    FnOk P w K mg base CX0 5 f fd ["stays"] (spBottom K T) := by
  refine Shg.FunL.ok0 F scBottom (fun vs H Q E h => ?_) (fun A outer s H vs Q E hr h => ?_)
  · obtain ⟨a, ys, kz, rfl, _⟩ := h
    rfl
  · obtain ⟨a, ys, kz, rfl, ha, hl, hk, hT, k⟩ := h
    refine ⟨_, pss_one (ps_ret (pe_callBK (cr_sortedLam (k := 1) hr) (by rfl) B.sorted (by decide +kernel) (pa_cons (pv 0) pa_nil) (pk_cons (pe_lam TB rfl hm hu (Shg.free_by (os := (defScope sBottomUp).names) (by decide +kernel))) pk_nil))), ?_⟩
    refine ⟨_, rfl, hT, fun f0 c0 H1 G1 n0 l0 => ⟨a, f0, _, ys, kz, rfl, rfl, ha.imp (sql_grows G1.ext) (sqt_grows G1.ext), l0, hl, fun A' outer' s' i v n u hr' e0 hv hn ru => ?_, fun p hp => ?_⟩⟩
    · obtain ⟨t, ws, e, ht, hw⟩ := hk i v n hv hn
      exact key_item (j := 1) l0 (nscope_by (sc := Shg.scL [("stay", .local)]) (by decide +kernel)) rfl (fun _ _ _ => rfl) (fun A outer s => pe_ix ix_tup (pv 0) pe_int (fun _ _ => rfl)) hr' e0 ⟨t, ws, e, G1.ext _ _ ht (fun _ z => nomatch z), hw⟩ ru
    · exact k p _ (G1.trans (Grows.upd hp)) upd_same
end
end Sh1
set_option Elab.async false
set_option linter.all false
set_option maxRecDepth 100000
set_option maxHeartbeats 4000000
namespace Sh1
open PySem L2 Sho NdefX Shg
theorem Grows.of {T : List (Addr × Str)} {H H' : Hp} (s : Same H H') : Grows T H H' := ⟨LamX.ExtN.of s, fun t => LamX.Tabs.ext t s⟩
/-- paired in another order: what a list of pairs says -/
theorem zip_paired {α β : Type} {R : α → β → Prop} {as : List α} {bs : List β} (h : PySem.Paired R as bs) : ∀ q ∈ as.zip bs, R q.1 q.2 := by
  induction h with
  | nil => intro q hq; cases hq
  | cons x r ih =>
    intro q hq
    rcases List.mem_cons.mp hq with rfl | hq
    · exact x
    · exact ih q hq
theorem paired_of {α β : Type} {R : α → β → Prop} : ∀ {l : List (α × β)}, (∀ q ∈ l, R q.1 q.2) → PySem.Paired R (l.map (·.1)) (l.map (·.2))
  | [], _ => .nil
  | q :: l, h => .cons (h q List.mem_cons_self) (paired_of fun x hx => h x (List.mem_cons_of_mem _ hx))
theorem insK_mem {α : Type} {p : Int × α} : ∀ {l : List (Int × α)} {q : Int × α}, q ∈ insK p l ↔ q = p ∨ q ∈ l
  | [], q => by simp [insK]
  | r :: l, q => by
    unfold insK
    split
    · simp
    · rw [List.mem_cons, insK_mem]
      simp only [List.mem_cons]
      constructor
      · rintro (h | h | h)
        · exact .inr (.inl h)
        · exact .inl h
        · exact .inr (.inr h)
      · rintro (h | h | h)
        · exact .inr (.inl h)
        · exact .inl h
        · exact .inr (.inr h)
theorem sortK_mem {α : Type} : ∀ {l : List (Int × α)} {q : Int × α}, q ∈ sortK l ↔ q ∈ l
  | [], q => by simp [sortK]
  | r :: l, q => by
    unfold sortK
    rw [insK_mem, sortK_mem, List.mem_cons]
theorem insK_length {α : Type} {p : Int × α} : ∀ {l : List (Int × α)}, (insK p l).length = l.length + 1
  | [] => rfl
  | r :: l => by
    unfold insK
    split
    · rfl
    · rw [List.length_cons, insK_length, List.length_cons]
theorem sortK_length {α : Type} : ∀ {l : List (Int × α)}, (sortK l).length = l.length
  | [] => rfl
  | r :: l => by
    unfold sortK
    rw [insK_length, sortK_length, List.length_cons]
/-- rows in the order of coming -/
def bot (rs : List Rw) : List Rw := sortV (rs.map Rw.come) rs
def RwsV (H : Hp) (ws : List V) (rs : List Rw) : Prop := PySem.Paired (RwAt H) ws rs
theorem RwsV.ext {H H' : Hp} (e : LamX.ExtN H H') {ws : List V} {rs : List Rw} (h : RwsV H ws rs) : RwsV H' ws rs := pair_mono (fun _ _ k => k.ext e) h
theorem zip_self_snd {α β : Type} : ∀ {as : List α} {bs : List β}, as.length = bs.length → (as.zip bs).map (·.2) = bs ∧ (as.zip bs).map (·.1) = as
  | [], [], _ => ⟨rfl, rfl⟩
  | [], _ :: _, h => by simp at h
  | _ :: _, [], h => by simp at h
  | a :: as, b :: bs, h => by
    obtain ⟨h1, h2⟩ := zip_self_snd (as := as) (bs := bs) (by simpa using h)
    exact ⟨by rw [List.zip_cons_cons, List.map_cons, h1], by rw [List.zip_cons_cons, List.map_cons, h2]⟩
theorem bot_paired {H : Hp} {ws : List V} {rs : List Rw} (h : RwsV H ws rs) : RwsV H (sortV (rs.map Rw.come) ws) (bot rs) := by
  have hl := pair_len h
  obtain ⟨e2, e1⟩ := zip_self_snd hl
  have a : sortV (rs.map Rw.come) ws = (sortV (rs.map Rw.come) (ws.zip rs)).map (·.1) := by
    rw [← sortV_map, e1]
  have b : bot rs = (sortV (rs.map Rw.come) (ws.zip rs)).map (·.2) := by
    unfold bot
    rw [← sortV_map, e2]
  rw [a, b]
  refine paired_of fun q hq => ?_
  unfold sortV at hq
  obtain ⟨x, hx, rfl⟩ := List.mem_map.mp hq
  have := sortK_mem.mp hx
  exact zip_paired h _ (List.of_mem_zip this).2
theorem bot_mem {rs : List Rw} {r : Rw} : r ∈ bot rs ↔ r ∈ rs := by
  unfold bot sortV
  constructor
  · intro h
    obtain ⟨x, hx, rfl⟩ := List.mem_map.mp h
    exact (List.of_mem_zip (sortK_mem.mp hx)).2
  · intro h
    refine List.mem_map.mpr ⟨(r.come, r), sortK_mem.mpr ?_, rfl⟩
    induction rs with
    | nil => cases h
    | cons x rs ih =>
      rw [List.map_cons, List.zip_cons_cons]
      rcases List.mem_cons.mp h with rfl | h
      · exact List.mem_cons_self
      · exact List.mem_cons_of_mem _ (ih h)
theorem bot_length {rs : List Rw} : (bot rs).length = rs.length := by
  unfold bot sortV
  rw [List.length_map, sortK_length, List.length_zip, List.length_map]
  exact Nat.min_self _
/-- those that lie higher than the first x -/
def above (x : Rw) : List Rw → List Rw
  | [] => []
  | r :: rs => if r = x then rs else above x rs
theorem above_ix {x : Rw} : ∀ {l : List Rw}, x ∈ l → ∃ j, l[j]? = some x ∧ (∀ m, m < j → ∀ z, l[m]? = some z → z ≠ x) ∧ l.drop (j + 1) = above x l
  | [], h => nomatch h
  | r :: l, h => by
    by_cases e : r = x
    · refine ⟨0, by rw [e]; rfl, fun m hm => absurd hm (Nat.not_lt_zero _), ?_⟩
      unfold above
      rw [if_pos e]
      rfl
    · obtain ⟨j, h1, h2, h3⟩ := above_ix (x := x) (l := l) ((List.mem_cons.mp h).resolve_left fun z => e z.symm)
      refine ⟨j + 1, by simpa using h1, fun m hm z hz => ?_, ?_⟩
      · cases m with
        | zero =>
          simp at hz
          rw [← hz]
          exact e
        | succ m => exact h2 m (by omega) z (by simpa using hz)
      · unfold above
        rw [if_neg e, ← h3]
        rfl
def crosses (x r : Rw) : Bool := decide (r.come < x.go) && decide (x.go < r.go)
/-- who is lifted when x goes, from the top -/
def lifted (rs : List Rw) (x : Rw) : List Rw := (above x (bot rs)).reverse.filter (crosses x)
theorem paired_drop {α β : Type} {R : α → β → Prop} : ∀ (n : Nat) {as : List α} {bs : List β}, PySem.Paired R as bs → PySem.Paired R (as.drop n) (bs.drop n)
  | 0, _, _, h => h
  | _ + 1, _, _, .nil => .nil
  | n + 1, _, _, .cons _ r => paired_drop n r
theorem paired_rev {α β : Type} {R : α → β → Prop} : ∀ {as : List α} {bs : List β}, PySem.Paired R as bs → PySem.Paired R as.reverse bs.reverse
  | _, _, .nil => .nil
  | _, _, .cons x r => by
    rw [List.reverse_cons, List.reverse_cons]
    exact pair_app (paired_rev r) (.cons x .nil)
theorem paired_filter {α β : Type} {R : α → β → Prop} (p : β → Bool) : ∀ {ws : List α} {xs : List β}, PySem.Paired R ws xs → PySem.Paired R ((ws.zip xs).filterMap fun q => if p q.2 = true then some q.1 else none) (xs.filter p)
  | _, _, .nil => .nil
  | _, _, .cons (a := v) (b := x) h r => by
    have ih := paired_filter p r
    rw [List.zip_cons_cons, List.filterMap_cons, List.filter_cons]
    by_cases e : p x = true
    · simp only [e, if_true]
      exact .cons h ih
    · simp only [e, if_false]
      exact ih
theorem dp_rw {K : PySem.W.Frag} {H : Hp} {v : V} {r : Rw} (h : RwAt H v r) : Dp K H v (rwD r) := by
  obtain ⟨t, rfl, ht⟩ := h
  refine .tup (SqT.of ht) (.cons (.str _) (.cons (.int _) (.cons (.int _) ?_)))
  generalize r.more = l
  induction l with
  | nil => exact .nil
  | cons x l ih => exact .cons (.int _) ih
theorem dp_rws {K : PySem.W.Frag} {H : Hp} : ∀ {ws : List V} {rs : List Rw}, RwsV H ws rs → DpAll K H ws (rs.map rwD)
  | [], [], _ => .nil
  | _ :: _, _ :: _, h => by
    cases h with
    | cons x r => exact .cons (dp_rw x) (dp_rws r)
  | [], _ :: _, h => nomatch h
  | _ :: _, [], h => nomatch h
section
variable {P : Program} {w : World} {K : PySem.W.Frag} {mg : Str → Option Value} {base : Heap}
theorem units65 {k : Nat} {A : Around} (r : Room k A) : A.units + 65 < cLine := by have := r.un; omega
def spLifted (K : PySem.W.Frag) (T : List (Addr × Str)) : Sp := fun vs H Q _ => ∃ (a : Addr) (v : V) (ws : List V) (rs : List Rw) (x : Rw), vs = [.ref a, v] ∧ (SqL K H a ws ∨ SqT K H a ws) ∧ RwsV H ws rs ∧ RwAt H v x ∧ x ∈ rs ∧ (∀ r ∈ rs, OkRw r) ∧ rs.length ≤ 1000 ∧ LamX.Tabs T H ∧
  ∀ p H' ys, Grows T H H' → H' p = some (.lst ys) → RwsV H' ys (lifted rs x) → Q (.ref p) H'
theorem scLifted : FnScope ["stays", "taker", "pile", "later", "stay"] ["stays", "taker"] (defScope sLiftedFrom) := ⟨rfl, rfl, rfl, by decide +kernel, rfl, by decide +kernel, by decide +kernel⟩
theorem ok_lifted {f fB : Addr} {fd fdB : FuncData} {T : List (Addr × Str)} (F : Fun K "lifted_from" "lifted_from" sLiftedFrom f fd) (GB : FnOk P w K mg base CX0 5 fB fdB ["stays"] (spBottom K T)) (mB : mg "bottom_up" = some (.ref fB)) (kB : PySem.W.keepIn K (.ref fB) = true) (bB : Binds K fdB ["stays"] []) :
    FnOk P w K mg base CX0 6 f fd ["stays", "taker"] (spLifted K T) := by
  refine F.ok scLifted (fun vs H Q E h => ?_) (fun cdv A outer s H vs Q E hr h => ?_)
  · obtain ⟨a, v, ws, rs, x, rfl, _⟩ := h
    rfl
  · obtain ⟨a, v, ws, rs, x, rfl, ha, hw, hv, hx, hok, hlen, hT, k⟩ := h
    have nd := scLifted.nd
    refine ⟨_, pss_cons (ps_set (i := 2) nd rfl (Or.inl rfl) (pe_call GB hr rfl mB kB bB .nil pass0 (pa_cons (pv 0) pa_nil)))
      (pss_cons (ps_set (i := 3) nd rfl (Or.inl rfl) (pe_slice sl_list (pv 2) (po_some (pe_op op_add (pe_bm PySem.F.plainAttrs_list PySem.F.slot_list_index PySem.F.type_list_index (mt_indexD (units65 hr)) (pv 2) (pa_cons (pv 1) pa_nil)) pe_int)) po_none))
      (pss_one (ps_ret (pe_lc (own := [("stay", 4)]) (g := gName 4) (tt := tTest (tChain (rI0 fun i j => .bl (decide (i < j))) (rI0 fun i j => .bl (decide (i < j))) (tOp (rIxT K) (tVar 4) (tC (.int 1))) (tOp (rIxT K) (tVar 1) (tC (.int 2))) (tOp (rIxT K) (tVar 4) (tC (.int 2))))) (te := tVar 4) rfl nd (pi_list (pe_revL (pv 3))) (blkOk_by (own := [("stay", 4)]) (N := ["stays", "taker", "pile", "later", "stay"]) (sc := defScope sLiftedFrom) (by decide +kernel))
        (fun _ _ _ _ _ => pg_name (i := 4) nd rfl (Or.inl rfl)) (fun _ _ _ _ _ => pts_one (pt_chain op_lt op_lt (pe_ix ix_tup (pv 4) pe_int (fun _ _ => rfl)) (pe_ix ix_tup (pv 1) pe_int (fun _ _ => rfl)) (pe_ix ix_tup (pv 4) pe_int (fun _ _ => rfl)))) (fun _ _ _ _ _ => pv 4))))), ?_⟩
    refine ⟨_, rfl, a, ws, rs.map Rw.come, rfl, ha, ?_, ?_, hT, fun pb H1 G1 e1 => ?_⟩
    · rw [List.length_map, pair_len hw]
    · intro i y n hy hn
      obtain ⟨r, hr', t, rfl, ht⟩ := pair_get hw hy
      rw [List.getElem?_map, hr'] at hn
      exact ⟨t, _, rfl, ht, congrArg (Option.map V.int) hn⟩
    · have hb := bot_paired (hw.ext G1.ext)
      have lb := pair_len hb
      have hokb : ∀ r ∈ bot rs, OkRw r := fun r hr' => hok r (bot_mem.mp hr')
      obtain ⟨j, hj1, hj2, hj3⟩ := above_ix (bot_mem.mpr hx)
      have hjlt : j < (bot rs).length := (List.getElem?_eq_some_iff.mp hj1).1
      refine ⟨_, rfl, _, rfl, .inl ⟨rfl, _, SqL.of e1⟩, _, rfl, pb, v, rwD x, (bot rs).map rwD, j, rwD x, rfl, rfl, .lst (SqL.of e1) (dp_rws hb), dp_rw (hv.ext G1.ext), shaped_rws hokb, shaped_rw (hok x hx), ?_, ?_, ?_, ?_⟩
      · rw [List.getElem?_map, hj1]
        rfl
      · rw [eqv_rw]
        exact decide_eq_true rfl
      · intro m z' hm hz
        rw [List.getElem?_map] at hz
        obtain ⟨z, hz1, rfl⟩ := Option.map_eq_some_iff.mp hz
        rw [eqv_rw]
        exact decide_eq_false (hj2 m hm z hz1)
      · refine ⟨_, _, rfl, rfl, _, rfl, pb, _, rfl, SqL.of e1, fun p2 hp2 => ?_⟩
        have ec : cutV (sortV (rs.map Rw.come) ws) (some ((j : Int) + 1)) none = (sortV (rs.map Rw.come) ws).drop (j + 1) := by
          unfold cutV
          rw [show (some ((j : Int) + 1)) = some ((j + 1 : Nat) : Int) from rfl, HT.sIx_nat, HT.sIx_none, Nat.min_eq_left (by omega)]
          exact List.take_of_length_le (by rw [List.length_drop]; exact Nat.le_refl _)
        rw [ec]
        generalize hys : (sortV (rs.map Rw.come) ws).drop (j + 1) = ys
        have s2 : Same H1 (upd H1 p2 (.lst ys)) := same_upd hp2
        have y1 : RwsV H1 ys (above x (bot rs)) := by
          rw [← hys, ← hj3]
          exact paired_drop _ hb
        have g2 : (upd H1 p2 (.lst ys)) p2 = some (.lst ys) := upd_same
        generalize upd H1 p2 (.lst ys) = H2 at s2 g2 ⊢
        refine ⟨_, rfl, p2, ys, rfl, SqL.of g2, fun p3 hp3 => ?_⟩
        have s3 : Same H2 (upd H2 p3 (.lst ys.reverse)) := same_upd hp3
        have g3 : (upd H2 p3 (.lst ys.reverse)) p3 = some (.lst ys.reverse) := upd_same
        have s4 := s2.trans s3
        generalize upd H2 p3 (.lst ys.reverse) = H3 at s3 g3 s4 ⊢
        have y3 : RwsV H3 ys.reverse (above x (bot rs)).reverse := paired_rev (y1.ext (LamX.ExtN.of s4))
        generalize hZ : (above x (bot rs)).reverse = Z at y3
        refine ⟨p3, rfl, ⟨_, SqL.of g3⟩, fun D hD => ?_⟩
        obtain ⟨tx, rfl, htx⟩ := hv.ext (G1.ext.trans (LamX.ExtN.of s4))
        have lz : ys.reverse.length = Z.length := pair_len y3
        have ly : ys.length ≤ 1000 := by
          have := pair_len y1
          rw [← hys, List.length_drop]
          have := pair_len hw
          rw [lb, bot_length]
          omega
        refine lc_gather walk_list (fun i => ((ys.reverse.zip Z)[i]?).bind fun q => if crosses x q.2 = true then some q.1 else none) hD (by rw [List.length_reverse]; exact Nat.le_trans ly (by decide)) (fun H4 s5 => SqL.of (s5 _ _ g3)) (fun i v H4 H5 hi s5 y R k1 => ?_) fun H4 s5 e4 => ?_
        · obtain ⟨rfl, e2⟩ := y
          obtain ⟨r, hr', t', rfl, ht'⟩ := pair_get y3 e2
          have k2 := k1 _ (Same.refl _)
          have ez : (ys.reverse.zip Z)[i]? = some (.ref t', r) := by
            rw [List.getElem?_zip_eq_some]
            exact ⟨e2, hr'⟩
          rw [ez] at k2
          simp only [Option.bind_some] at k2
          have t1 := SqT.of (K := K) (s5 _ _ ht')
          have t2 := SqT.of (K := K) (s5 _ _ htx)
          refine ⟨rfl, _, rfl, t', _, 1, .int r.come, rfl, rfl, t1, atI_nat (j := 1) rfl, _, rfl, tx, _, 2, .int x.go, rfl, rfl, t2, atI_nat (j := 2) rfl, _, _, rfl, rfl, _, rfl, ?_⟩
          by_cases c1 : r.come < x.go
          · rw [if_pos (decide_eq_true c1)]
            refine ⟨_, rfl, t', _, 2, .int r.go, rfl, rfl, t1, atI_nat (j := 2) rfl, _, _, rfl, rfl, ?_⟩
            by_cases c2 : x.go < r.go
            · have e : crosses x r = true := by
                unfold crosses
                rw [decide_eq_true c1, decide_eq_true c2]
                rfl
              rw [if_pos e] at k2
              exact ⟨_, rfl, ite2 (fun _ => ⟨_, rfl, k2⟩) (fun h => absurd (decide_eq_true c2) h)⟩
            · have e : crosses x r = false := by
                unfold crosses
                rw [decide_eq_true c1, decide_eq_false c2]
                rfl
              rw [if_neg (by rw [e]; exact Bool.false_ne_true)] at k2
              exact ⟨_, rfl, ite2 (fun h => absurd (of_decide_eq_true h) c2) (fun _ => k2)⟩
          · have e : crosses x r = false := by
              unfold crosses
              rw [decide_eq_false c1]
              rfl
            rw [if_neg (by rw [e]; exact Bool.false_ne_true)] at k2
            rw [if_neg (by rw [decide_eq_false c1]; exact Bool.false_ne_true)]
            exact ⟨_, rfl, iteF k2⟩
        · have ez : (ys.reverse.zip Z).length = ys.reverse.length := by
            rw [List.length_zip, lz]
            exact Nat.min_self _
          rw [← ez, gather_list] at e4
          have sv := paired_filter (crosses x) (pair_mono (fun _ _ k => RwAt.same s5 k) y3)
          rw [← hZ] at sv
          rw [← hZ] at e4
          exact k D _ _ ((G1.trans (Sh1.Grows.of s4)).trans (Sh1.Grows.of s5)) e4 sv
end
end Sh1
set_option Elab.async false
set_option linter.all false
set_option maxRecDepth 100000
set_option maxHeartbeats 4000000
/-! Party.__call__. -/
namespace Sh1
open PySem L2 Sho NdefX Shg
def rw3 (x : Stay) : Rw := ⟨x.1, x.2.1, x.2.2, []⟩
theorem above_len (x : Rw) : ∀ l : List Rw, (above x l).length ≤ l.length
  | [] => Nat.le_refl _
  | y :: l => by
    unfold above
    split
    · simp
    · exact Nat.le_trans (above_len x l) (by simp)
theorem lifted_len (rs : List Rw) (x : Rw) : (lifted rs x).length ≤ rs.length := by
  unfold lifted
  refine Nat.le_trans (List.length_filter_le ..) ?_
  rw [List.length_reverse, ← bot_length (rs := rs)]
  exact above_len x _
theorem rws_of {H : Hp} : ∀ {ws : List V} {xs : List Stay}, StaysV H ws xs → RwsV H ws (xs.map rw3)
  | _, _, .nil => .nil
  | _, _, .cons h r => .cons h (rws_of r)
section
variable {P : Program} {w : World} {K : PySem.W.Frag} {mg : Str → Option Value} {base : Heap}
def spCallP (C CU : Addr) (T : List (Addr × Str)) : Sp := fun vs H Q E => ∃ (p : Addr) (z : Str) (xs : List Stay), vs = [.ref p, .str z] ∧ PartyAt C H p xs ∧ Short xs ∧ xs.length ≤ 100 ∧ z.length ≤ 100000 ∧ LamX.Tabs T H ∧
  (∀ x, guest xs z = some x → ∀ H', Grows T H H' → Q (.int ((lifted (xs.map rw3) (rw3 x)).length : Nat)) H') ∧
  (guest xs z = none → ∀ (H' : Hp) (d : Addr), Same H H' → H d = none → H' d = some (.xd [(("name" : Str), .str z)]) → E (.ref CU) (some d) H')
theorem scCallP : FnScope ["self", "name"] ["self", "name"] (defScope sPCall) := ⟨rfl, rfl, rfl, by decide +kernel, rfl, by decide +kernel, by decide +kernel⟩
theorem rws_ok {xs : List Stay} (hs : Short xs) : ∀ r ∈ xs.map rw3, OkRw r := fun r hr => by
  obtain ⟨x, hx, rfl⟩ := List.mem_map.mp hr
  exact (hs x hx).2
theorem ok_callP {f C CU fS fL : Addr} {fd fdS fdL : FuncData} {T : List (Addr × Str)} (F : Fun K "__call__" "Party.__call__" sPCall f fd) (B : Shg.Blt mg) (PC : PartyC K mg C)
    (GS : FnOk P w K mg base (L2.CX P w) 3 fS fdS ["self", "name"] (spStayOf C CU)) (mS : Meth K C "_stay_of" fS) (bS : Binds K fdS ["self", "name"] [])
    (GL : FnOk P w K mg base CX0 6 fL fdL ["stays", "taker"] (spLifted K T)) (mL : mg "lifted_from" = some (.ref fL)) (kL : PySem.W.keepIn K (.ref fL) = true) (bL : Binds K fdL ["stays", "taker"] []) : FnOk P w K mg base (L2.CX P w) 8 f fd ["self", "name"] (spCallP C CU T) := by
  refine F.okX scCallP (fun vs H Q E h => ?_) (fun cdv A outer s H vs Q E hr h => ?_)
  · obtain ⟨p, z, xs, rfl, _⟩ := h
    rfl
  · obtain ⟨p, z, xs, rfl, PA, hs, hl, hz, hT, kOk, kBad⟩ := h
    have pass : Passes (L2.CX P w) (cxOf (L2.CX P w) P w K mg base ["self", "name"] "Party.__call__" (defScope sPCall) f cdv A outer s H E) E := passes_call (takes_of rfl rfl rfl rfl) fun _ _ _ _ z => z
    refine ⟨_, pss_one (ps_ret (pe_callB call_len_seq (by rfl) B.len PySem.boot_len (pa_cons (pe_call GL (hr.mono (by decide)) rfl mL kL bL .nil pass0
      (pa_cons (pe_fld (pv 0) rfl) (pa_cons (pe_meth (pv 0) PC.cl mS GS (hr.mono (by decide)) bS .nil pass (pa_cons (pv 1) pa_nil)) pa_nil))) pa_nil))), ?_⟩
    obtain ⟨dx, a, ws, h1, h2, h3⟩ := id PA
    refine ⟨_, rfl, p, C, dx, _, .ref a, rfl, h1, PC.cl, PC.nS, lk_stays _, _, rfl, p, dx, _, rfl, h1, no_meth _ (by decide +kernel), _, rfl, p, z, xs, rfl, PA, hz, fun x t hx ht => ?_, kBad⟩
    refine ⟨a, .ref t, ws, xs.map rw3, rw3 x, rfl, .inr (SqT.of h2), rws_of h3, ⟨t, rfl, ht⟩, List.mem_map.mpr ⟨x, List.mem_of_find?_eq_some hx, rfl⟩, rws_ok hs, by rw [List.length_map]; omega, hT, fun pl H' ys G e r => ⟨pl, _, rfl, .inl (SqL.of e), ?_⟩⟩
    rw [pair_len r]
    exact kOk x hx H' G
end
end Sh1
set_option Elab.async false
set_option linter.all false
set_option maxRecDepth 100000
set_option maxHeartbeats 4000000
/-! chart. -/
namespace Sh1
open PySem L2 Sho NdefX Shg
/-- the last tick -/
def topI : List Int → Int
  | [] => 0
  | a :: r => max a (topI r)
theorem topI_ge : ∀ (l : List Int), 0 ≤ topI l ∧ ∀ a ∈ l, a ≤ topI l
  | [] => ⟨Int.le_refl _, fun a h => nomatch h⟩
  | b :: r => by
    obtain ⟨h0, h1⟩ := topI_ge r
    unfold topI
    refine ⟨by omega, fun a h => ?_⟩
    rcases List.mem_cons.mp h with rfl | h
    · omega
    · have := h1 a h
      omega
theorem topI_mem : ∀ (l : List Int), topI l = 0 ∨ topI l ∈ l
  | [] => Or.inl rfl
  | b :: r => by
    unfold topI
    rcases Int.le_total b (topI r) with h | h
    · rw [Int.max_eq_right h]
      exact (topI_mem r).imp id (List.mem_cons_of_mem _)
    · rw [Int.max_eq_left h]
      exact Or.inr (List.mem_cons_self ..)
theorem topI_of {l : List Int} {m : Int} (hp : ∀ a ∈ l, 0 ≤ a) (h : m = 0 ∧ l = [] ∨ m ∈ l) (hm : ∀ a ∈ l, a ≤ m) : m = topI l := by
  obtain ⟨h0, h1⟩ := topI_ge l
  have h2 : topI l ≤ m := by
    rcases topI_mem l with e | e
    · rw [e]
      rcases h with ⟨rfl, _⟩ | h
      · exact Int.le_refl _
      · exact hp m h
    · exact hm _ e
  have h3 : m ≤ topI l := by
    rcases h with ⟨rfl, rfl⟩ | h
    · exact Int.le_refl _
    · exact h1 m h
  omega
def topOf (xs : List Stay) : Int := topI (xs.map fun x => x.2.2)
/-- how many pairs the guest z lifts -/
def pairsOf (xs : List Stay) (z : Str) : Int := match guest xs z with
  | some x => ((lifted (xs.map rw3) (rw3 x)).length : Nat)
  | none => 0
def signsOf (m : Int) (x : Stay) : Str := repS "." x.2.1.toNat ++ repS "=" (x.2.2 - x.2.1).toNat ++ repS "." (m + 1 - x.2.2).toNat
def chartRow (xs : List Stay) (x : Stay) : Str := padR x.1 8 ++ signsOf (topOf xs) x ++ gt4 (pairsOf xs x.1)
def chartText (xs : List Stay) : Str := Txt.join "\n" (xs.map (chartRow xs))
theorem stays_ext {H H' : Hp} (e : LamX.ExtN H H') : ∀ {vs : List V} {xs : List Stay}, StaysV H vs xs → StaysV H' vs xs
  | _, _, .nil => .nil
  | _, _, .cons h t => by
    obtain ⟨p, ep, hp⟩ := h
    exact .cons ⟨p, ep, e _ _ hp fun _ z => nomatch z⟩ (stays_ext e t)
theorem party_ext {C : Addr} {H H' : Hp} {p : Addr} {xs : List Stay} (e : LamX.ExtN H H') (h : PartyAt C H p xs) : PartyAt C H' p xs := by
  obtain ⟨dx, a, ws, h1, h2, h3⟩ := h
  exact ⟨dx, a, ws, e _ _ h1 (fun _ z => nomatch z), e _ _ h2 (fun _ z => nomatch z), stays_ext e h3⟩
theorem ne_atL {D b : Addr} {H : Hp} {o u : HO} (hD : H D = some o) (e : H b = some u) (n : u ≠ o) : b ≠ D := fun z => by
  rw [z, hD] at e
  exact n (Option.some.inj e).symm
theorem grows_updL {T : List (Addr × Str)} {H H1 : Hp} {D : Addr} {zs zs' : List V} (hD : H D = none) (G : Grows T H H1) (e : H1 D = some (.lst zs)) : Grows T H (L2.upd H1 D (.lst zs')) := by
  refine ⟨fun b u h n => ?_, fun t q hq => ?_⟩
  · rw [upd_ne (ne_of_none h hD)]
    exact G.ext b u h n
  · obtain ⟨qs, q1, q2, q3⟩ := G.tab t q hq
    refine ⟨qs, by rw [upd_ne (ne_atL e q1 fun z => nomatch z)]; exact q1, q2, fun p' cv h => ?_⟩
    obtain ⟨c, e1, e2⟩ := q3 p' cv h
    exact ⟨c, e1, by rw [upd_ne (ne_atL e e2 fun z => nomatch z)]; exact e2⟩
theorem guest_some {xs : List Stay} {x : Stay} (h : x ∈ xs) : ∃ y, guest xs x.1 = some y ∧ y ∈ xs := by
  unfold guest
  cases e : xs.find? fun y => y.1 == x.1 with
  | none =>
    have := List.find?_eq_none.mp e x h
    simp at this
  | some y => exact ⟨y, rfl, List.mem_of_find?_eq_some e⟩
theorem padR_len {y : Str} (h : y.length ≤ 8) : (padR y 8).length = 8 := by
  unfold padR
  split
  · show (Array.replicate 0 32 ++ y.cps ++ Array.replicate (8 - y.length) 32).size = 8
    have : y.cps.size = y.length := rfl
    simp
    omega
  · omega
theorem gt4_len : ∀ {n : Int}, 0 ≤ n → n ≤ 7 → (gt4 n).length = 4 := by
  have h : ∀ k : Fin 8, (gt4 (k.1 : Int)).length = 4 := by decide +kernel
  intro n h0 h7
  have := h ⟨n.toNat, by omega⟩
  rw [show ((n.toNat : Nat) : Int) = n by omega] at this
  exact this
theorem signs_len {m : Int} {x : Stay} (h0 : 0 ≤ x.2.1) (h1 : x.2.1 < x.2.2) (h2 : x.2.2 ≤ m) : (signsOf m x).length = (m + 1).toNat := by
  unfold signsOf
  have e1 : (Str.ofString ".").length = 1 := by decide +kernel
  have e2 : (Str.ofString "=").length = 1 := by decide +kernel
  rw [len_str, len_str, repS_len, repS_len, repS_len, e1, e2]
  omega
section
variable {P : Program} {w : World} {K : PySem.W.Frag} {mg : Str → Option Value} {base : Heap}
abbrev NCH : List Str := ["party", "last", "rows", "name", "come", "go", "signs"]
def spChart (CP CT : Addr) (T : List (Addr × Str)) : Sp := fun vs H Q E => ∃ (p : Addr) (xs : List Stay), vs = [.ref p] ∧ PartyAt CP H p xs ∧ Short xs ∧ (∀ x ∈ xs, Tidy x ∧ x.2.1 < x.2.2) ∧ xs.length ≤ 6 ∧ LamX.Tabs T H ∧
  (topOf xs ≤ 99 → ∀ H', Grows T H H' → Q (.str (chartText xs)) H') ∧ (99 < topOf xs → ∀ H', Same H H' → E (.ref CT) none H')
theorem scChart : FnScope NCH ["party"] (defScope sChart) := ⟨rfl, rfl, rfl, by decide +kernel, rfl, by decide +kernel, by decide +kernel⟩
theorem ok_chart {f CP CT CU fS pS fC : Addr} {fd fdS fdC : FuncData} {T : List (Addr × Str)} {t99 : Tok} (F : Fun K "chart" "chart" sChart f fd) (B : Shg.Blt mg) (mM : mg "max" = none) (PC : PartyC K mg CP) (EC : Sho.ErrO K mg "TooWide" CT) (g99 : mg "LAST_CHART_TICK" = some (.int 99 t99))
    (GS : FnOk P w K mg base CX0 1 fS fdS ["self"] (getSp CP "_stays")) (hS : PropOf K CP "stays" pS fS) (bS : Binds K fdS ["self"] [])
    (GC : FnOk P w K mg base (L2.CX P w) 8 fC fdC ["self", "name"] (spCallP CP CU T)) (bC : Binds K fdC ["self", "name"] []) (oC : StX.CallO K CP fC) : FnOk P w K mg base (L2.CX P w) 10 f fd ["party"] (spChart CP CT T) := by
  refine F.okX scChart (fun vs H Q E h => ?_) (fun cdv A outer s H vs Q E hr h => ?_)
  · obtain ⟨p, xs, rfl, _⟩ := h
    rfl
  · obtain ⟨p, xs, rfl, PA, hsh, hok, hl, hT, kOk, kBad⟩ := h
    have nd := scChart.nd
    have pass : Passes (L2.CX P w) (cxOf (L2.CX P w) P w K mg base NCH "chart" (defScope sChart) f cdv A outer s H E) E := passes_call (takes_of rfl rfl rfl rfl) fun _ _ _ _ z => z
    refine ⟨_, pss_cons (ps_set (i := 1) nd rfl (Or.inl rfl) (pe_callBK (cr_maxDef (hr.mono (Nat.zero_le _))) (by rfl) mM (by decide +kernel) (pa_cons (pe_lc (own := [("name", 3), ("come", 4), ("go", 5)]) (g := gTup K 3 (gCons (gName 3) (gCons (gName 4) (gCons (gName 5) gNil)))) (tt := tYes) (te := tVar 5) rfl nd
        (pi_tup (pe_prop (pv 0) PC.cl hS GS (hr.mono (by decide)) bS .nil pass0 rfl)) (blkOk_by (own := [("name", 3), ("come", 4), ("go", 5)]) (N := NCH) (sc := defScope sChart) (by decide +kernel))
        (fun _ _ _ _ _ => pg_tup rfl (pgs_cons (pg_name (i := 3) nd rfl (Or.inl rfl)) (pgs_cons (pg_name (i := 4) nd rfl (Or.inl rfl)) (pgs_cons (pg_name (i := 5) nd rfl (Or.inl rfl)) pgs_nil))))
        (fun _ _ _ _ _ => pts_nil) (fun _ _ _ _ _ => pv 5)) pa_nil) (pk_cons pe_int pk_nil)))
      (pss_cons (ps_if (pt_cmpR op_gt (pv 1) (pe_glob (v := .int 99) rfl g99 ⟨_, rfl⟩) (nomark _))
        (pss_one (ps_raise rfl (takes_of rfl rfl rfl rfl) (SkE.pmk_own1 PySem.F.excBase_ValueError EC.ex EC.gm EC.kp (raises_own EC.be EC.ty) (by rfl) (pe_joined (.cons pe_str (.cons (pe_fmt (pv 1)) .nil)))))) pss_nil)
      (pss_cons (ps_set (i := 2) nd rfl (Or.inl rfl) (pe_lst pa_nil))
      (pss_cons (ps_for (passes_of rfl) rfl (pi_tup (pe_prop (pv 0) PC.cl hS GS (hr.mono (by decide)) bS .nil pass0 rfl)) (pg_tup rfl (pgs_cons (pg_name (i := 3) nd rfl (Or.inl rfl)) (pgs_cons (pg_name (i := 4) nd rfl (Or.inl rfl)) (pgs_cons (pg_name (i := 5) nd rfl (Or.inl rfl)) pgs_nil))))
        (pss_cons (ps_set (i := 6) nd rfl (Or.inl rfl) (pe_op op_add_str (pe_op op_add_str (pe_op op_repS pe_str (pv 4)) (pe_op op_repS pe_str (pe_op op_sub (pv 5) (pv 4)))) (pe_op op_repS pe_str (pe_op op_sub (pe_op op_add (pv 1) pe_int) (pv 5)))))
        (pss_one (ps_expr (pe_bm PySem.F.plainAttrs_list PySem.F.slot_list_append PySem.F.type_list_append mt_append (pv 2) (pa_cons (pe_joinT (.cons (pe_lt8 (pv 3)) (.cons (pe_fmt (pv 6)) (.cons (pe_gt4 (StX.pe_callO (pv 0) oC (fnr_of GC bC) (hr.mono (by decide)) pass (pa_cons (pv 3) pa_nil))) .nil)))) pa_nil))))))
      (pss_one (ps_ret (pe_join pe_str (pv 2))))))), ?_⟩
    obtain ⟨dx, a, ws, h1, h2, h3⟩ := id PA
    have wl := pair_len h3
    have gos : ∀ g ∈ xs.map (fun x => x.2.2), (0 : Int) ≤ g := fun g hg => by
      obtain ⟨x, hx, rfl⟩ := List.mem_map.mp hg
      exact (hok x hx).1.2.2.2.1
    have topx : ∀ x ∈ xs, x.2.2 ≤ topOf xs := fun x hx => (topI_ge _).2 _ (List.mem_map_of_mem (f := fun x : Stay => x.2.2) hx)
    have top0 : 0 ≤ topOf xs := (topI_ge _).1
    refine ⟨_, rfl, p, dx, _, rfl, h1, p, dx, _, .ref a, rfl, h1, lk_stays _, a, rfl, ⟨_, SqT.of h2⟩, fun D hD => ?_⟩
    refine lc_map walk_tup (fun i => (xs[i]?).map fun x => .int x.2.2) hD (by rw [wl]; exact Nat.le_trans hl (by decide)) (fun H1 s1 => SqT.of (s1 _ _ h2)) (fun i v H1 H' hi s1 y R k1 => ?_) (fun i hi => ⟨_, by rw [List.getElem?_eq_getElem (by rw [← wl]; exact hi)]; rfl⟩) fun H1 s1 e1 => ?_
    · obtain ⟨rfl, e2⟩ := y
      obtain ⟨x, hx, t, rfl, ht⟩ := pair_get h3 e2
      exact ⟨t, _, rfl, SqT.of (s1 _ _ ht), rfl, _, _, rfl, _, _, rfl, _, _, rfl, rfl, rfl, _, rfl, k1 _ _ (Same.refl _) (by rw [hx]; rfl)⟩
    · rw [wl, gather_map xs fun x => V.int x.2.2] at e1
      have e2 : xs.map (fun x => V.int x.2.2) = (xs.map fun x => x.2.2).map V.int := by
        rw [List.map_map]
        rfl
      rw [e2] at e1
      refine ⟨D, xs.map fun x => x.2.2, 0, rfl, rfl, SqL.of e1, fun m hm => name_of ?_⟩
      obtain rfl : m = topOf xs := by
        rcases hm with ⟨hn, rfl⟩ | ⟨hm, hb⟩
        · refine topI_of gos (Or.inl ⟨rfl, hn⟩) fun b hb => ?_
          rw [hn] at hb
          cases hb
        · exact topI_of gos (Or.inr hm) hb
      refine ⟨_, rfl, _, _, rfl, rfl, _, rfl, ite2 (fun c => ?_) (fun c => nx_of ?_)⟩
      · have c' : 99 < topOf xs := of_decide_eq_true c
        have tb : topOf xs ≤ 1000000000 := by
          rcases topI_mem (xs.map fun x => x.2.2) with e | e
          · show topI _ ≤ _
            rw [e]
            decide
          · obtain ⟨x, hx, e⟩ := List.mem_map.mp e
            show topI _ ≤ _
            rw [← e]
            exact (hok x hx).1.2.2.2.2
        have lg := small_log top0 tb
        have e0 : (Str.empty ++ Str.ofString "somebody goes in tick ").length ≤ 30 := by decide +kernel
        refine ⟨_, rfl, Nat.le_trans e0 (by decide), _, rfl, .inr ⟨topOf xs, rfl, lg, _, rfl, ?_, kBad c' _ s1⟩⟩
        exact Nat.le_trans (Sho.cat_le (n := 30) (m := 1921) e0 (PyProof.Rows.int_text_len_1921 lg)) (by decide)
      · have c' : topOf xs ≤ 99 := by
          have := of_decide_eq_false (Bool.eq_false_iff.mpr c)
          omega
        refine ⟨Nat.zero_le _, fun L hL => ?_⟩
        have hL0 : H L = none := s1.free hL
        have G2 : Grows T H (upd H1 L (.lst [])) := (Sh1.Grows.of s1).trans (Grows.upd hL)
        have hL2 : (upd H1 L (.lst [])) L = some (.lst []) := upd_same
        generalize upd H1 L (.lst []) = H2 at *
        have at1 : ∀ {H'}, Grows T H H' → H' p = some (.ins CP dx [(("_stays" : Str), .ref a)]) := fun G => G.ext _ _ h1 fun _ z => nomatch z
        have at2 : ∀ {H'}, Grows T H H' → H' a = some (.tup ws) := fun G => G.ext _ _ h2 fun _ z => nomatch z
        have k1 : (Str.ofString ".").length = 1 := by decide +kernel
        have k2 : (Str.ofString "=").length = 1 := by decide +kernel
        have big : ∀ {n : Nat}, n ≤ 1000 → n ≤ sizeLine := fun h => Nat.le_trans h (by decide)
        have pq : ∀ x ∈ xs, 0 ≤ pairsOf xs x.1 ∧ pairsOf xs x.1 ≤ 7 := fun x hx => by
          obtain ⟨y, ey, _⟩ := guest_some hx
          have := lifted_len (xs.map rw3) (rw3 y)
          rw [List.length_map] at this
          unfold pairsOf
          rw [ey]
          show (0 : Int) ≤ ((lifted (xs.map rw3) (rw3 y)).length : Nat) ∧ (((lifted (xs.map rw3) (rw3 y)).length : Nat) : Int) ≤ 7
          omega
        have rowl : ∀ x ∈ xs, (chartRow xs x).length ≤ 120 := fun x hx => by
          obtain ⟨T, lt⟩ := hok x hx
          obtain ⟨q0, q7⟩ := pq x hx
          unfold chartRow
          rw [len_str, len_str, padR_len T.1, signs_len T.2.1 lt (topx x hx), gt4_len q0 q7]
          omega
        refine ⟨_, rfl, p, dx, _, rfl, at1 G2, p, dx, _, .ref a, rfl, at1 G2, lk_stays _, a, rfl, ⟨_, SqT.of (at2 G2)⟩, for_it walk_tup (fun i σ H3 => ∃ o3 o4 o5 o6, σ = [some (.ref p), some (.int (topOf xs)), some (.ref L), o3, o4, o5, o6] ∧ Grows T H H3 ∧ H3 L = some (.lst ((xs.take i).map fun x => .str (chartRow xs x))))
          ⟨none, none, none, none, rfl, G2, hL2⟩ (fun i σ H3 _ ⟨_, _, _, _, _, G3, _⟩ => SqT.of (at2 G3)) ?_ ?_⟩
        · rintro i y σ H3 H4 hi ⟨o3, o4, o5, o6, rfl, G3, hL3⟩ ⟨rfl, ey⟩
          obtain ⟨x, hx, t, rfl, ht⟩ := pair_get h3 ey
          have hxm := List.mem_of_getElem? hx
          obtain ⟨⟨t1, t2, t3, t4, t5⟩, lt⟩ := hok x hxm
          have tx := topx x hxm
          obtain ⟨q0, q7⟩ := pq x hxm
          have sl := signs_len t2 lt tx
          have sl' : (repS "." x.2.1.toNat ++ repS "=" (x.2.2 - x.2.1).toNat ++ repS "." (topOf xs + 1 - x.2.2).toNat).length = (topOf xs + 1).toNat := sl
          have la : (repS "." x.2.1.toNat).length ≤ 100 := by rw [repS_len, k1]; omega
          have lb : (repS "=" (x.2.2 - x.2.1).toNat).length ≤ 100 := by rw [repS_len, k2]; omega
          have lc : (repS "." (topOf xs + 1 - x.2.2).toNat).length ≤ 101 := by rw [repS_len, k1]; omega
          refine ⟨t, _, rfl, SqT.of (G3.ext _ _ ht fun _ z => nomatch z), rfl, _, _, rfl, _, _, rfl, _, _, rfl, rfl, ?_⟩
          refine ⟨_, rfl, ".", _, rfl, rfl, by omega, by omega, by rw [k1]; decide, _, rfl, _, rfl, _, _, rfl, rfl, "=", _, rfl, rfl, by omega, by omega, by rw [k2]; decide, _, _, rfl, rfl, big (by omega), _, rfl, _, _, rfl, rfl, _, rfl, _, _, rfl, rfl, ".", _, rfl, rfl, by omega, by omega, by rw [k1]; decide, _, _, rfl, rfl, big (by rw [len_str]; omega), name_of ?_⟩
          have rl := rowl x hxm
          have er : chartRow xs x = padR x.1 8 ++ (repS "." x.2.1.toNat ++ repS "=" (x.2.2 - x.2.1).toNat ++ repS "." (topOf xs + 1 - x.2.2).toNat) ++ gt4 (pairsOf xs x.1) := rfl
          generalize repS "." x.2.1.toNat ++ repS "=" (x.2.2 - x.2.1).toNat ++ repS "." (topOf xs + 1 - x.2.2).toNat = sg at *
          have pl := padR_len t1
          have z1 : Str.empty ++ padR x.1 8 = padR x.1 8 := PySem.Str.empty_append _
          refine ⟨_, rfl, .inl ⟨rfl, _, SqL.of hL3⟩, _, rfl, x.1, rfl, Nat.le_trans t1 (by decide), _, rfl, ?_, ?_⟩
          · rw [z1, pl]
            exact big (by decide)
          · rw [z1]
            refine ⟨_, rfl, .inl ⟨sg, rfl, big (by omega), _, rfl, big (by rw [len_str]; omega), ?_⟩⟩
            obtain ⟨gx, eg, _⟩ := guest_some hxm
            refine ⟨_, rfl, p, rfl, _, rfl, .inr ⟨dx, _, at1 G3⟩, p, x.1, xs, rfl, party_ext G3.ext PA, hsh, by omega, by omega, G3.tab hT, fun gy ey' H5 G5 => ?_, fun e => ?_⟩
            · rw [eg] at ey'
              cases ey'
              have ev : pairsOf xs x.1 = ((lifted (xs.map rw3) (rw3 gx)).length : Nat) := by
                unfold pairsOf
                rw [eg]
              have hL5 := G5.ext _ _ hL3 fun _ z => nomatch z
              rw [← ev]
              refine ⟨pairsOf xs x.1, rfl, q0, q7, _, rfl, big ?_, L, _, _, rfl, rfl, hL5, ?_, ?_⟩
              · rw [← er]
                omega
              · rw [List.length_map, List.length_take]
                exact Nat.lt_of_le_of_lt (Nat.min_le_right ..) (Nat.lt_of_le_of_lt hl (by decide))
              · have take1 : xs.take (i + 1) = xs.take i ++ [x] := by rw [List.take_add_one, hx]; rfl
                refine ⟨_, _, _, _, rfl, grows_updL hL0 (G3.trans G5) hL5, ?_⟩
                rw [upd_same, take1, List.map_append, ← er]
                rfl
            · rw [eg] at e
              cases e
        · rintro σ H3 ⟨o3, o4, o5, o6, rfl, G3, hL3⟩
          rw [wl, List.take_length] at hL3
          have e3 : xs.map (fun x => V.str (chartRow xs x)) = (xs.map (chartRow xs)).map V.str := by
            rw [List.map_map]
            rfl
          rw [e3] at hL3
          refine ⟨⟨_, rfl⟩, _, rfl, "\n", L, xs.map (chartRow xs), rfl, rfl, .inl (SqL.of hL3), ?_, kOk c' _ G3⟩
          have e4 : (Str.ofString "\n").length = 1 := by decide +kernel
          rw [e4, List.map_map, List.length_map]
          have := sum_le ((fun y : Str => y.length) ∘ chartRow xs) 120 xs rowl
          omega
end
end Sh1
set_option Elab.async false
set_option linter.all false
set_option maxRecDepth 100000
set_option maxHeartbeats 2000000
/-! a op b op c op d as a test -/
namespace Sho
open PySem PySem.Spec PyProof.Rows L2 StX
section
variable {X : Cx} {a b c d : Expr} {ta tb tc td : TE} {pos : Pos}
def tChain3 (r1 r2 r3 : R2) (ta tb tc td : TE) : TT := fun σ H Q => ta σ H fun x H1 => tb σ H1 fun y H2 => r1 x y H2 fun z H3 => ∃ k, z = .bl k ∧
  (if k = true then tc σ H3 fun w H4 => r2 y w H4 fun z2 H5 => ∃ k2, z2 = .bl k2 ∧ (if k2 = true then td σ H5 fun u H6 => r3 w u H6 fun z3 H7 => ∃ k3, z3 = .bl k3 ∧ Q k3 H7 else Q false H5) else Q false H3)
theorem pt_chain3 {op1 op2 op3 : CmpOp} {r1 r2 r3 : R2} (h1 : OpR X (compareOp op1) r1) (h2 : OpR X (compareOp op2) r2) (h3 : OpR X (compareOp op3) r3) (ha : PE X a ta) (hb : PE X b tb) (hc : PE X c tc) (hd : PE X d td)
    (hm : lastMarks [op1, op2, op3] [b, c, d] = false := by with_unfolding_all rfl) : PT X (.Compare a [op1, op2, op3] [b, c, d] pos) (tChain3 r1 r2 r3 ta tb tc td) := by
  refine ⟨fun pins s σ H Q I h => ?_⟩
  refine isTrue_chain (thn (ha.run pins s σ H _ I h) fun v s1 ⟨x, H1, I1, rx, q1⟩ => test_link (thn (hb.run pins s1 σ H1 _ I1 q1) fun u s2 ⟨y, H2, I2, ry, q2⟩ =>
    thn (h1 pins s2 σ H2 x y v u _ I2 rx ry q2) fun e s3 ⟨z, H3, I3, rz, k, ez, q3⟩ => ?_)) hm
  subst ez
  cases rz
  refine wpAny_truthy_bool ?_
  cases k with
  | false => exact ite_ff ⟨H3, I3, q3⟩
  | true =>
    refine ite_tt (test_link (thn (hc.run pins s3 σ H3 _ I3 q3) fun v' s4 ⟨w, H4, I4, rw, q4⟩ => thn (h2 pins s4 σ H4 y w u v' _ I4 ry rw q4) fun e2 s5 ⟨z2, H5, I5, rz2, k2, ez2, q5⟩ => ?_))
    subst ez2
    cases rz2
    refine wpAny_truthy_bool ?_
    cases k2 with
    | false => exact ite_ff ⟨H5, I5, q5⟩
    | true =>
      refine ite_tt (test_last (thn (hd.run pins s5 σ H5 _ I5 q5) fun u' s6 ⟨w2, H6, I6, rw2, q6⟩ => thn (h3 pins s6 σ H6 w w2 v' u' _ I6 rw rw2 q6) fun e3 s7 ⟨z3, H7, I7, rz3, k3, ez3, q7⟩ => ?_))
      subst ez3
      cases rz3
      exact wpAny_truthy_bool ⟨H7, I7, q7⟩
end
end Sho
set_option Elab.async false
set_option linter.all false
set_option maxRecDepth 100000
set_option maxHeartbeats 8000000
/-! _law_due. -/
namespace Sh1
open PySem L2 Sho NdefX Shg
def timeGood (a b : Int) : Bool := decide (0 ≤ a) && (decide (a < b) && decide (b ≤ 1000000000))
theorem stay_time (z : Str) (a b : Int) : okStay z a b = (okName z && timeGood a b) := by
  unfold okStay timeGood
  cases okName z with
  | false => rfl
  | true =>
    rw [Bool.eq_iff_iff]
    simp only [okTick, Bool.and_eq_true, decide_eq_true_eq, Bool.true_and]
    omega
/-- what _law_good says -/
def goodRow : List Str → List Str → Bool
  | [n, _], [_, _] => decide ((1 : Int) ≤ n.length) && decide ((n.length : Int) ≤ 8)
  | _, _ => false
theorem goodRow_1 {ws ts : List Str} (h : ws.length ≠ 2) : goodRow ws ts = false := by
  match ws, h with
  | [], _ => rfl
  | [_], _ => rfl
  | [_, _], h => exact absurd rfl h
  | _ :: _ :: _ :: _, _ => rfl
theorem goodRow_2 {ws ts : List Str} (h : ts.length ≠ 2) : goodRow ws ts = false := by
  match ws, ts, h with
  | [_, _], [], _ => rfl
  | [_, _], [_], _ => rfl
  | [_, _], [_, _], h => exact absurd rfl h
  | [_, _], _ :: _ :: _ :: _, _ => rfl
  | [], _, _ => rfl
  | [_], _, _ => rfl
  | _ :: _ :: _ :: _, _, _ => rfl
theorem last_of {α : Type} {l : List α} (h : l ≠ []) : ∃ pre z, l = pre ++ [z] := ⟨_, _, (List.dropLast_concat_getLast h).symm⟩
theorem goodRow_no {pre ts : List Str} {z : Str} (e : ticksOf z = ts) (h : goodRow (pre ++ [z]) ts = false) : okWords (pre ++ [z]) = false := by
  by_cases h2 : (pre ++ [z]).length = 2
  · obtain ⟨n, rfl⟩ : ∃ n, pre = [n] := by
      match pre, h2 with
      | [n], _ => exact ⟨n, rfl⟩
      | [], h2 => simp at h2
      | _ :: _ :: _, h2 => simp at h2
    show (okName n && okTicks (ticksOf z)) = false
    rw [e]
    by_cases h3 : ts.length = 2
    · obtain ⟨u, v, rfl⟩ := two_of h3
      have h4 : (decide ((1 : Int) ≤ n.length) && decide ((n.length : Int) ≤ 8)) = false := h
      unfold okName
      rw [← Bool.and_assoc, h4]
      rfl
    · rw [okTicks_not h3, Bool.and_false]
  · exact okWords_not h2
theorem goodRow_yes {ws ts : List Str} (h : goodRow ws ts = true) : ∃ n z u v, ws = [n, z] ∧ ts = [u, v] ∧ (1 : Int) ≤ n.length ∧ (n.length : Int) ≤ 8 := by
  by_cases h2 : ws.length = 2
  · by_cases h3 : ts.length = 2
    · obtain ⟨n, z, rfl⟩ := two_of h2
      obtain ⟨u, v, rfl⟩ := two_of h3
      have h4 : (decide ((1 : Int) ≤ n.length) && decide ((n.length : Int) ≤ 8)) = true := h
      simp only [Bool.and_eq_true, decide_eq_true_eq] at h4
      exact ⟨n, z, u, v, rfl, rfl, h4.1, h4.2⟩
    · rw [goodRow_2 h3] at h
      cases h
  · rw [goodRow_1 h2] at h
    cases h
theorem rows_len (t : Str) : (allWords t).length = (rowsOf t).length := List.length_map ..
section
variable {P : Program} {w : World} {K : PySem.W.Frag} {mg : Str → Option Value} {base : Heap}
abbrev NDU : List Str := ["_law_text", "_law_rows", "_law_stays_here", "_law_k", "_law_words", "_law_ticks", "_law_good", "_law_name", "_law_come", "_law_go", "_law_c", "_law_one"]
def spDue : Sp := fun vs H Q _ => ∃ t : Str, vs = [.str t] ∧ t.length ≤ 1000 ∧ Plain t ∧ (rowsOf t).length ≤ 23 ∧
  (∀ i, badWordsFrom 0 (allWords t) = some i → ∀ (H' : Hp) (T : Addr), Same H H' → H' T = some (.tup [.str "text", .int (i : Nat)]) → Q (.ref T) H') ∧
  (badWordsFrom 0 (allWords t) = none → (∀ i, firstBad (saysAll (allWords t)) = some i → ∀ (H' : Hp) (T : Addr), Same H H' → H' T = some (.tup [.str "stay", .int (i : Nat)]) → Q (.ref T) H') ∧
    (firstBad (saysAll (allWords t)) = none → ∀ (H' : Hp) (T a : Addr) (ws : List V), Same H H' → H' T = some (.tup [.str "value", .ref a]) → H' a = some (.tup ws) → StaysV H' ws (saysAll (allWords t)) → Q (.ref T) H'))
theorem scDue : FnScope NDU ["_law_text"] (defScope sLawDue) := ⟨rfl, rfl, rfl, by decide +kernel, rfl, by decide +kernel, by decide +kernel⟩
theorem ok_due {f fT : Addr} {fd fdT : FuncData} (F : Fun K "_law_due" "_law_due" sLawDue f fd) (B : Shg.Blt mg)
    (GT : FnOk P w K mg base CX0 1 fT fdT ["_law_word"] spLawTick) (mT : mg "_law_is_tick" = some (.ref fT)) (kT : PySem.W.keepIn K (.ref fT) = true) (bT : Binds K fdT ["_law_word"] []) :
    FnOk P w K mg base CX0 3 f fd ["_law_text"] spDue := by
  refine F.ok scDue (fun vs H Q E h => ?_) (fun cdv A outer s H vs Q E hr h => ?_)
  · obtain ⟨t, rfl, _⟩ := h
    rfl
  · obtain ⟨t, rfl, hz, hp, hn, kBad, kOk⟩ := h
    have nd := scDue.nd
    refine ⟨_, (pss_cons (ps_par (i := 1) (j := 2) rfl nd rfl rfl (by decide) rfl rfl (pa_cons (pe_ifExp (pt_cmpR op_ne (pv 0) pe_str (nomark _)) (pe_split (pv 0) pe_str) (pe_lst pa_nil)) (pa_cons (pe_lst pa_nil) pa_nil)) (by rfl))
      (pss_cons (ps_for PassesOwn.never rfl (pi_range1 (by rfl) B.range (pa_cons (pe_callB call_len_seq (by rfl) B.len PySem.boot_len (pa_cons (pv 1) pa_nil)) pa_nil)) (pg_name (i := 3) nd rfl (Or.inl rfl)) (pss_cons (ps_set (i := 4) nd rfl (Or.inl rfl) (pe_split (pe_ix ix_list (pv 1) (pv 3) (fun _ _ => rfl)) pe_str))
      (pss_cons (ps_set (i := 5) nd rfl (Or.inl rfl) (pe_split (pe_ix ix_list (pv 4) (pe_un un_neg pe_int) (fun _ _ => rfl)) pe_str))
      (pss_cons (ps_set (i := 6) nd rfl (Or.inl rfl) (pe_and (pe_cmpR op_eq (pe_callB call_len_seq (by rfl) B.len PySem.boot_len (pa_cons (pv 4) pa_nil)) pe_int (nomark _)) (pe_and (pe_cmpR op_eq (pe_callB call_len_seq (by rfl) B.len PySem.boot_len (pa_cons (pv 5) pa_nil)) pe_int (nomark _)) (pe_one (pe_chain op_le op_le pe_int (pe_callB call_len_str (by rfl) B.len PySem.boot_len (pa_cons (pe_ix ix_list (pv 4) pe_int (fun _ _ => rfl)) pa_nil)) pe_int)))))
      (pss_cons (ps_if (PW.pt (pw_or (pt_not (pt_val (pv 6))) (pw_or (pt_cmpR (op_neD hr.units) (pe_lc (own := [("_law_c", 10)]) (g := gName 10) (tt := tNot (tTest (tChain rLeS rLeS (tC (.str "a")) (tVar 10) (tC (.str "z"))))) (te := tVar 10) rfl nd (pi_str (pe_ix ix_list (pv 4) pe_int (fun _ _ => rfl))) (blkOk_by (own := [("_law_c", 10)]) (N := NDU) (sc := defScope sLawDue) (by decide +kernel))
        (fun _ _ _ _ _ => (pg_name (i := 10) nd rfl (Or.inl rfl))) (fun _ _ _ _ _ => pts_one (pt_not (pt_chain op_le_str op_le_str pe_str (pv 10) pe_str))) (fun _ _ _ _ _ => (pv 10))) (pe_lst pa_nil) (nomark _)) (pw_or1 (pt_not (pt_val (pe_call GT (hr.mono (by decide)) rfl mT kT bT .nil pass0 (pa_cons (pe_ix ix_list (pv 5) pe_int (fun _ _ => rfl)) pa_nil)))))))) (pss_one (ps_ret (pe_tup (pa_cons pe_str (pa_cons (pv 3) pa_nil))))) pss_nil)
      (pss_cons (ps_if (pt_not (pt_val (pe_call GT (hr.mono (by decide)) rfl mT kT bT .nil pass0 (pa_cons (pe_ix ix_list (pv 5) pe_int (fun _ _ => rfl)) pa_nil)))) (pss_one (ps_ret (pe_tup (pa_cons pe_str (pa_cons (pv 3) pa_nil))))) pss_nil)
      (pss_one (ps_expr (pe_bm PySem.F.plainAttrs_list PySem.F.slot_list_append PySem.F.type_list_append mt_append (pv 2) (pa_cons (pe_tup (pa_cons (pe_ix ix_list (pv 4) pe_int (fun _ _ => rfl)) (pa_cons (pe_callTy call_int_str (by rfl) B.int (by decide +kernel) (pa_cons (pe_ix ix_list (pv 5) pe_int (fun _ _ => rfl)) pa_nil)) (pa_cons (pe_callTy call_int_str (by rfl) B.int (by decide +kernel) (pa_cons (pe_ix ix_list (pv 5) pe_int (fun _ _ => rfl)) pa_nil)) pa_nil)))) pa_nil))))))))))
      (pss_cons (ps_for PassesOwn.never rfl (pi_range1 (by rfl) B.range (pa_cons (pe_callB call_len_seq (by rfl) B.len PySem.boot_len (pa_cons (pv 2) pa_nil)) pa_nil)) (pg_name (i := 3) nd rfl (Or.inl rfl)) (pss_cons (ps_asg (pe_ix ix_list (pv 2) (pv 3) (fun _ _ => rfl)) (pg_tup rfl (pgs_cons (pg_name (i := 7) nd rfl (Or.inl rfl)) (pgs_cons (pg_name (i := 8) nd rfl (Or.inl rfl)) (pgs_cons (pg_name (i := 9) nd rfl (Or.inl rfl)) pgs_nil)))))
      (pss_one (ps_if (PW.pt (pw_or (pt_not (pt_chain3 op_le op_lt op_le pe_int (pv 8) (pv 9) (pe_op op_pow pe_int pe_int))) (pw_or1 (pt_cmpR op_in_seq (pv 7) (pe_lc (own := [("_law_one", 11)]) (g := gName 11) (tt := tYes) (te := tOp (rIxT K) (tVar 11) (tC (.int 0))) rfl nd (pi_list (pe_slice sl_list (pv 2) po_none (po_some (pv 3)))) (blkOk_by (own := [("_law_one", 11)]) (N := NDU) (sc := defScope sLawDue) (by decide +kernel))
        (fun _ _ _ _ _ => (pg_name (i := 11) nd rfl (Or.inl rfl))) (fun _ _ _ _ _ => pts_nil) (fun _ _ _ _ _ => pe_ix ix_tup (pv 11) pe_int (fun _ _ => rfl))) rfl)))) (pss_one (ps_ret (pe_tup (pa_cons pe_str (pa_cons (pv 3) pa_nil))))) pss_nil))))
      (pss_one (ps_ret (pe_tup (pa_cons pe_str (pa_cons (pe_callTy call_tuple_of (by rfl) B.tuple (by decide +kernel) (pa_cons (pv 2) pa_nil)) pa_nil)))))))), ?_⟩
    have hw1 : ∀ r ∈ rowsOf t, r.length ≤ 1000 ∧ Plain r := by
      unfold rowsOf
      intro r hr'
      by_cases c : t = ""
      · rw [if_pos c] at hr'
        cases hr'
      · rw [if_neg c] at hr'
        exact ⟨Nat.le_trans (sepN.le t r hr') hz, sepN.plain t hp r hr'⟩
    have rl : (rowsOf t).length < 1000 := by omega
    have aw : ∀ (i : Nat) r, (rowsOf t)[i]? = some r → (allWords t)[i]? = some (wordsOf r) := fun i r e => by
      unfold allWords
      rw [List.getElem?_map, e]
      rfl
    refine par_rel (fun v H1 => ∃ q, v = .ref q ∧ Same H H1 ∧ H1 q = some (.lst ((rowsOf t).map V.str))) (fun R hR => ?_) ?_
    · refine ⟨_, rfl, rfl, _, rfl, ?_⟩
      by_cases c : t = ""
      · have e : decide (V.str t = V.str "") = true := decide_eq_true (by rw [c])
        rw [e]
        refine iteF ⟨Nat.zero_le _, fun q hq => hR _ _ ⟨q, rfl, same_upd hq, ?_⟩⟩
        rw [upd_same]
        unfold rowsOf
        rw [if_pos c]
        rfl
      · have e : decide (V.str t = V.str "") = false := decide_eq_false fun q => c (V.str.inj q)
        rw [e]
        refine iteT ⟨_, rfl, ⟨t, rfl⟩, t, "\n", rfl, rfl, by decide +kernel, Nat.le_trans (Nat.add_le_add_right hz 2) (by decide), fun q hq => hR _ _ ⟨q, rfl, same_upd hq, ?_⟩⟩
        rw [upd_same]
        unfold rowsOf
        rw [if_neg c]
    · rintro v H1 ⟨q, rfl, s1, hq1⟩
      refine ⟨Nat.zero_le _, fun L hL => ⟨_, _, rfl, ?_⟩⟩
      have hL0 : H L = none := s1.free hL
      have nqL : q ≠ L := ne_of_none hq1 hL
      have s2 : Same H (upd H1 L (.lst [])) := s1.trans (same_upd hL)
      have hq2 : (upd H1 L (.lst [])) q = some (.lst ((rowsOf t).map V.str)) := by
        rw [upd_ne nqL]
        exact hq1
      have hL2 : (upd H1 L (.lst [])) L = some (.lst []) := upd_same
      generalize upd H1 L (.lst []) = H2 at *
      have ln : ((rowsOf t).map V.str).length = (rowsOf t).length := List.length_map ..
      refine ⟨_, rfl, q, _, rfl, .inl (SqL.of hq2), _, rfl, ?_, ?_, for_it walk_range (fun i σ H3 => ∃ o3 o4 o5 o6 o7 o8 o9 o10 o11 ws, σ = [some (.str t), some (.ref q), some (.ref L), o3, o4, o5, o6, o7, o8, o9, o10, o11] ∧ ButL L H2 H3 ∧ H3 L = some (.lst ws) ∧ StaysV H3 ws (saysAll ((allWords t).take i)) ∧ ws.length = i ∧ badWordsFrom i ((allWords t).drop i) = badWordsFrom 0 (allWords t))
        ⟨none, none, none, none, none, none, none, none, none, [], rfl, ButL.refl _ _, hL2, .nil, rfl, rfl⟩ (fun _ _ _ _ _ => trivial) ?_ ?_⟩
      · omega
      · omega
      · rintro i y σ H3b H3 hi ⟨o3, o4, o5, o6, o7, o8, o9, o10, o11, ws, rfl, b3, hL3, st3, wsl, bad⟩ ⟨rfl, ev⟩
        have ev' : y = V.int (i : Int) := ev.trans (by show V.int (0 + (i : Int)) = _; rw [Int.zero_add])
        clear ev
        subst ev'
        have hi' : i < (rowsOf t).length := by omega
        obtain ⟨r, hr'⟩ : ∃ r, (rowsOf t)[i]? = some r := ⟨_, List.getElem?_eq_getElem hi'⟩
        obtain ⟨r1000, rp⟩ := hw1 r (List.mem_of_getElem? hr')
        have hwi := aw i r hr'
        have s03 : Same H H3 := ButL.same s2 hL0 b3
        have hdrop : (allWords t).drop i = wordsOf r :: (allWords t).drop (i + 1) := by
          obtain ⟨lt, e⟩ := List.getElem?_eq_some_iff.mp hwi
          rw [List.drop_eq_getElem_cons lt, e]
        rw [hdrop, badWords_cons] at bad
        have hq3 := b3 _ _ hq2 nqL
        have tk : (allWords t).take (i + 1) = (allWords t).take i ++ [wordsOf r] := by rw [List.take_add_one, hwi]; rfl
        have hrow : ((rowsOf t).map V.str)[i]? = some (.str r) := by rw [List.getElem?_map, hr']; rfl
        have wz : ∀ z ∈ wordsOf r, z.length ≤ 1000 ∧ Plain z := fun z h => ⟨Nat.le_trans (sepB.le r z h) r1000, sepB.plain r rp z h⟩
        obtain ⟨pre, z, ew⟩ := last_of (l := wordsOf r) fun e => wordsOf_ne r (by rw [e]; rfl)
        refine ⟨_, rfl, _, rfl, q, _, _, .str r, rfl, rfl, SqL.of hq3, atI_nat hrow, ⟨r, rfl⟩, r, " ", rfl, rfl, by decide +kernel, Nat.le_trans (Nat.add_le_add_right r1000 2) (by decide), fun g hg => name_of ?_⟩
        have ew0 : Txt.split r " " = wordsOf r := rfl
        rw [ew0]
        have s4 : Same H3 (upd H3 g (.lst ((wordsOf r).map V.str))) := same_upd hg
        have eg : (upd H3 g (.lst ((wordsOf r).map V.str))) g = some (.lst ((wordsOf r).map V.str)) := upd_same
        generalize upd H3 g (.lst ((wordsOf r).map V.str)) = H4 at *
        have z1000 := (wz z (by rw [ew]; simp)).1
        have zp := (wz z (by rw [ew]; simp)).2
        have hlast : atI ((wordsOf r).map V.str) (-1) = some (.str z) := by
          rw [ew, List.map_append]
          exact atI_last _ _
        refine ⟨_, rfl, 1, rfl, g, _, _, .str z, rfl, rfl, SqL.of eg, hlast, ⟨z, rfl⟩, z, "-", rfl, rfl, by decide +kernel, Nat.le_trans (Nat.add_le_add_right z1000 2) (by decide), fun g2 hg2 => name_of ?_⟩
        have ez0 : Txt.split z "-" = ticksOf z := rfl
        rw [ez0]
        have s5 : Same H4 (upd H4 g2 (.lst ((ticksOf z).map V.str))) := same_upd hg2
        have eg2 : (upd H4 g2 (.lst ((ticksOf z).map V.str))) g2 = some (.lst ((ticksOf z).map V.str)) := upd_same
        generalize upd H4 g2 (.lst ((ticksOf z).map V.str)) = H5 at *
        have eg5 := s5 _ _ eg
        have tz : ∀ u ∈ ticksOf z, u.length ≤ 1000 ∧ Plain u := fun u h => ⟨Nat.le_trans (sepD.le z u h) z1000, sepD.plain z zp u h⟩
        have lw : ((wordsOf r).map V.str).length = (wordsOf r).length := List.length_map ..
        have lt : ((ticksOf z).map V.str).length = (ticksOf z).length := List.length_map ..
        have two : ∀ {l : List V} {m : List Str}, l.length = m.length → decide (V.int (l.length : Nat) = V.int 2) = decide (m.length = 2) := fun {l m} e => by
          rw [e]
          exact decide_eq_decide.mpr ⟨fun h => by have := V.int.inj h; omega, fun h => by rw [h]; rfl⟩
        refine asg_val (.bl (goodRow (wordsOf r) (ticksOf z))) (fun R h => ?_) fun H6 s6 => name_at ?_
        · refine ⟨_, rfl, g, _, rfl, .inl (SqL.of eg5), rfl, _, rfl, ?_⟩
          rw [two lw]
          by_cases c1 : (wordsOf r).length = 2
          · rw [decide_eq_true c1]
            refine iteT ⟨_, rfl, g2, _, rfl, .inl (SqL.of eg2), rfl, _, rfl, ?_⟩
            rw [two lt]
            by_cases c2 : (ticksOf z).length = 2
            · rw [decide_eq_true c2]
              obtain ⟨u, v, et⟩ := two_of c2
              obtain ⟨n, z', ewn⟩ := two_of c1
              rw [ewn, et] at h
              have hh : R (.bl (decide ((1 : Int) ≤ n.length) && decide ((n.length : Int) ≤ 8))) H5 := h _ (Same.refl _)
              refine iteT ⟨_, rfl, g, _, 0, .str n, rfl, rfl, SqL.of eg5, by rw [ewn]; exact atI_nat (j := 0) rfl, n, rfl, Nat.le_trans (wz n (by rw [ewn]; simp)).1 (by decide), _, _, rfl, rfl, _, rfl, ?_⟩
              refine ite2 (fun h1 => ?_) (fun h1 => ?_)
              · rw [h1, Bool.true_and] at hh
                exact ⟨_, _, rfl, rfl, hh⟩
              · rw [Bool.eq_false_iff.mpr h1, Bool.false_and] at hh
                exact hh
            · rw [decide_eq_false c2]
              rw [goodRow_2 c2] at h
              exact iteF (h _ (Same.refl _))
          · rw [decide_eq_false c1]
            rw [goodRow_1 c1] at h
            exact iteF (h _ (Same.refl _))
        · have s36 : Same H3 H6 := (s4.trans s5).trans s6
          have s06 := s03.trans s36
          cases c : goodRow (wordsOf r) (ticksOf z) with
          | false =>
            have no : okWords (wordsOf r) = false := by
              rw [ew] at c ⊢
              exact goodRow_no rfl c
            rw [no, if_neg Bool.false_ne_true] at bad
            refine ⟨_, rfl, _, rfl, iteT (iteT ⟨_, rfl, by show 2 ≤ sizeLine; decide, fun T hT => ?_⟩)⟩
            exact kBad i bad.symm _ T (s06.trans (same_upd hT)) upd_same
          | true =>
            obtain ⟨n, z', u, v, ewn, et, n1, n8⟩ := goodRow_yes c
            obtain rfl : z' = z := by
              rw [ewn] at ew
              have : [n] ++ [z'] = pre ++ [z] := ew
              exact (List.append_inj_right' this rfl) |> List.head_eq_of_cons_eq
            have w0 : atI ((wordsOf r).map V.str) 0 = some (.str n) := by rw [ewn]; exact atI_nat (j := 0) rfl
            have t0 : atI ((ticksOf z').map V.str) 0 = some (.str u) := by rw [et]; exact atI_nat (j := 0) rfl
            have t1 : atI ((ticksOf z').map V.str) 1 = some (.str v) := by rw [et]; exact atI_nat (j := 1) rfl
            obtain ⟨n1000, np⟩ := wz n (by rw [ewn]; simp)
            obtain ⟨u1000, up⟩ := tz u (by rw [et]; simp)
            obtain ⟨v1000, vp⟩ := tz v (by rw [et]; simp)
            have okw : okWords (wordsOf r) = (n.cps.toList.all (within 97 122) && (okNum u 10 && okNum v 10)) := by
              rw [ewn, okWords_two, et, okTicks_two]
              unfold okName
              rw [decide_eq_true n1, decide_eq_true n8, Bool.true_and, Bool.true_and]
              rfl
            rw [okw] at bad
            have eg6 := s6 _ _ eg5
            have eg26 := s6 _ _ eg2
            have say : ∀ H', Same H6 H' → (n.cps.toList.all (within 97 122) && (okNum u 10 && okNum v 10)) = false → ∀ T, H' T = none → Q (.ref T) (upd H' T (.tup [.str "text", .int (i : Nat)])) := fun H' s' e T hT => by
              rw [e, if_neg Bool.false_ne_true] at bad
              exact kBad i bad.symm _ T ((s06.trans s').trans (same_upd hT)) upd_same
            refine ⟨_, rfl, _, rfl, iteF ?_⟩
            refine lc_bad (a := 97) (b := 122) cps_a cps_z (z := n) (Nat.le_trans n1000 (by decide)) np (fun v => rfl) (fun v => rfl) (fun Q q => ⟨_, rfl, g, _, 0, .str n, rfl, rfl, SqL.of eg6, w0, q⟩) fun H7 s7 => ?_
            cases cl : n.cps.toList.all (within 97 122) with
            | false => exact iteT (iteT ⟨_, rfl, by show 2 ≤ sizeLine; decide, fun T hT => say _ s7 (by rw [cl, Bool.false_and]) T hT⟩)
            | true =>
              rw [cl, Bool.true_and] at bad say
              refine iteF ⟨_, rfl, g2, _, 0, .str u, rfl, rfl, SqL.of (s7 _ _ eg26), t0, u, rfl, Nat.le_trans u1000 (by decide), up, fun H8 s8 => ⟨_, rfl, ?_⟩⟩
              have s68 := s7.trans s8
              cases cu : okNum u 10 with
              | false => exact iteT ⟨_, rfl, by show 2 ≤ sizeLine; decide, fun T hT => say _ s68 (by rw [cu, Bool.false_and]) T hT⟩
              | true =>
                rw [cu, Bool.true_and] at bad say
                refine iteF (nx_of ⟨_, rfl, g2, _, 1, .str v, rfl, rfl, SqL.of (s68 _ _ eg26), t1, v, rfl, Nat.le_trans v1000 (by decide), vp, fun H9 s9 => ⟨_, rfl, ?_⟩⟩)
                have s69 := s68.trans s9
                cases cv : okNum v 10 with
                | false => exact iteT ⟨_, rfl, by show 2 ≤ sizeLine; decide, fun T hT => say _ s69 cv T hT⟩
                | true =>
                  rw [cv, if_pos rfl] at bad
                  have s39 := s36.trans s69
                  have hL9 := s39 _ _ hL3
                  have nu := okNum_len cu
                  have nv := okNum_len cv
                  refine iteF (nx_of ⟨_, rfl, .inl ⟨rfl, _, SqL.of hL9⟩, _, rfl, g, _, 0, .str n, rfl, rfl, SqL.of (s69 _ _ eg6), w0, _, rfl, g2, _, 0, .str u, rfl, rfl, SqL.of (s69 _ _ eg26), t0, u, valN u, rfl, okNum_int cu nu, nu, _, rfl, g2, _, 1, .str v, rfl, rfl, SqL.of (s69 _ _ eg26), t1, v, valN v, rfl, okNum_int cv nv, nv, by show 3 ≤ sizeLine; decide, fun p hp => ?_⟩)
                  have sp : Same H9 (upd H9 p (.tup [.str n, .int (valN u), .int (valN v)])) := same_upd hp
                  have ep : (upd H9 p (.tup [.str n, .int (valN u), .int (valN v)])) p = some (.tup [.str n, .int (valN u), .int (valN v)]) := upd_same
                  generalize upd H9 p (.tup [.str n, .int (valN u), .int (valN v)]) = HA at *
                  have hLA := sp _ _ hL9
                  have npL : p ≠ L := fun z => by rw [z, hLA] at ep; cases ep
                  refine ⟨L, ws, .ref p, rfl, rfl, hLA, by rw [wsl]; exact Nat.lt_of_lt_of_le hi' (Nat.le_trans (Nat.le_of_lt rl) (by decide)), ?_⟩
                  refine ⟨_, _, _, _, _, _, _, _, _, ws ++ [.ref p], rfl, (b3.trans (ButL.of (s39.trans sp))).trans ButL.upd, upd_same, ?_, by rw [List.length_append, wsl]; rfl, bad⟩
                  unfold saysAll
                  rw [tk, List.map_append]
                  refine pair_app (stays_updL hLA (st3.same (s39.trans sp))) (.cons ⟨p, rfl, ?_⟩ .nil)
                  rw [ewn, wordsSay_eq et, upd_ne npL]
                  exact ep
      · rintro σ H3 ⟨o3, o4, o5, o6, o7, o8, o9, o10, o11, ws, rfl, b3, hL3, st3, wsl, bad⟩
        have ln2 : ((((rowsOf t).map V.str).length : Nat) : Int).toNat = (allWords t).length := by
          rw [ln, rows_len]
          omega
        have ln3 : ((((rowsOf t).map V.str).length : Nat) : Int).toNat = (allWords t).length := ln2
        rw [ln3] at wsl bad st3
        rw [List.take_length] at st3
        rw [List.drop_length] at bad
        obtain ⟨kStay, kVal⟩ := kOk bad.symm
        have s03 : Same H H3 := ButL.same s2 hL0 b3
        have names_ok : ∀ x ∈ saysAll (allWords t), okName x.1 = true := fun x hx => by
          obtain ⟨wi, hwi, rfl⟩ := List.mem_map.mp hx
          obtain ⟨n, z, u, v, rfl, hn, ht, _⟩ := okWords_iff (badWords_take bad.symm wi hwi)
          rw [wordsSay_eq ht]
          exact hn
        have xl : (saysAll (allWords t)).length = ws.length := (pair_len st3).symm
        have w23 : ws.length ≤ 23 := by rw [wsl, rows_len]; exact hn
        generalize saysAll (allWords t) = xs at *
        refine ⟨_, rfl, L, ws, rfl, .inl (SqL.of hL3), _, rfl, by omega, by omega, for_it walk_range (fun i σ H4 => ∃ o3 o4 o5 o6 o7 o8 o9 o10 o11, σ = [some (.str t), some (.ref q), some (.ref L), o3, o4, o5, o6, o7, o8, o9, o10, o11] ∧ Same H3 H4 ∧ firstBadFrom i ((xs.take i).map fun x => x.1) (xs.drop i) = firstBad xs)
          ⟨_, _, _, _, _, _, _, _, _, rfl, Same.refl _, rfl⟩ (fun _ _ _ _ _ => trivial) ?_ ?_⟩
        · rintro i y σ H4b H4 hi ⟨o3, o4, o5, o6, o7, o8, o9, o10, o11, rfl, s4, hb⟩ ⟨rfl, ev⟩
          have ev' : y = V.int (i : Int) := ev.trans (by show V.int (0 + (i : Int)) = _; rw [Int.zero_add])
          clear ev
          subst ev'
          have hi' : i < ws.length := by omega
          obtain ⟨y, hy⟩ : ∃ y, ws[i]? = some y := ⟨_, List.getElem?_eq_getElem hi'⟩
          obtain ⟨x, hx, tt, rfl, ht⟩ := pair_get st3 hy
          have hxm := List.mem_of_getElem? hx
          have hL4 := s4 _ _ hL3
          refine ⟨_, rfl, _, rfl, L, ws, _, .ref tt, rfl, rfl, SqL.of hL4, atI_nat hy, ?_⟩
          refine ⟨tt, _, rfl, SqT.of (s4 _ _ ht), rfl, _, _, rfl, _, _, rfl, _, _, rfl, rfl, ?_⟩
          have hbad : (!timeGood x.2.1 x.2.2 || ((xs.take i).map fun x => x.1).any (fun y => y == x.1)) = badStay i ((xs.take i).map fun x => x.1) x := by
            unfold badStay
            rw [stay_time, names_ok x hxm, decide_eq_false (show ¬ ((i : Int) = 24) by omega)]
            cases timeGood x.2.1 x.2.2 <;> simp
          refine nx_of (ans_or (!timeGood x.2.1 x.2.2) (((xs.take i).map fun x => x.1).any (fun y => y == x.1)) (fun R h => ?_) (fun H5 s5 _ R h => ?_) fun H5 s5 => ?_)
          · refine ⟨_, rfl, _, _, rfl, rfl, _, rfl, ?_⟩
            refine ite2 (fun h1 => ?_) (fun h1 => ?_)
            · refine ⟨_, rfl, _, _, rfl, rfl, _, rfl, ?_⟩
              refine ite2 (fun h2 => ?_) (fun h2 => ?_)
              · refine ⟨_, _, rfl, rfl, ⟨by decide, by decide, by decide⟩, _, _, rfl, rfl, _, rfl, ?_⟩
                have e : timeGood x.2.1 x.2.2 = decide (x.2.2 ≤ 10 ^ (9 : Int).toNat) := by
                  unfold timeGood
                  rw [h1, h2]
                  rfl
                have := h _ (Same.refl _)
                rw [e] at this
                exact this
              · have e : timeGood x.2.1 x.2.2 = false := by
                  unfold timeGood
                  rw [Bool.eq_false_iff.mpr h2]
                  simp
                have := h _ (Same.refl _)
                rw [e] at this
                exact this
            · have e : timeGood x.2.1 x.2.2 = false := by
                unfold timeGood
                rw [Bool.eq_false_iff.mpr h1]
                simp
              have := h _ (Same.refl _)
              rw [e] at this
              exact this
          · have s35 := s4.trans s5
            refine ⟨_, rfl, _, rfl, _, rfl, _, rfl, L, ws, rfl, SqL.of (s35 _ _ hL3), fun p hp => ?_⟩
            have s6 : Same H5 (upd H5 p (.lst (cutV ws none (some (i : Int))))) := same_upd hp
            have hp6 : (upd H5 p (.lst (cutV ws none (some (i : Int))))) p = some (.lst (cutV ws none (some (i : Int)))) := upd_same
            have cut : cutV ws none (some (i : Int)) = ws.take i := by
              unfold cutV
              rw [HT.sIx_none, HT.sIx_nat, List.drop_zero, Nat.sub_zero, Nat.min_eq_left (Nat.le_of_lt hi')]
            rw [cut] at hp6 s6 ⊢
            generalize upd H5 p (.lst (ws.take i)) = H6 at *
            have s36 := s35.trans s6
            have lt : (ws.take i).length = i := by rw [List.length_take]; omega
            refine ⟨p, rfl, ⟨_, SqL.of hp6⟩, fun D hD => ?_⟩
            refine lc_map walk_list (fun j => ((xs.take i)[j]?).map fun y => V.str y.1) hD (Nat.le_trans (Nat.le_of_eq lt) (Nat.le_trans (Nat.le_of_lt (Nat.lt_of_lt_of_le hi' w23)) (by decide))) (fun H1 s1 => SqL.of (s1 _ _ hp6)) (fun j v H1 H' hj s1 yy R' k1 => ?_) (fun j hj => ?_) fun H1 s1 e1 => ?_
            · obtain ⟨rfl, e2⟩ := yy
              rw [lt] at hj
              rw [List.getElem?_take_of_lt hj] at e2
              obtain ⟨y, hy2, t', rfl, ht'⟩ := pair_get st3 e2
              refine ⟨rfl, _, rfl, t', _, 0, .str y.1, rfl, rfl, SqT.of (s1 _ _ (s36 _ _ ht')), atI_nat (j := 0) rfl, ?_⟩
              refine k1 _ _ (Same.refl _) ?_
              rw [List.getElem?_take_of_lt hj, hy2]
              rfl
            · rw [lt] at hj
              exact ⟨_, by rw [List.getElem?_take_of_lt hj, List.getElem?_eq_getElem (by omega)]; rfl⟩
            · have e3 := gather_map (xs.take i) fun y => V.str y.1
              have lt2 : (xs.take i).length = (ws.take i).length := by rw [List.length_take, List.length_take, xl]
              rw [lt2] at e3
              rw [e3] at e1
              have e : (xs.take i).map (fun y => V.str y.1) = ((xs.take i).map fun y => y.1).map V.str := by
                rw [List.map_map]
                rfl
              rw [e] at e1
              refine ⟨D, _, rfl, .inl (SqL.of e1), rfl, flat_strs _, _, rfl, ?_⟩
              rw [if_neg Bool.false_ne_true, inV_strs]
              exact h _ (s6.trans s1)
          · rw [hbad]
            have hdrop : xs.drop i = x :: xs.drop (i + 1) := by
              obtain ⟨lt, e⟩ := List.getElem?_eq_some_iff.mp hx
              rw [List.drop_eq_getElem_cons lt, e]
            rw [hdrop] at hb
            unfold firstBadFrom at hb
            have s05 := (s03.trans s4).trans s5
            by_cases hB : badStay i ((xs.take i).map fun x => x.1) x = true
            · rw [if_pos hB] at hb
              rw [hB]
              exact iteT ⟨_, rfl, by show 2 ≤ sizeLine; decide, fun T hT => kStay i hb.symm _ T (s05.trans (same_upd hT)) upd_same⟩
            · rw [if_neg hB] at hb
              rw [Bool.eq_false_iff.mpr hB]
              have take1 : xs.take (i + 1) = xs.take i ++ [x] := by rw [List.take_add_one, hx]; rfl
              refine iteF ⟨_, _, _, _, _, _, _, _, _, rfl, s4.trans s5, ?_⟩
              rw [take1, List.map_append]
              exact hb
        · rintro σ H4 ⟨o3, o4, o5, o6, o7, o8, o9, o10, o11, rfl, s4, hb⟩
          have ln4 : (((ws.length : Nat) : Int)).toNat = xs.length := by omega
          rw [ln4, List.drop_length] at hb
          refine ⟨_, rfl, L, ws, rfl, .inl ⟨SqL.of (s4 _ _ hL3), fun a ha => ⟨by show 2 ≤ sizeLine; decide, fun T hT => ?_⟩⟩⟩
          have s5 : Same H4 (upd H4 a (.tup ws)) := same_upd ha
          have ea : (upd H4 a (.tup ws)) a = some (.tup ws) := upd_same
          generalize upd H4 a (.tup ws) = H5 at *
          have s6 : Same H5 (upd H5 T (.tup [.str "value", .ref a])) := same_upd hT
          exact kVal hb.symm _ T a ws (((s03.trans s4).trans s5).trans s6) upd_same (s6 _ _ ea) (st3.same ((s4.trans s5).trans s6))
end
end Sh1
set_option Elab.async false
set_option linter.all false
set_option maxRecDepth 100000
set_option maxHeartbeats 2000000
/-! The state of the draws, through what changes beside it. -/
namespace Sh4
open PySem L2 Sho NdefX Shg Sh1
theorem NextSt.fresh {H : Hp} {l S p : Addr} (d : NextSt H l S) (h : H p = none) : p ≠ l ∧ p ≠ S := by
  obtain ⟨⟨m, q, cells, h1, h2, _⟩, _⟩ := d
  exact ⟨fun z => (by rw [z, h1] at h; cases h), fun z => (by rw [z, h2] at h; cases h)⟩
/-- an object that is no list is neither -/
theorem NextSt.other {H : Hp} {l S b : Addr} {o : HO} (d : NextSt H l S) (h : H b = some o) (n : ∀ ys, o ≠ .lst ys) : b ≠ l ∧ b ≠ S := by
  obtain ⟨⟨m, q, cells, h1, h2, _⟩, _⟩ := d
  exact ⟨fun z => (by rw [z, h1] at h; exact n _ (Option.some.inj h).symm), fun z => (by rw [z, h2] at h; exact n _ (Option.some.inj h).symm)⟩
theorem NextSt.keep {H H' : Hp} {l S : Addr} (d : NextSt H l S) (e : LamX.ExtN H H') : NextSt H' l S := by
  obtain ⟨⟨m, p, cells, h1, h2, h3⟩, n⟩ := d
  exact ⟨⟨m, p, cells, e _ _ h1 (fun _ z => nomatch z), e _ _ h2 (fun _ z => nomatch z), h3⟩, n⟩
theorem tabs_but2 {l S : Addr} {H H' : Hp} {T : List (Addr × Str)} (d : NextSt H l S) (e : But2 l S H H') (t : LamX.Tabs T H) : LamX.Tabs T H' := fun p hp => by
  obtain ⟨qs, q1, q2, q3⟩ := t p hp
  obtain ⟨n1, n2⟩ := d.other q1 fun ys z => nomatch z
  refine ⟨qs, e _ _ q1 n1 n2, q2, fun p' cv h => ?_⟩
  obtain ⟨c, e1, e2⟩ := q3 p' cv h
  obtain ⟨n3, n4⟩ := d.other e2 fun ys z => nomatch z
  exact ⟨c, e1, e _ _ e2 n3 n4⟩
theorem NextSt.upd {H : Hp} {l S p : Addr} {o : HO} (d : NextSt H l S) (n1 : p ≠ l) (n2 : p ≠ S) : NextSt (upd H p o) l S := by
  obtain ⟨⟨m, q, cells, h1, h2, h3⟩, n⟩ := d
  exact ⟨⟨m, q, cells, by rw [upd_ne (Ne.symm n1)]; exact h1, by rw [upd_ne (Ne.symm n2)]; exact h2, h3⟩, n⟩
end Sh4
set_option Elab.async false
set_option linter.all false
set_option maxRecDepth 100000
set_option maxHeartbeats 4000000
/-! _law_stays and _law_party of the laws with ten errors. -/
namespace Sh1
open PySem L2 Sho NdefX Shg Sh4
def names (xs : List Stay) : List Str := xs.map fun x => x.1
theorem StaysV.updL {H : Hp} {L : Addr} {zs : List V} {o : HO} (hL : H L = some (.lst zs)) : ∀ {ws : List V} {xs : List Stay}, StaysV H ws xs → StaysV (upd H L o) ws xs
  | _, _, .nil => .nil
  | _, _, .cons h t => by
    obtain ⟨p, e, hp⟩ := h
    refine .cons ⟨p, e, ?_⟩ (StaysV.updL hL t)
    rw [upd_ne fun z => by rw [z, hL] at hp; cases hp]
    exact hp
def eight : List Str := ["ann", "bob", "cid", "dee", "eva", "fay", "gus", "abcdefgh"]
theorem eight_len : eight.length = 8 := rfl
theorem eight_ok : ∀ z ∈ eight, okName z = true ∧ z.cps.all (· < 0x110000) = true ∧ z.length ≤ 8 := by
  have h : (eight.all fun z => okName z && (z.cps.all (· < 0x110000) && decide (z.length ≤ 8))) = true := by decide +kernel
  intro z hz
  have := List.all_eq_true.mp h z hz
  simp only [Bool.and_eq_true, decide_eq_true_eq] at this
  exact ⟨this.1, this.2.1, this.2.2⟩
theorem eight_nd : eight.Nodup := by decide +kernel
/-- stays as they are drawn -/
structure Drawn (last : Int) (xs : List Stay) : Prop where
  nm : names xs = eight.take xs.length
  tm : ∀ x ∈ xs, 0 ≤ x.2.1 ∧ x.2.1 < x.2.2 ∧ x.2.2 ≤ last
theorem names_len (xs : List Stay) : (names xs).length = xs.length := List.length_map ..
theorem stays_but2 {l S : Addr} {H H' : Hp} (d : NextSt H l S) (b : But2 l S H H') : ∀ {ws : List V} {xs : List Stay}, StaysV H ws xs → StaysV H' ws xs
  | _, _, .nil => .nil
  | _, _, .cons h t => by
    obtain ⟨p, e, hp⟩ := h
    obtain ⟨n1, n2⟩ := d.other hp fun ys z => nomatch z
    exact .cons ⟨p, e, b _ _ hp n1 n2⟩ (stays_but2 d b t)
theorem ins_par {C p : Addr} {H : Hp} {xs : List Stay} (h : PartyAt C H p xs) : InsAt H p C := by
  obtain ⟨dx, a, ws, h1, _⟩ := h
  exact ⟨dx, _, h1⟩
theorem eight_at {k : Nat} (h : k < 8) : ∃ z, eight[k]? = some z := ⟨_, List.getElem?_eq_getElem (by rw [eight_len]; exact h)⟩
section
variable {P : Program} {w : World} {K : PySem.W.Frag} {mg : Str → Option Value} {base : Heap}
abbrev NST : List Str := ["_law_h", "_law_most", "_law_last", "_law_found", "_law_k", "_law_come", "_law_name"]
def spStays (K : PySem.W.Frag) : Sp := fun vs H Q _ => ∃ (l S : Addr) (most last : Int), vs = [.ref l, .int most, .int last] ∧ NextSt H l S ∧ 0 ≤ most ∧ most ≤ 7 ∧ 0 < last ∧ last < 1073741824 ∧
  ∀ (t : Addr) (ws : List V) (xs : List Stay) (H' : Hp), But2 l S H H' → NextSt H' l S → H' t = some (.tup ws) → StaysV H' ws xs → (xs.length : Int) ≤ most → Drawn last xs → Q (.ref t) H'
theorem scStays : FnScope NST ["_law_h", "_law_most", "_law_last"] (defScope sLawStays) := ⟨rfl, rfl, rfl, by decide +kernel, rfl, by decide +kernel, by decide +kernel⟩
theorem ok_lawStays {f f2 : Addr} {fd fd2 : FuncData} (F : Fun K "_law_stays" "_law_stays" sLawStays f fd) (B : Shg.Blt mg)
    (G2 : FnOk P w K mg base CX0 1 f2 fd2 ["_law_h", "_law_limit"] spNext) (m2 : mg "_law_next" = some (.ref f2)) (k2 : PySem.W.keepIn K (.ref f2) = true) (b2 : Binds K fd2 ["_law_h", "_law_limit"] []) :
    FnOk P w K mg base CX0 2 f fd ["_law_h", "_law_most", "_law_last"] (spStays K) := by
  refine F.ok scStays (fun vs H Q E h => ?_) (fun cdv A outer s H vs Q E hr h => ?_)
  · obtain ⟨l, S, most, last, rfl, _⟩ := h
    rfl
  · obtain ⟨l, S, most, last, rfl, D0, m0, m7, l0, l1, k⟩ := h
    have nd := scStays.nd
    refine ⟨_, pss_cons (ps_set (i := 3) nd rfl (Or.inl rfl) (pe_lst pa_nil))
      (pss_cons (ps_for PassesOwn.never rfl (pi_range1 (by rfl) B.range (pa_cons (pe_call G2 (hr.mono (by decide)) rfl m2 k2 b2 .nil pass0 (pa_cons (pv 0) (pa_cons (pe_op op_add (pv 1) pe_int) pa_nil))) pa_nil)) (pg_name (i := 4) nd rfl (Or.inl rfl))
        (pss_cons (ps_set (i := 5) nd rfl (Or.inl rfl) (pe_call G2 (hr.mono (by decide)) rfl m2 k2 b2 .nil pass0 (pa_cons (pv 0) (pa_cons (pv 2) pa_nil))))
        (pss_cons (ps_set (i := 6) nd rfl (Or.inl rfl) (pe_ix ix_list (pe_lst (pa_cons pe_str (pa_cons pe_str (pa_cons pe_str (pa_cons pe_str (pa_cons pe_str (pa_cons pe_str (pa_cons pe_str (pa_cons pe_str pa_nil))))))))) (pv 4) (fun _ _ => rfl)))
        (pss_one (ps_expr (pe_bm PySem.F.plainAttrs_list PySem.F.slot_list_append PySem.F.type_list_append mt_append (pv 3) (pa_cons (pe_tup (pa_cons (pv 6) (pa_cons (pv 5) (pa_cons
          (pe_op op_add (pe_op op_add (pv 5) pe_int) (pe_call G2 (hr.mono (by decide)) rfl m2 k2 b2 .nil pass0 (pa_cons (pv 0) (pa_cons (pe_op op_sub (pv 2) (pv 5)) pa_nil)))) pa_nil)))) pa_nil)))))))
      (pss_one (ps_ret (pe_callTy call_tuple_of (by rfl) B.tuple (by decide +kernel) (pa_cons (pv 3) pa_nil))))), ?_⟩
    refine ⟨Nat.zero_le _, fun L hL => ?_⟩
    obtain ⟨nLl, nLS⟩ := D0.fresh hL
    have D1 := D0.same (same_upd (o := .lst []) hL)
    refine ⟨_, rfl, _, rfl, _, _, rfl, rfl, l, S, most + 1, rfl, D1, by omega, by omega, fun r H1 r0 r1 b1 d1 => ?_⟩
    have e1 : H1 L = some (.lst []) := b1 _ _ upd_same nLl nLS
    have B1 : But2 l S H H1 := (But2.of (same_upd hL)).trans b1
    refine ⟨r, rfl, by omega, by omega, for_it walk_range (fun i σ H2 => ∃ o4 o5 o6 ws xs, σ = [some (.ref l), some (.int most), some (.int last), some (.ref L), o4, o5, o6] ∧ But2 l S H H2 ∧ NextSt H2 l S ∧ H2 L = some (.lst ws) ∧ StaysV H2 ws xs ∧ xs.length = i ∧ Drawn last xs)
      ⟨none, none, none, [], [], rfl, B1, d1, e1, .nil, rfl, rfl, fun _ h => nomatch h⟩ (fun _ _ _ _ _ => trivial) ?_ ?_⟩
    · rintro i y σ H3 H2 hi ⟨o4, o5, o6, ws, xs, rfl, B2, d2, e2, st2, hxl, dr⟩ ⟨rfl, rfl⟩
      have hi7 : i < 7 := by omega
      refine ⟨_, rfl, _, rfl, l, S, last, rfl, d2, l0, l1, fun come H4 c0 c1 b4 d4 => ?_⟩
      have st4 := stays_but2 d2 b4 st2
      have e4 := b4 _ _ e2 nLl nLS
      refine ⟨by show 8 ≤ sizeLine; decide, fun N hN => ?_⟩
      obtain ⟨z, hz⟩ := eight_at (k := i) (by omega)
      have sN : Same H4 (upd H4 N (.lst (eight.map V.str))) := same_upd hN
      refine ⟨_, rfl, N, eight.map V.str, _, .str z, rfl, rfl, SqL.of upd_same, ?_, ?_⟩
      · rw [show (0 : Int) + (i : Nat) = (i : Nat) by omega]
        exact atI_nat (by rw [List.getElem?_map, hz]; rfl)
      have d5 := d4.same sN
      have st5 := st4.same sN
      have e5 := sN _ _ e4
      have B5 := (B2.trans b4).trans (But2.of sN)
      refine ⟨_, rfl, .inl ⟨rfl, _, SqL.of e5⟩, _, rfl, _, rfl, _, rfl, _, _, rfl, rfl, _, rfl, _, rfl, _, rfl, _, _, rfl, rfl, l, S, last - come, rfl, d5, by omega, by omega, fun g H6 g0 g1 b6 d6 => ?_⟩
      have st6 := stays_but2 d5 b6 st5
      have e6 := b6 _ _ e5 nLl nLS
      refine ⟨_, _, rfl, rfl, by show 3 ≤ sizeLine; decide, fun t ht => ?_⟩
      have s7 : Same H6 (upd H6 t (.tup [.str z, .int come, .int (come + 1 + g)])) := same_upd ht
      have e7 := s7 _ _ e6
      have nt : t ≠ L := fun q => by rw [q, e6] at ht; cases ht
      refine ⟨L, ws, .ref t, rfl, rfl, e7, ?_, ?_⟩
      · rw [pair_len st6, hxl]
        exact Nat.lt_trans hi7 (by decide)
      · refine ⟨_, _, _, ws ++ [.ref t], xs ++ [(z, come, come + 1 + g)], rfl, ?_, (d6.same s7).upd nLl nLS, upd_same, ?_, by rw [List.length_append, hxl]; rfl, ?_, ?_⟩
        · intro b o e n1 n2
          rw [upd_ne (ne_of_none e hL)]
          exact ((B5.trans b6).trans (But2.of s7)) b o e n1 n2
        · refine pair_app (StaysV.updL e7 (st6.same s7)) (.cons ⟨t, rfl, ?_⟩ .nil)
          rw [upd_ne nt]
          exact upd_same
        · have en : names (xs ++ [(z, come, come + 1 + g)]) = names xs ++ [z] := by
            unfold names
            rw [List.map_append]
            rfl
          rw [en, dr.nm, List.length_append, hxl, List.length_singleton, List.take_add_one, hz]
          rfl
        · intro x hx
          rcases List.mem_append.mp hx with hx | hx
          · exact dr.tm x hx
          · rw [List.mem_singleton] at hx
            rw [hx]
            show 0 ≤ come ∧ come < come + 1 + g ∧ come + 1 + g ≤ last
            omega
    · rintro σ H2 ⟨o4, o5, o6, ws, xs, rfl, B2, d2, e2, st2, hxl, dr⟩
      refine ⟨_, rfl, L, ws, rfl, .inl ⟨SqL.of e2, fun t ht => ?_⟩⟩
      have s3 : Same H2 (upd H2 t (.tup ws)) := same_upd ht
      exact k t ws xs _ (B2.trans (But2.of s3)) (d2.same s3) upd_same (st2.same s3) (by omega) dr
abbrev NPA : List Str := ["_law_stays_here", "_law_party_here", "_law_stay"]
def spPartyT (K : PySem.W.Frag) (C : Addr) : Sp := fun vs H Q _ => ∃ (a : Addr) (ws : List V) (xs : List Stay), vs = [.ref a] ∧ H a = some (.tup ws) ∧ StaysV H ws xs ∧ Short xs ∧ Valid xs ∧
  ∀ (p : Addr) (H' : Hp), Same H H' → H p = none → PartyAt C H' p xs → Q (.ref p) H'
theorem scPartyT : FnScope NPA ["_law_stays_here"] (defScope sLawParty) := ⟨rfl, rfl, rfl, by decide +kernel, rfl, by decide +kernel, by decide +kernel⟩
theorem ok_partyT {f C CI fI fA : Addr} {fd fdA : FuncData} (F : Fun K "_law_party" "_law_party" sLawParty f fd) (PC : PartyC K mg C) (M : Mk K C fI) (GI : FnR P w K mg base (L2.CX P w) 5 fI (spPNew C CI))
    (hc : PySem.W.selfFirst K C = true) (hA : PySem.W.findIn K (.ref C) "__add__" = some (some (.ref fA))) (iA : PySem.W.isFn K (.ref fA) = true)
    (GA : FnOk P w K mg base (L2.CX P w) 7 fA fdA ["self", "other"] (spPAdd C CI)) (bA : Binds K fdA ["self", "other"] []) :
    FnOk P w K mg base (L2.CX P w) 8 f fd ["_law_stays_here"] (spPartyT K C) := by
  refine F.okX scPartyT (fun vs H Q E h => ?_) (fun cdv A outer s H vs Q E hr h => ?_)
  · obtain ⟨a, ws, xs, rfl, _⟩ := h
    rfl
  · obtain ⟨a, ws, xs, rfl, ha, hxs, hsh, hv, k⟩ := h
    have nd := scPartyT.nd
    have pass : Passes (L2.CX P w) (cxOf (L2.CX P w) P w K mg base NPA "_law_party" (defScope sLawParty) f cdv A outer s H E) E := passes_call (takes_of rfl rfl rfl rfl) fun _ _ _ _ z => z
    refine ⟨_, pss_cons (ps_set (i := 1) nd rfl (Or.inl rfl) (pe_makeR0 M GI (hr.mono (by decide)) rfl PC.gm pass))
      (pss_cons (ps_for (passes_of rfl) rfl (pi_tup (pv 0)) (pg_name (i := 2) nd rfl (Or.inl rfl))
        (pss_one (ps_set (i := 1) nd rfl (Or.inl rfl) (pe_op (op_own2 (fnr_of GA bA) hr pass hc hA iA) (pv 1) (StX.pe_makeR M GI (hr.mono (by decide)) rfl PC.gm pass (pa_cons (pv 2) pa_nil))))))
      (pss_one (ps_ret (pv 1)))), ?_⟩
    have len := pair_len hxs
    refine asg_seq (new0 fun p H1 s1 hp P1 => ?_)
    refine ⟨_, rfl, a, rfl, ⟨_, SqT.of (s1 _ _ ha)⟩, for_it walk_tup (fun i σ H2 => ∃ q o2, σ = [some (.ref a), some (.ref q), o2] ∧ Same H H2 ∧ H q = none ∧ PartyAt C H2 q (xs.take i))
      ⟨p, none, rfl, s1, hp, P1⟩ (fun i σ H2 _ ⟨_, _, _, s2, _⟩ => SqT.of (s2 _ _ ha)) ?_ ?_⟩
    · rintro i y σ H2 H3 hi ⟨q, o2, rfl, s2, hq, P2⟩ ⟨rfl, e2⟩
      obtain ⟨x, hx, hy⟩ := pair_get hxs e2
      have hxm := List.mem_of_getElem? hx
      have take1 : xs.take (i + 1) = xs.take i ++ [x] := by rw [List.take_add_one, hx]; rfl
      have sh1 : Short [x] := fun z hz => by
        rw [List.mem_singleton] at hz
        rw [hz]
        exact hsh x hxm
      refine ⟨_, rfl, new1 rfl (hy.same s2) sh1 ⟨fun _ r H4 s4 hr4 P4 => ?_, fun i hi => ?_⟩⟩
      · refine ⟨q, r, rfl, rfl, ins_par (P2.same s4), ins_par P4, q, r, xs.take i, [x], rfl, P2.same s4, P4, hsh.take i, sh1, ?_, ?_, ?_⟩
        · have := hv.len
          rw [List.length_take]
          simp only [List.length_cons, List.length_nil]
          omega
        · intro _ z H5 s5 hz P5
          exact ⟨_, _, rfl, (s2.trans s4).trans s5, (s2.trans s4).free hz, by rw [take1]; exact P5⟩
        · intro j hj
          rw [← take1, valid_iff.mpr (hv.take _)] at hj
          cases hj
      · rw [valid_iff.mpr (Valid.one (hv.ok x hxm))] at hi
        cases hi
    · rintro σ H2 ⟨q, o2, rfl, s2, hq, P2⟩
      refine ⟨_, rfl, k q H2 s2 hq ?_⟩
      rw [len, List.take_length] at P2
      exact P2
end
end Sh1
set_option Elab.async false
set_option linter.all false
set_option maxRecDepth 100000
set_option maxHeartbeats 8000000
/-! _law_bent. -/
namespace Sh1
open PySem L2 Sho NdefX Shg Sh4
def lines (t : Str) : Nat := (TL.tl t).count 10
theorem rowsOf_le (t : Str) : (rowsOf t).length ≤ lines t + 1 := by
  unfold rowsOf
  by_cases c : t = ""
  · rw [if_pos c]
    simp
  · rw [if_neg c, sepN.len]
    exact Nat.le_refl _
def odds : List Str := ["", "0", "9", "-", " ", "\n", "a", "A", "00000000000"]
theorem odds_ok : ∀ z ∈ odds, z.length ≤ 11 ∧ lines z ≤ 1 ∧ Plain z := by
  have h : (odds.all fun z => decide (z.length ≤ 11) && (decide (lines z ≤ 1) && z.cps.toList.all fun c => decide (c < 0x110000))) = true := by decide +kernel
  intro z hz
  have := List.all_eq_true.mp h z hz
  simp only [Bool.and_eq_true, decide_eq_true_eq, List.all_eq_true] at this
  exact ⟨this.1, this.2.1, this.2.2⟩
theorem odds_len : odds.length = 9 := rfl
theorem tl_cut (z : Str) (lo hi : Option Int) : TL.tl (cutS z lo hi) = ((TL.tl z).drop (HT.sIx z.length 0 lo)).take (HT.sIx z.length z.length hi - HT.sIx z.length 0 lo) := rfl
theorem cut_take (z : Str) (a : Nat) : TL.tl (cutS z none (some (a : Int))) = (TL.tl z).take a := by
  rw [tl_cut, HT.sIx_none, HT.sIx_nat, List.drop_zero, Nat.sub_zero, TL.len_tl]
  rcases Nat.le_total a (TL.tl z).length with h | h
  · rw [Nat.min_eq_left h]
  · rw [Nat.min_eq_right h, List.take_of_length_le (Nat.le_refl _), List.take_of_length_le h]
theorem cut_drop (z : Str) (j : Nat) : TL.tl (cutS z (some (j : Int)) none) = (TL.tl z).drop j := by
  rw [tl_cut, HT.sIx_none, HT.sIx_nat, TL.len_tl]
  rw [List.take_of_length_le (by rw [List.length_drop]; exact Nat.le_refl _)]
  rcases Nat.le_total j (TL.tl z).length with h | h
  · rw [Nat.min_eq_left h]
  · rw [Nat.min_eq_right h, List.drop_length, List.drop_of_length_le h]
theorem bent_ok {t o : Str} {a j : Nat} (haj : a ≤ j) (ht : t.length ≤ 400) (hp : Plain t) (ho : o.length ≤ 11) (h1 : lines o ≤ 1) (hq : Plain o) :
    (cutS t none (some (a : Int)) ++ o ++ cutS t (some (j : Int)) none).length ≤ 1000 ∧ Plain (cutS t none (some (a : Int)) ++ o ++ cutS t (some (j : Int)) none) ∧ lines (cutS t none (some (a : Int)) ++ o ++ cutS t (some (j : Int)) none) ≤ lines t + 1 := by
  have e : TL.tl (cutS t none (some (a : Int)) ++ o ++ cutS t (some (j : Int)) none) = (TL.tl t).take a ++ TL.tl o ++ (TL.tl t).drop j := by
    rw [TL.tl_append, TL.tl_append, cut_take, cut_drop]
  have l1 := cutS_length t none (some (a : Int))
  have l2 := cutS_length t (some (j : Int)) none
  refine ⟨by rw [PySem.Str.length_append, PySem.Str.length_append]; omega, fun c hc => ?_, ?_⟩
  · have hc' : c ∈ (TL.tl t).take a ++ TL.tl o ++ (TL.tl t).drop j := by rw [← e]; exact hc
    rcases List.mem_append.mp hc' with h | h
    · rcases List.mem_append.mp h with h | h
      · exact hp c (List.mem_of_mem_take h)
      · exact hq c h
    · exact hp c (List.mem_of_mem_drop h)
  · unfold lines at *
    rw [e, List.count_append, List.count_append]
    have d : (TL.tl t).drop j = ((TL.tl t).drop a).drop (j - a) := by
      rw [List.drop_drop]
      congr 1
      omega
    have c1 : ((TL.tl t).drop j).count 10 ≤ ((TL.tl t).drop a).count 10 := by
      rw [d]
      exact (List.drop_sublist _ _).count_le _
    have c2 : (TL.tl t).count 10 = ((TL.tl t).take a).count 10 + ((TL.tl t).drop a).count 10 := by
      rw [← List.count_append, List.take_append_drop]
    omega
theorem joinL_sub (S : List Nat) : ∀ (ps : List (List Nat)), ∀ c ∈ TL.joinL S ps, c ∈ S ∨ ∃ p ∈ ps, c ∈ p
  | [], c, h => by cases h
  | [p], c, h => Or.inr ⟨p, by simp, h⟩
  | p :: q :: r, c, h => by
    have h' : c ∈ p ++ (S ++ TL.joinL S (q :: r)) := h
    rcases List.mem_append.mp h' with h | h
    · exact Or.inr ⟨p, by simp, h⟩
    · rcases List.mem_append.mp h with h | h
      · exact Or.inl h
      · rcases joinL_sub S (q :: r) c h with h | ⟨x, hx, h⟩
        · exact Or.inl h
        · exact Or.inr ⟨x, List.mem_cons_of_mem _ hx, h⟩
theorem join_plain {ps : List Str} (h : ∀ p ∈ ps, Plain p) : Plain (Txt.join "\n" ps) := fun c hc => by
  have hc' : c ∈ TL.tl (Txt.join "\n" ps) := hc
  rw [TL.join_eq, TL.tl_join, sepN.tl] at hc'
  rcases joinL_sub [10] _ c hc' with h1 | ⟨p, hp, h1⟩
  · rw [List.mem_singleton.mp h1]
    decide
  · obtain ⟨z, hz, rfl⟩ := List.mem_map.mp hp
    exact h z hz c h1
theorem join_ok {t : Str} (ht : t.length ≤ 400) (hp : Plain t) : (Txt.join "\n" (Txt.split t "\n" ++ (Txt.split t "\n").take 1)).length ≤ 1000 ∧ Plain (Txt.join "\n" (Txt.split t "\n" ++ (Txt.split t "\n").take 1)) ∧
    lines (Txt.join "\n" (Txt.split t "\n" ++ (Txt.split t "\n").take 1)) ≤ lines t + 1 ∧ ((Txt.split t "\n" ++ (Txt.split t "\n").take 1).map (fun p => p.length)).sum + (Txt.split t "\n" ++ (Txt.split t "\n").take 1).length * (Str.ofString "\n").length ≤ 16777216 := by
  have tot := sepN.total t
  have cnt := sepN.len t
  have free := sepN.free t
  have pl := sepN.plain t hp
  have le := sepN.le t
  generalize Txt.split t "\n" = parts at *
  have hn : (Str.ofString "\n").length = 1 := by decide +kernel
  have p1 : 1 ≤ parts.length := by omega
  have mem : ∀ {p}, p ∈ parts ++ parts.take 1 → p ∈ parts := fun h => (List.mem_append.mp h).elim id List.mem_of_mem_take
  have len : (parts ++ parts.take 1).length = parts.length + 1 := by
    rw [List.length_append, List.length_take]
    omega
  have sum1 : ((parts ++ parts.take 1).map fun p => p.length).sum ≤ (parts.map fun p => p.length).sum + 400 := by
    rw [List.map_append, List.sum_append]
    cases parts with
    | nil => simp at p1
    | cons x r =>
      have := le x (by simp)
      simp
      omega
  have sp := sepN.join (parts := parts ++ parts.take 1) (by intro e; rw [e] at len; simp at len) fun p h => free p (mem h)
  have tot2 := sepN.total (Txt.join "\n" (parts ++ parts.take 1))
  have cnt2 := sepN.len (Txt.join "\n" (parts ++ parts.take 1))
  rw [sp] at tot2 cnt2
  refine ⟨by omega, join_plain fun p h => pl p (mem h), ?_, ?_⟩
  · unfold lines
    omega
  · rw [hn]
    omega
section
variable {P : Program} {w : World} {K : PySem.W.Frag} {mg : Str → Option Value} {base : Heap}
abbrev NBE : List Str := ["_law_h", "_law_text", "_law_at", "_law_odd", "_law_lines"]
def spBent : Sp := fun vs H Q _ => ∃ (l S : Addr) (t : Str), vs = [.ref l, .str t] ∧ NextSt H l S ∧ t.length ≤ 400 ∧ Plain t ∧
  ∀ (z : Str) H', But2 l S H H' → NextSt H' l S → z.length ≤ 1000 → Plain z → lines z ≤ lines t + 1 → Q (.str z) H'
theorem scBent : FnScope NBE ["_law_h", "_law_text"] (defScope sLawBent) := ⟨rfl, rfl, rfl, by decide +kernel, rfl, by decide +kernel, by decide +kernel⟩
theorem ok_bent {f f2 : Addr} {fd fd2 : FuncData} (F : Fun K "_law_bent" "_law_bent" sLawBent f fd) (B : Shg.Blt mg)
    (G2 : FnOk P w K mg base CX0 1 f2 fd2 ["_law_h", "_law_limit"] spNext) (m2 : mg "_law_next" = some (.ref f2)) (k2 : PySem.W.keepIn K (.ref f2) = true) (b2 : Binds K fd2 ["_law_h", "_law_limit"] []) :
    FnOk P w K mg base CX0 2 f fd ["_law_h", "_law_text"] spBent := by
  refine F.ok scBent (fun vs H Q E h => ?_) (fun cdv A outer s H vs Q E hr h => ?_)
  · obtain ⟨l, S, t, rfl, _⟩ := h
    rfl
  · obtain ⟨l, S, t, rfl, D0, ht, hp, k⟩ := h
    have nd := scBent.nd
    refine ⟨_, (pss_cons (ps_par (i := 2) (j := 3) rfl nd rfl rfl (by decide) rfl rfl (pa_cons (pe_call G2 (hr.mono (by decide)) rfl m2 k2 b2 .nil pass0 (pa_cons (pv 0) (pa_cons (pe_op op_add (pe_callB call_len_str (by rfl) B.len PySem.boot_len (pa_cons (pv 1) pa_nil)) pe_int) pa_nil))) (pa_cons (pe_ix ix_list (pe_lst (pa_cons pe_str (pa_cons pe_str (pa_cons pe_str (pa_cons pe_str (pa_cons pe_str (pa_cons pe_str (pa_cons pe_str (pa_cons pe_str (pa_cons pe_str pa_nil)))))))))) (pe_call G2 (hr.mono (by decide)) rfl m2 k2 b2 .nil pass0 (pa_cons (pv 0) (pa_cons pe_int pa_nil))) (fun _ _ => rfl)) pa_nil)) (by rfl))
      (pss_cons (ps_if (pt_cmpR op_eq (pe_call G2 (hr.mono (by decide)) rfl m2 k2 b2 .nil pass0 (pa_cons (pv 0) (pa_cons pe_int pa_nil))) pe_int (nomark _)) (pss_cons (ps_set (i := 4) nd rfl (Or.inl rfl) (pe_split (pv 1) pe_str))
      (pss_one (ps_ret (pe_join pe_str (pe_op op_cat (pv 4) (pe_slice sl_list (pv 4) po_none (po_some pe_int))))))) pss_nil)
      (pss_one (ps_ret (pe_op op_add_str (pe_op op_add_str (pe_slice sl_str (pv 1) po_none (po_some (pv 2))) (pv 3)) (pe_slice sl_str (pv 1) (po_some (pe_op op_add (pv 2) (pe_call G2 (hr.mono (by decide)) rfl m2 k2 b2 .nil pass0 (pa_cons (pv 0) (pa_cons pe_int pa_nil))))) po_none)))))), ?_⟩
    have nl : (Str.ofString "\n").length = 1 := by decide +kernel
    refine par_rel (fun v H1 => ∃ at' : Nat, v = .int (at' : Int) ∧ But2 l S H H1 ∧ NextSt H1 l S) (fun R hR => ?_) ?_
    · refine ⟨_, rfl, _, rfl, t, rfl, Nat.le_trans ht (by decide), _, _, rfl, rfl, l, S, _, rfl, D0, by omega, by omega, fun r H1 r0 r1 b1 d1 => hR _ _ ⟨r.toNat, by rw [Int.toNat_of_nonneg r0], b1, d1⟩⟩
    · rintro v H1 ⟨a, rfl, b1, d1⟩
      refine ⟨by show 9 ≤ sizeLine; decide, fun N hN => ?_⟩
      obtain ⟨nNl, nNS⟩ := d1.fresh hN
      have s2 : Same H1 (upd H1 N (.lst (odds.map V.str))) := same_upd hN
      have hN2 : (upd H1 N (.lst (odds.map V.str))) N = some (.lst (odds.map V.str)) := upd_same
      have d2 := d1.same s2
      have b2' := b1.trans (But2.of s2)
      refine ⟨_, rfl, l, S, 9, rfl, d2, by decide, by decide, fun r H3 r0 r1 b3 d3 => ?_⟩
      obtain ⟨o, ho⟩ : ∃ o, odds[r.toNat]? = some o := ⟨_, List.getElem?_eq_getElem (by rw [odds_len]; omega)⟩
      obtain ⟨o1, o2, o3⟩ := odds_ok o (List.mem_of_getElem? ho)
      have hoV : (odds.map V.str)[r.toNat]? = some (.str o) := by rw [List.getElem?_map, ho]; rfl
      have hoI : atI (odds.map V.str) r = some (.str o) := by
        have := atI_nat hoV
        rwa [Int.toNat_of_nonneg r0] at this
      refine ⟨N, odds.map V.str, r, .str o, rfl, rfl, SqL.of (b3 _ _ hN2 nNl nNS), hoI, _, _, rfl, ?_⟩
      refine ⟨_, rfl, l, S, 4, rfl, d3, by decide, by decide, fun r4 H4 q0 q1 b4 d4 => ⟨rfl, _, rfl, ?_⟩⟩
      have b04 := (b2'.trans b3).trans b4
      by_cases c : r4 = 0
      · have e : decide (V.int r4 = V.int 0) = true := decide_eq_true (by rw [c])
        rw [e]
        obtain ⟨j1, j2, j3, j4⟩ := join_ok ht hp
        refine iteT ⟨_, rfl, ⟨t, rfl⟩, t, "\n", rfl, rfl, by decide +kernel, Nat.le_trans (Nat.add_le_add_right ht 2) (by decide), fun q hq => name_of ?_⟩
        have tot := sepN.total t
        have s5 : Same H4 (upd H4 q (.lst ((Txt.split t "\n").map V.str))) := same_upd hq
        have hq5 : (upd H4 q (.lst ((Txt.split t "\n").map V.str))) q = some (.lst ((Txt.split t "\n").map V.str)) := upd_same
        generalize upd H4 q (.lst ((Txt.split t "\n").map V.str)) = H5 at *
        have p1 : 1 ≤ (Txt.split t "\n").length := by
          have := sepN.len t
          omega
        generalize Txt.split t "\n" = parts at *
        refine ⟨⟨_, rfl⟩, _, rfl, _, rfl, _, rfl, q, _, rfl, SqL.of hq5, fun p hp' => ?_⟩
        have cut : cutV (parts.map V.str) none (some (1 : Int)) = (parts.take 1).map V.str := by
          unfold cutV
          rw [HT.sIx_none, show (1 : Int) = ((1 : Nat) : Int) from rfl, HT.sIx_nat, List.drop_zero, Nat.sub_zero, List.length_map, Nat.min_eq_left p1, List.map_take]
        rw [cut]
        have s6 : Same H5 (upd H5 p (.lst ((parts.take 1).map V.str))) := same_upd hp'
        have hp6 : (upd H5 p (.lst ((parts.take 1).map V.str))) p = some (.lst ((parts.take 1).map V.str)) := upd_same
        generalize upd H5 p (.lst ((parts.take 1).map V.str)) = H6 at *
        refine ⟨q, p, _, _, rfl, rfl, s6 _ _ hq5, hp6, ?_, fun g hg => ⟨"\n", g, parts ++ parts.take 1, rfl, rfl, .inl (SqL.of ?_), j4, ?_⟩⟩
        · rw [List.length_map, List.length_map, List.length_take]
          exact Nat.le_trans (show _ ≤ 500 by omega) (by decide)
        · rw [upd_same, List.map_append]
        · exact k _ _ (b04.trans (But2.of ((s5.trans s6).trans (same_upd hg)))) (d4.same ((s5.trans s6).trans (same_upd hg))) j1 j2 j3
      · have e : decide (V.int r4 = V.int 0) = false := decide_eq_false fun z => c (V.int.inj z)
        rw [e]
        refine iteF (nx_of ?_)
        refine ⟨_, rfl, _, rfl, _, rfl, t, rfl, Nat.le_trans ht (by decide), _, rfl, _, _, rfl, rfl, ?_, ?_⟩
        · have := cutS_length t none (some (a : Int))
          exact Nat.le_trans (show _ ≤ 500 by omega) (by decide)
        · refine ⟨_, rfl, _, rfl, _, rfl, l, S, 2, rfl, d4, by decide, by decide, fun r5 H5 p0 p1 b5 d5 => ?_⟩
          have ej : (a : Int) + r5 = ((a + r5.toNat : Nat) : Int) := by omega
          obtain ⟨z1, z2, z3⟩ := bent_ok (t := t) (o := o) (a := a) (j := a + r5.toNat) (by omega) ht hp o1 o2 o3
          refine ⟨_, _, rfl, rfl, _, rfl, t, rfl, Nat.le_trans ht (by decide), _, _, rfl, rfl, ?_, ?_⟩
          · rw [ej]
            rw [PySem.Str.length_append] at z1
            exact Nat.le_trans z1 (by decide)
          · rw [ej]
            exact k _ _ (b04.trans b5) d5 z1 z2 z3
end
end Sh1
set_option Elab.async false
set_option linter.all false
set_option maxRecDepth 100000
set_option maxHeartbeats 4000000
/-! Drawn stays; a party's text read again. -/
namespace Sh1
open PySem L2 Sho NdefX Shg Sh4
/-! ### drawn stays -/
section
variable {last : Int} {xs : List Stay}
theorem Drawn.nd (d : Drawn last xs) : (xs.map fun x => x.1).Nodup := by
  have : names xs = eight.take xs.length := d.nm
  show (names xs).Nodup
  rw [this]
  exact eight_nd.sublist (List.take_sublist ..)
theorem Drawn.name (d : Drawn last xs) {x : Stay} (hx : x ∈ xs) : okName x.1 = true ∧ x.1.cps.all (· < 0x110000) = true ∧ x.1.length ≤ 8 := by
  have hm : x.1 ∈ names xs := List.mem_map.mpr ⟨x, hx, rfl⟩
  rw [d.nm] at hm
  exact eight_ok _ (List.mem_of_mem_take hm)
theorem Drawn.ok (d : Drawn last xs) (hl : last ≤ 1000000000) {x : Stay} (hx : x ∈ xs) : okStay x.1 x.2.1 x.2.2 = true := by
  obtain ⟨e1, _, _⟩ := d.name hx
  have t := d.tm x hx
  rw [stay_time, e1]
  unfold timeGood
  simp
  omega
theorem Drawn.valid (d : Drawn last xs) (hl : last ≤ 1000000000) (h24 : xs.length ≤ 24) : Valid xs := ⟨h24, d.nd, fun x hx => d.ok hl hx⟩
theorem Drawn.short (d : Drawn last xs) : Short xs := fun x hx => ⟨Nat.le_trans (d.name hx).2.2 (by decide), (d.name hx).2.1⟩
theorem Drawn.tidy (d : Drawn last xs) (hl : last ≤ 1000000000) {x : Stay} (hx : x ∈ xs) : Tidy x := by
  have t := d.tm x hx
  exact ⟨(d.name hx).2.2, by omega, by omega, by omega, by omega⟩
end
/-! ### numbers as texts -/
theorem numL_head {n : Nat} : ∀ {k : Nat}, 1 ≤ n → n < 10 ^ k → (TL.numL n).head? ≠ some 48 := by
  induction n using Nat.strongRecOn with
  | _ n ih =>
    intro k h1 hk
    by_cases h : n < 10
    · rw [TL.numL_lt h]
      intro e
      have : 48 + n = 48 := Option.some.inj e
      omega
    · rw [TL.numL_step (by omega)]
      have e : ∃ c r, TL.numL (n / 10) = c :: r := by
        cases hq : TL.numL (n / 10) with
        | nil => exact absurd hq (TL.numL_ne _)
        | cons c r => exact ⟨c, r, rfl⟩
      obtain ⟨c, r, e⟩ := e
      have := ih (n / 10) (by omega) (k := k) (by omega) (by
        have : n / 10 ≤ n := Nat.div_le_self ..
        omega)
      rw [e] at this ⊢
      exact this
theorem numS_ok {i : Int} (h0 : 0 ≤ i) (h1 : i ≤ 1000000000) : okNum (numS i) 10 = true ∧ valN (numS i) = i := by
  have tl := numS_tl h0
  have len := numS_len h0 h1
  have ne := TL.numL_ne i.toNat
  have l1 : 1 ≤ (numS i).length := by
    rw [TL.len_tl, tl]
    exact List.length_pos_iff.mpr ne
  have dg : (numS i).cps.toList.all digit = true := by
    show (TL.tl (numS i)).all digit = true
    rw [tl, List.all_eq_true]
    intro c hc
    have := TL.numL_digits _ c hc
    unfold digit
    rw [decide_eq_false (by omega), decide_eq_false (by omega)]
    rfl
  refine ⟨?_, ?_⟩
  · unfold okNum fit
    rw [dg, decide_eq_true (by omega), decide_eq_true (by omega)]
    show (decide (numS i = "0") || !decide ((TL.tl (numS i)).head? = some 48)) = true
    by_cases z : i = 0
    · rw [z]
      decide +kernel
    · rw [tl, decide_eq_false (numL_head (n := i.toNat) (k := 10) (by omega) (by omega))]
      simp
  · unfold valN
    rw [tl, TL.numL_val]
    omega
/-! ### a row read again -/
theorem join_two (y a b : Str) : Txt.join y [a, b] = a ++ y ++ b := by
  rw [TL.join_eq]
  rfl
theorem plain_app {a b : Str} (ha : Plain a) (hb : Plain b) : Plain (a ++ b) := fun c hc => by
  have hc' : c ∈ TL.tl (a ++ b) := hc
  rw [TL.tl_append] at hc'
  exact (List.mem_append.mp hc').elim (ha c) (hb c)
theorem tl_rowText {x : Stay} (h0 : 0 ≤ x.2.1) (h1 : 0 ≤ x.2.2) : TL.tl (rowText x) = TL.tl x.1 ++ [32] ++ TL.numL x.2.1.toNat ++ [45] ++ TL.numL x.2.2.toNat := by
  unfold rowText
  rw [TL.tl_append, TL.tl_append, TL.tl_append, TL.tl_append, numS_tl h0, numS_tl h1, sepB.tl, sepD.tl]
theorem letters {z : Str} (h : okName z = true) : ∀ c ∈ TL.tl z, 97 ≤ c ∧ c ≤ 122 := fun c hc => by
  unfold okName at h
  simp only [Bool.and_eq_true, List.all_eq_true] at h
  have := h.2.2 c hc
  unfold letter at this
  simp only [Bool.and_eq_true, Bool.not_eq_true', decide_eq_false_iff_not] at this
  omega
theorem row_read {x : Stay} (hn : okName x.1 = true) (t : Tidy x) : wordsOf (rowText x) = [x.1, numS x.2.1 ++ "-" ++ numS x.2.2] ∧ ticksOf (numS x.2.1 ++ "-" ++ numS x.2.2) = [numS x.2.1, numS x.2.2] := by
  obtain ⟨t1, t2, t3, t4, t5⟩ := t
  have lt := letters hn
  have d1 := TL.numL_digits x.2.1.toNat
  have d2 := TL.numL_digits x.2.2.toNat
  have e1 := numS_tl t2
  have e2 := numS_tl t4
  refine ⟨?_, ?_⟩
  · have e : rowText x = Txt.join " " [x.1, numS x.2.1 ++ "-" ++ numS x.2.2] := by
      rw [join_two]
      unfold rowText
      simp only [PySem.Str.append_assoc]
    unfold wordsOf
    rw [e]
    refine sepB.join (by simp) fun p hp => ?_
    rcases List.mem_cons.mp hp with rfl | hp
    · intro h
      have := lt _ h
      omega
    · rw [List.mem_singleton.mp hp, TL.tl_append, TL.tl_append, e1, e2, sepD.tl]
      intro h
      rcases List.mem_append.mp h with h | h
      · rcases List.mem_append.mp h with h | h
        · have := d1 _ h
          omega
        · simp at h
      · have := d2 _ h
        omega
  · unfold ticksOf
    rw [← join_two]
    refine sepD.join (by simp) fun p hp => ?_
    rcases List.mem_cons.mp hp with rfl | hp
    · rw [e1]
      intro h
      have := d1 _ h
      omega
    · rw [List.mem_singleton.mp hp, e2]
      intro h
      have := d2 _ h
      omega
theorem row_plain {x : Stay} (hn : okName x.1 = true) (t : Tidy x) : Plain (rowText x) ∧ (10 : Nat) ∉ TL.tl (rowText x) := by
  have lt := letters hn
  have d1 := TL.numL_digits x.2.1.toNat
  have d2 := TL.numL_digits x.2.2.toNat
  have all : ∀ c ∈ TL.tl (rowText x), 10 < c ∧ c < 128 := by
    rw [tl_rowText t.2.1 t.2.2.2.1]
    intro c h
    simp only [List.mem_append, List.mem_singleton] at h
    rcases h with (((h | h) | h) | h) | h
    · have := lt _ h
      omega
    · omega
    · have := d1 _ h
      omega
    · omega
    · have := d2 _ h
      omega
  refine ⟨fun c hc => ?_, fun h => ?_⟩
  · have := all c hc
    omega
  · have := all 10 h
    omega
/-! ### the text read again -/
theorem text_rows {xs : List Stay} (h : ∀ x ∈ xs, okName x.1 = true ∧ Tidy x) : rowsOf (textOf xs) = xs.map rowText := by
  unfold rowsOf
  cases xs with
  | nil =>
    rw [if_pos (by decide +kernel)]
    rfl
  | cons x r =>
    have sp := sepN.join (parts := (x :: r).map rowText) (by simp) fun p hp => by
      obtain ⟨y, hy, rfl⟩ := List.mem_map.mp hp
      exact (row_plain (h y hy).1 (h y hy).2).2
    have sp' : Txt.split (textOf (x :: r)) "\n" = (x :: r).map rowText := sp
    by_cases c : textOf (x :: r) = ""
    · exfalso
      have tot := sepN.total (textOf (x :: r))
      rw [sp', c] at tot
      have e0 : (Str.ofString "").length = 0 := by decide +kernel
      rw [e0] at tot
      rw [List.map_cons, List.map_cons, List.sum_cons, List.length_cons] at tot
      have : 1 ≤ (rowText x).length := by
        rw [TL.len_tl, tl_rowText (h x (by simp)).2.2.1 (h x (by simp)).2.2.2.2.1]
        simp
        omega
      omega
    · rw [if_neg c]
      exact sp'
theorem text_words {xs : List Stay} (h : ∀ x ∈ xs, okName x.1 = true ∧ Tidy x) : badWordsFrom 0 (allWords (textOf xs)) = none ∧ saysAll (allWords (textOf xs)) = xs := by
  unfold allWords
  rw [text_rows h]
  have one : ∀ x ∈ xs, okWords (wordsOf (rowText x)) = true ∧ wordsSay (wordsOf (rowText x)) = x := fun x hx => by
    obtain ⟨hn, t⟩ := h x hx
    obtain ⟨e1, e2⟩ := row_read hn t
    obtain ⟨t1, t2, t3, t4, t5⟩ := t
    obtain ⟨a1, a2⟩ := numS_ok t2 t3
    obtain ⟨b1, b2⟩ := numS_ok t4 t5
    rw [e1, okWords_two, e2, okTicks_two, hn, a1, b1, wordsSay_eq e2, a2, b2]
    exact ⟨rfl, rfl⟩
  refine ⟨?_, ?_⟩
  · have : ∀ (l : List Stay) (i : Nat), (∀ x ∈ l, okWords (wordsOf (rowText x)) = true) → badWordsFrom i ((l.map rowText).map wordsOf) = none := by
      intro l
      induction l with
      | nil => intro i _; rfl
      | cons x l ih =>
        intro i hl
        rw [List.map_cons, List.map_cons, badWords_cons, if_pos (hl x (by simp))]
        exact ih _ fun y hy => hl y (List.mem_cons_of_mem _ hy)
    exact this xs 0 fun x hx => (one x hx).1
  · unfold saysAll
    rw [List.map_map, List.map_map]
    have : ∀ l : List Stay, (∀ x ∈ l, wordsSay (wordsOf (rowText x)) = x) → l.map (wordsSay ∘ wordsOf ∘ rowText) = l := by
      intro l
      induction l with
      | nil => intro _; rfl
      | cons x l ih =>
        intro hl
        rw [List.map_cons, ih fun y hy => hl y (List.mem_cons_of_mem _ hy)]
        show wordsSay (wordsOf (rowText x)) :: l = _
        rw [hl x (by simp)]
    exact this xs fun x hx => (one x hx).2
theorem text_size {xs : List Stay} (h : ∀ x ∈ xs, okName x.1 = true ∧ Tidy x) (h6 : xs.length ≤ 6) : (textOf xs).length ≤ 400 ∧ Plain (textOf xs) ∧ lines (textOf xs) ≤ 6 := by
  have pl : Plain (textOf xs) := join_plain fun p hp => by
    obtain ⟨y, hy, rfl⟩ := List.mem_map.mp hp
    exact (row_plain (h y hy).1 (h y hy).2).1
  cases xs with
  | nil => exact ⟨by decide +kernel, pl, by decide +kernel⟩
  | cons x r =>
    have sp' : Txt.split (textOf (x :: r)) "\n" = (x :: r).map rowText := sepN.join (parts := (x :: r).map rowText) (by simp) fun p hp => by
      obtain ⟨y, hy, rfl⟩ := List.mem_map.mp hp
      exact (row_plain (h y hy).1 (h y hy).2).2
    have tot := sepN.total (textOf (x :: r))
    have cnt := sepN.len (textOf (x :: r))
    rw [sp'] at tot cnt
    rw [List.map_map, List.length_map] at tot
    rw [List.length_map] at cnt
    have sm := sum_le ((fun p : Str => p.length) ∘ rowText) 30 (x :: r) fun y hy => rowText_len (h y hy).2
    refine ⟨by omega, pl, ?_⟩
    unfold lines
    omega
end Sh1
set_option Elab.async false
set_option linter.all false
set_option maxRecDepth 100000
set_option maxHeartbeats 2000000
/-! a != b of an own class with its own __eq__ alone. -/
namespace Sho
open PySem PySem.Spec PyProof.Rows L2 StX PySem.W
section
variable {prog : Program} {w : World} {A : Around} {E : Value → Shared → Prop} {s : Shared} {K : Frag} {x y C f : Addr} {ox oy : Obj} {od od' : Option Obj}
theorem ifBound_blt {M : Model} {id : String} {name : Str} {args : List Value} {Q : Option Value → Shared → Prop} (X : K.In s.heap) (I : InstAt s.heap x ox C od) (hs : findIn K (.ref C) name = some (some (.builtin id)))
    (hb : ∀ self, bindSpecial (.builtin id) self = pure (.builtin id, [self])) (h : wpAny M A (call (.builtin id) (.ref x :: args)) (fun v => Q (some v)) E s) : wpAny M A (callSpecialIfBound? (.ref x) name args) Q E s := by
  simp only [callSpecialIfBound?, bindSpecialIfBound?]
  refine wpAny_holding (wpAny_bind (wpAny_bind (wpAny_bind (I.type.here ((looks_findIn X hs).here ?_)))))
  refine wpAny_bind (wpAny_askSetting (wpAny_ite ?_))
  have fin : wpAny M A (call (.builtin id) ([.ref x] ++ args) >>= fun v => pure (some v)) Q E s := wpAny_bind (wpAny_mono h (fun v s' h' => wpAny_pure h') fun _ _ h' => h')
  split
  · exact wpAny_bind ((Looks.of_pure (hb _)).here (wpAny_pure (by exact fin)))
  · exact wpAny_tryCatch (wpAny_bind ((Looks.of_pure (hb _)).here (wpAny_pure (by exact fin))))
open Builtin in
theorem ne_call {b : Value} {Q : Value → Shared → Prop} (hu : A.in1.units < cLine) (X : K.In s.heap) (I : InstAt s.heap x ox C od) (hm : mroIn K C (.type "object") = some true) (he : findIn K (.ref C) "__eq__" = some (some (.ref f))) (hf : isFn K (.ref f) = true)
    (h : wpAny (model prog w) A.in1 (call (.ref f) [.ref x, b]) (fun v s' => ∃ c, v = .bool c ∧ Q (.bool (!c)) s') E s) : wpAny (model prog w) A (call (.builtin "object.__ne__") [.ref x, b]) Q E s := by
  refine wpAny_call (codeAny_call_builtin PySem.F.cmp_object.ne.plain PySem.F.cmpEntry_ne (check_slot (i := "object.__ne__") (owner := "object") (n := "__ne__") PySem.F.cmpKind_ne PySem.F.cmpSplit_ne (I.type.andThen (looks_mroIn X hm)) (PySem.F.cmpArgs_ne _ _) ?_))
  unfold Builtin.«object.__ne__»
  refine wpAny_bind (m := slotArgs "__ne__" 1 _) (wpAny_pure ?_)
  refine wpAny_bind (m := cRoomFor _ _) (wpAny_cRoomFor hu ?_)
  refine wpAny_bind (m := callSpecialIfBound? (.ref x) (Str.ofString "__eq__") _) (ifBound_K X I he hf (wpAny_mono h (fun r s' hq => ?_) fun _ _ y => y))
  obtain ⟨c, rfl, q⟩ := hq
  exact wpAny_bind (m := truthy (.bool c)) (wpAny_truthy_bool (wpAny_pure q))
theorem ne_rich {Q : Value → Shared → Prop} (hu : A.in1.units < cLine) (X : K.In s.heap) (I : InstAt s.heap x ox C od) (J : InstAt s.heap y oy C od') (hm : mroIn K C (.type "object") = some true) (hn : findIn K (.ref C) "__ne__" = some (some (.builtin "object.__ne__"))) (he : findIn K (.ref C) "__eq__" = some (some (.ref f))) (hf : isFn K (.ref f) = true)
    (h : wpAny (model prog w) A.in1 (call (.ref f) [.ref x, .ref y]) (fun v s' => ∃ c, v = .bool c ∧ Q (.bool (!c)) s') E s) : wpAny (model prog w) A (richCompare .NotEq (.ref x) (.ref y)) Q E s := by
  have hu0 : A.units < cLine := Nat.lt_of_succ_lt hu
  have one : wpAny (model prog w) A (tryCompare (.ref x) (cmpInfo .NotEq).2.1 (.ref y)) (fun r s' => ∃ v, r = some v ∧ Q v s') E s := by
    unfold tryCompare
    refine wpAny_bind (ifBound_blt X I hn PySem.F.cmp_object.ne.bind (ne_call hu X I hm he hf (wpAny_mono h (fun v s' hv => ?_) fun _ _ e => e)))
    obtain ⟨c, rfl, q⟩ := hv
    exact ⟨c, rfl, wpAny_pure ⟨_, rfl, q⟩⟩
  unfold richCompare
  simp only [oneThing_ref]
  refine wpAny_holding (wpAny_bind (wpAny_cRoomFor hu0 ?_))
  refine wpAny_bind (I.type.here (wpAny_bind (J.type.here ?_)))
  rw [show (Value.ref C != Value.ref C) = false from by simp]
  simp only [Bool.false_eq_true, if_false]
  refine wpAny_bind (wpAny_pure ?_)
  simp only [Bool.false_eq_true, if_false]
  refine wpAny_bind (wpAny_mono one (fun r s' z => ?_) fun _ _ e => e)
  obtain ⟨v, rfl, hq⟩ := z
  exact wpAny_pure hq
end
section
variable {X : Cx} {CX : CXT} {k : Nat} {f C : Addr} {sp : Sp} {E : XK}
def rOwnNe (C : Addr) (sp : Sp) (E : XK) : R2 := fun x y H Q => ∃ a b, x = .ref a ∧ y = .ref b ∧ InsAt H a C ∧ InsAt H b C ∧ sp [.ref a, .ref b] H (fun r H' => ∃ b : Bool, r = .bl b ∧ Q (.bl (!b)) H') E
theorem op_ownNe (F : FnR X.prog X.w X.K X.mg X.base CX k f sp) (hr : Room (k + 1) X.A) (hx : Passes CX X E) (hm : mroIn X.K C (.type "object") = some true) (hn : findIn X.K (.ref C) "__ne__" = some (some (.builtin "object.__ne__")))
    (hs : findIn X.K (.ref C) "__eq__" = some (some (.ref f))) (hf : isFn X.K (.ref f) = true) : OpR X (compareOp .NotEq) (rOwnNe C sp E) := by
  rintro pins s σ H x y u v Q I rx ry ⟨a, b, rfl, rfl, ha, hb, h⟩
  cases rx
  cases ry
  obtain ⟨ox, od, J⟩ := inst_of I ha
  obtain ⟨oy, od', J'⟩ := inst_of I hb
  obtain ⟨m, hF⟩ := I.fr
  show wpAny (model X.prog X.w) X.A (richCompare .NotEq (.ref a) (.ref b)) (EP X pins σ Q) X.xe s
  have run := run_at (vs := [.ref a, .ref b]) F hr.in1 I.env0.in1 hx I (.cons rfl (.cons rfl .nil)) h
  refine ne_rich hr.in1.units0 (I.ok.mod.kin.keeps hF.keep) J J' hm hn hs hf (thn run fun u s' q => ?_)
  obtain ⟨w2, H', I', rv, b, rfl, q⟩ := q
  cases rv
  exact ⟨b, rfl, .bl (!b), H', I', rfl, q⟩
end
end Sho
set_option Elab.async false
set_option linter.all false
set_option maxRecDepth 100000
set_option maxHeartbeats 16000000
/-! The law of texts and charts. -/
namespace Sh1
open PySem L2 Sho NdefX Shg Sh4
abbrev qLam : Str := "law.<locals>.<lambda>"
abbrev NL46 : List Str := ["_law_script", "_law_h", "_law_turn", "_law_stays_here", "_law_party_here", "_law_rows", "_law_name", "_law_come", "_law_go", "_law_text", "_law_change", "_law_last", "_law_signs", "_law_lifted", "_law_head", "_law_due_here", "_law_bent_here", "_law_shown", "_law_one"]
abbrev clF (x : Str) (sc : Scope) (n : Nat) : List (Str × Addr) := cloFrom (cellsFrom (n + 1) sc.names []) [(x, .free)] []
/-- what a text must lead to -/
inductive Due where
  | text (i : Nat)
  | stay (i : Nat)
  | value (xs : List Stay)
def dueOf (t : Str) : Due := match badWordsFrom 0 (allWords t) with
  | some i => .text i
  | none => match firstBad (saysAll (allWords t)) with
    | some i => .stay i
    | none => .value (saysAll (allWords t))
def Told (H : Hp) (p : Addr) : Due → Prop
  | .text i => H p = some (.tup [.str "text", .int (i : Nat)])
  | .stay i => H p = some (.tup [.str "stay", .int (i : Nat)])
  | .value xs => ∃ t ws, H p = some (.tup [.str "value", .ref t]) ∧ H t = some (.tup ws) ∧ StaysV H ws xs
/-- what the first lambda asks and gives -/
def spLam1 (CI CT : Addr) : SpL := fun ws H Q E => ∃ z : Str, ws = [some (.str z)] ∧ z.length ≤ 1000 ∧
  (∀ i, dueOf z = .text i → ∀ (H' : Hp) (d : Addr), Same H H' → H' d = some (.xd [(("row" : Str), .int (i : Nat))]) → E (.ref CT) (some d) H') ∧
  (∀ i, dueOf z = .stay i → ∀ (H' : Hp) (d : Addr), Same H H' → H' d = some (.xd [(("index" : Str), .int (i : Nat))]) → E (.ref CI) (some d) H') ∧
  ∀ xs, dueOf z = .value xs → ∀ (H' : Hp) (t : Addr) (vs : List V), Same H H' → H' t = some (.tup vs) → StaysV H' vs xs → Q (.ref t) H'
def spLam2 (CW : Addr) (T : List (Addr × Str)) : SpL := fun ws H Q E => ∃ (a : Addr) (vs : List V) (xs : List Stay), ws = [some (.ref a)] ∧ H a = some (.tup vs) ∧ StaysV H vs xs ∧ Short xs ∧ Valid xs ∧ (∀ x ∈ xs, Tidy x ∧ x.2.1 < x.2.2) ∧ xs.length ≤ 6 ∧ LamX.Tabs T H ∧
  (topOf xs ≤ 99 → ∀ H', Grows T H H' → Q (.str (chartText xs)) H') ∧ (99 < topOf xs → ∀ H', Same H H' → E (.ref CW) none H')
theorem Told.same {H H' : Hp} {p : Addr} {r : Due} (h : Told H p r) (s : Same H H') : Told H' p r := by
  cases r with
  | text i => exact s _ _ h
  | stay i => exact s _ _ h
  | value xs =>
    obtain ⟨t, ws, h1, h2, h3⟩ := h
    exact ⟨t, ws, s _ _ h1, s _ _ h2, h3.same s⟩
theorem alike_stays {H : Hp} : ∀ {ws vs : List V} {xs : List Stay}, StaysV H ws xs → StaysV H vs xs → PySem.Paired (fun u v => Alike H 1 u v) ws vs
  | _, _, _, .nil, .nil => .nil
  | _, _, _, .cons h t, .cons k r => by
    obtain ⟨a, rfl, ha⟩ := h
    obtain ⟨b, rfl, hb⟩ := k
    exact .cons (.inr ⟨a, b, _, _, rfl, rfl, .inr ⟨ha, hb⟩, by show 3 ≤ 1000; decide, .cons ⟨trivial, rfl⟩ (.cons ⟨trivial, rfl⟩ (.cons ⟨trivial, rfl⟩ .nil))⟩) (alike_stays t r)
theorem alike_two {H : Hp} {p q : Addr} {u v : V} (hu : LeafV u) (hv : LeafV v) (h : H p = some (.tup [u, v])) (k : H q = some (.tup [u, v])) : Alike H 3 (.ref p) (.ref q) :=
  .inr ⟨p, q, _, _, rfl, rfl, .inr ⟨h, k⟩, by show 2 ≤ 1000; decide, .cons (.inl ⟨hu, rfl⟩) (.cons (.inl ⟨hv, rfl⟩) .nil)⟩
/-- two results that tell the same -/
theorem alike_told {H : Hp} {p q : Addr} {r : Due} (hl : ∀ xs, r = .value xs → xs.length ≤ 1000) (h : Told H p r) (k : Told H q r) : Alike H 3 (.ref p) (.ref q) := by
  cases r with
  | text i => exact alike_two (u := .str "text") (v := .int (i : Nat)) trivial trivial h k
  | stay i => exact alike_two (u := .str "stay") (v := .int (i : Nat)) trivial trivial h k
  | value xs =>
    obtain ⟨t, ws, h1, h2, h3⟩ := h
    obtain ⟨u, vs, k1, k2, k3⟩ := k
    exact .inr ⟨p, q, _, _, rfl, rfl, .inr ⟨h1, k1⟩, by show 2 ≤ 1000; decide, .cons (.inl ⟨trivial, rfl⟩) (.cons (.inr ⟨t, u, ws, vs, rfl, rfl, .inr ⟨h2, k2⟩, by rw [pair_len h3]; exact hl xs rfl, alike_stays h3 k3⟩) .nil)⟩
theorem due_small {z : Str} {xs : List Stay} (hz : (rowsOf z).length ≤ 23) (h : dueOf z = .value xs) : xs.length ≤ 1000 := by
  unfold dueOf at h
  have : (saysAll (allWords z)).length ≤ 1000 := by
    unfold saysAll
    rw [List.length_map, rows_len]
    omega
  cases e : badWordsFrom 0 (allWords z) with
  | some i => rw [e] at h; cases h
  | none =>
    rw [e] at h
    cases e2 : firstBad (saysAll (allWords z)) with
    | some i => simp only at h; rw [e2] at h; cases h
    | none =>
      simp only at h
      rw [e2] at h
      cases h
      exact this
theorem due_text {z : Str} {i : Nat} (h : dueOf z = .text i) : badWordsFrom 0 (allWords z) = some i := by
  unfold dueOf at h
  cases e : badWordsFrom 0 (allWords z) with
  | some j => rw [e] at h; cases h; rfl
  | none =>
    rw [e] at h
    cases e2 : firstBad (saysAll (allWords z)) with
    | some j => simp only at h; rw [e2] at h; cases h
    | none => simp only at h; rw [e2] at h; cases h
theorem due_stay {z : Str} {i : Nat} (h : dueOf z = .stay i) : badWordsFrom 0 (allWords z) = none ∧ firstBad (saysAll (allWords z)) = some i := by
  unfold dueOf at h
  cases e : badWordsFrom 0 (allWords z) with
  | some j => rw [e] at h; cases h
  | none =>
    rw [e] at h
    cases e2 : firstBad (saysAll (allWords z)) with
    | some j => simp only at h; rw [e2] at h; cases h; exact ⟨rfl, rfl⟩
    | none => simp only at h; rw [e2] at h; cases h
theorem due_value {z : Str} {xs : List Stay} (h : dueOf z = .value xs) : badWordsFrom 0 (allWords z) = none ∧ firstBad (saysAll (allWords z)) = none ∧ saysAll (allWords z) = xs := by
  unfold dueOf at h
  cases e : badWordsFrom 0 (allWords z) with
  | some j => rw [e] at h; cases h
  | none =>
    rw [e] at h
    cases e2 : firstBad (saysAll (allWords z)) with
    | some j => simp only at h; rw [e2] at h; cases h
    | none => simp only at h; rw [e2] at h; cases h; exact ⟨rfl, rfl, rfl⟩
theorem tabs_updL {T : List (Addr × Str)} {H : Hp} {D : Addr} {zs zs' : List V} (e : H D = some (.lst zs)) (h : LamX.Tabs T H) : LamX.Tabs T (L2.upd H D (.lst zs')) := fun t hq => by
  obtain ⟨qs, q1, q2, q3⟩ := h t hq
  refine ⟨qs, by rw [upd_ne (ne_atL e q1 fun z => nomatch z)]; exact q1, q2, fun p' cv h => ?_⟩
  obtain ⟨c, e1, e2⟩ := q3 p' cv h
  exact ⟨c, e1, by rw [upd_ne (ne_atL e e2 fun z => nomatch z)]; exact e2⟩
theorem stays_butL {L : Addr} {H H' : Hp} {zs : List V} (hL : H L = some (.lst zs)) (b : ButL L H H') : ∀ {ws : List V} {xs : List Stay}, StaysV H ws xs → StaysV H' ws xs
  | _, _, .nil => .nil
  | _, _, .cons h t => by
    obtain ⟨p, e, hp⟩ := h
    exact .cons ⟨p, e, b _ _ hp fun z => by rw [z, hL] at hp; cases hp⟩ (stays_butL hL b t)
theorem ints_pick (zs : List Int) {r : Int} (h0 : 0 ≤ r) (h1 : r < zs.length) : ∃ z, z ∈ zs ∧ atI (zs.map V.int) r = some (.int z) := by
  obtain ⟨k, rfl⟩ : ∃ k : Nat, r = (k : Int) := ⟨r.toNat, by omega⟩
  have hk : k < zs.length := by omega
  exact ⟨zs[k], List.getElem_mem hk, atI_nat (by rw [List.getElem?_map, List.getElem?_eq_getElem hk]; rfl)⟩
theorem repS_tl (z : Str) (k : Nat) : (repS z k).cps.toList = (List.replicate k z.cps.toList).flatten := rfl
theorem flat_one (c : Nat) : ∀ k : Nat, (List.replicate k [c]).flatten = List.replicate k c
  | 0 => rfl
  | k + 1 => by rw [List.replicate_succ, List.flatten_cons, flat_one c k, List.replicate_succ]; rfl
theorem padR_eq {y : Str} (h : y.length ≤ 8) : y ++ repS " " ((8 : Int) - (y.length : Nat)).toNat = padR y 8 := by
  refine str_ext ?_
  have e1 : (y ++ repS " " ((8 : Int) - (y.length : Nat)).toNat).cps.toList = y.cps.toList ++ List.replicate (8 - y.length) 32 := by
    show (y.cps ++ (repS " " ((8 : Int) - (y.length : Nat)).toNat).cps).toList = _
    rw [Array.toList_append, repS_tl, show (Str.ofString " ").cps.toList = [32] by decide +kernel, flat_one]
    congr 2
    omega
  rw [e1]
  unfold padR
  by_cases c : y.length < 8
  · rw [if_pos c]
    show _ = (Array.replicate 0 32 ++ y.cps ++ Array.replicate (8 - y.length) 32).toList
    simp
  · rw [if_neg c, show 8 - y.length = 0 by omega]
    simp
theorem gt4_eq {n : Int} (h0 : 0 ≤ n) (h7 : n ≤ 7) : repS " " ((4 : Int) - ((numS n).length : Nat)).toNat ++ numS n = gt4 n ∧ (numS n).length ≤ 4 := by
  have h : ∀ k : Fin 8, repS " " ((4 : Int) - ((numS (k.1 : Int)).length : Nat)).toNat ++ numS (k.1 : Int) = gt4 (k.1 : Int) ∧ (numS (k.1 : Int)).length ≤ 4 := by decide +kernel
  have := h ⟨n.toNat, by omega⟩
  rw [show ((n.toNat : Nat) : Int) = n by omega] at this
  exact this
section
variable {P : Program} {w : World} {K : PySem.W.Frag} {mg : Str → Option Value} {base : Heap}
def spLaw46 (K : PySem.W.Frag) (T : List (Addr × Str)) : Sp := fun vs H Q _ => ∃ (a : Addr) (ns : List Int), vs = [.ref a] ∧ SqL K H a (ns.map V.int) ∧ ns.length ≤ 63 ∧ LamX.Tabs T H ∧ ∀ H', Q (.bl true) H'
theorem scLaw46 : FnScope NL46 ["_law_script"] (defScope sLaw) := ⟨rfl, rfl, rfl, by decide +kernel, rfl, by decide +kernel, by decide +kernel⟩
structure Defs46 (P : Program) (w : World) (K : PySem.W.Frag) (mg : Str → Option Value) (base : Heap) (CP P0 : Addr) (E10 : Fin 10 → Addr) (T : List (Addr × Str)) : Prop where
  B : Shg.Blt mg
  EE : Ten K mg P0 E10
  PC : PartyC K mg CP
  mix : ∃ f fd, FnOk P w K mg base CX0 1 f fd ["_law_script", "_law_seed"] (spMix K) ∧ mg "_law_mix" = some (.ref f) ∧ PySem.W.keepIn K (.ref f) = true ∧ Binds K fd ["_law_script", "_law_seed"] []
  next : ∃ f fd, FnOk P w K mg base CX0 1 f fd ["_law_h", "_law_limit"] spNext ∧ mg "_law_next" = some (.ref f) ∧ PySem.W.keepIn K (.ref f) = true ∧ Binds K fd ["_law_h", "_law_limit"] []
  alike : ∃ f fd, (∀ n, FnOk P w K mg base CX0 (n + 1) f fd ["_law_found", nDue] (spAlike n)) ∧ mg "_law_alike" = some (.ref f) ∧ PySem.W.keepIn K (.ref f) = true ∧ Binds K fd ["_law_found", nDue] []
  outcome : ∃ f fd, Fun K "_law_outcome" "_law_outcome" sOut f fd ∧ mg "_law_outcome" = some (.ref f) ∧ PySem.W.keepIn K (.ref f) = true ∧ Binds K fd ["_law_call"] []
  stays : ∃ f fd, FnOk P w K mg base CX0 2 f fd ["_law_h", "_law_most", "_law_last"] (spStays K) ∧ mg "_law_stays" = some (.ref f) ∧ PySem.W.keepIn K (.ref f) = true ∧ Binds K fd ["_law_h", "_law_most", "_law_last"] []
  party : ∃ f fd, FnOk P w K mg base (L2.CX P w) 8 f fd ["_law_stays_here"] (spPartyT K CP) ∧ mg "_law_party" = some (.ref f) ∧ PySem.W.keepIn K (.ref f) = true ∧ Binds K fd ["_law_stays_here"] []
  fmt : ∃ f fd, FnOk P w K mg base CX0 4 f fd ["party"] (spFormat CP) ∧ mg "format_party" = some (.ref f) ∧ PySem.W.keepIn K (.ref f) = true ∧ Binds K fd ["party"] []
  prs : ∃ f fd, FnOk P w K mg base (L2.CX P w) 7 f fd ["text"] (spParse CP (E10 5) (E10 6)) ∧ mg "parse_party" = some (.ref f) ∧ PySem.W.keepIn K (.ref f) = true ∧ Binds K fd ["text"] []
  due : ∃ f fd, FnOk P w K mg base CX0 3 f fd ["_law_text"] spDue ∧ mg "_law_due" = some (.ref f) ∧ PySem.W.keepIn K (.ref f) = true ∧ Binds K fd ["_law_text"] []
  bent : ∃ f fd, FnOk P w K mg base CX0 2 f fd ["_law_h", "_law_text"] spBent ∧ mg "_law_bent" = some (.ref f) ∧ PySem.W.keepIn K (.ref f) = true ∧ Binds K fd ["_law_h", "_law_text"] []
  chart : ∃ f fd, FnOk P w K mg base (L2.CX P w) 10 f fd ["party"] (spChart CP (E10 8) T) ∧ mg "chart" = some (.ref f) ∧ PySem.W.keepIn K (.ref f) = true ∧ Binds K fd ["party"] []
  prop : ∃ p f fd, FnOk P w K mg base CX0 1 f fd ["self"] (getSp CP "_stays") ∧ PropOf K CP "stays" p f ∧ Binds K fd ["self"] []
  call : ∃ f fd CU, FnOk P w K mg base (L2.CX P w) 8 f fd ["self", "name"] (spCallP CP CU T) ∧ StX.CallO K CP f ∧ Binds K fd ["self", "name"] []
  eq : ∃ f fd, FnOk P w K mg base CX0 1 f fd ["self", "other"] (spPEq CP) ∧ Binds K fd ["self", "other"] [] ∧ PySem.W.mroIn K CP (.type "object") = some true ∧ PySem.W.findIn K (.ref CP) "__ne__" = some (some (.builtin "object.__ne__")) ∧ PySem.W.findIn K (.ref CP) "__eq__" = some (some (.ref f)) ∧ PySem.W.isFn K (.ref f) = true
theorem ok_law46 {f c TP P0 CP : Addr} {E10 : Fin 10 → Addr} {fd : FuncData} {T : List (Addr × Str)} (F : FunL K "law" "law" sLaw f c fd) (D : Defs46 P w K mg base CP P0 E10 T) (TB : LamX.TabB base mg c TP) (hm : (TP, qLam) ∈ T) (hu : ∀ p ∈ T, p.1 = TP → p.2 = qLam) :
    FnOk P w K mg base (L2.CX P w) 13 f fd ["_law_script"] (spLaw46 K T) := by
  obtain ⟨B, EE, PC, ⟨f1, fd1, G1, m1, k1, b1⟩, ⟨f2, fd2, G2, m2, k2, b2⟩, ⟨f3, fd3, G3, m3, k3, b3⟩, ⟨f4, fd4, F4, m4, k4, b4⟩, ⟨f5, fd5, G5, m5, k5, b5⟩, ⟨f6, fd6, G6, m6, k6, b6⟩, ⟨fE, fdE, GE, mE, kE, bE⟩, ⟨fD, fdD, GD, mD, kD, bD⟩, ⟨fU, fdU, GU, mU, kU, bU⟩, ⟨fB, fdB, GB, mB, kB, bB⟩, ⟨fH, fdH, GH, mH, kH, bH⟩, ⟨pS, fS, fdS, GS, hS, bS⟩, ⟨fC, fdC, CU, GC, oC, bC⟩, ⟨fQ, fdQ, GQ, bQ, moQ, neQ, eqQ, isQ⟩⟩ := D
  refine F.okX scLaw46 (fun vs H Q E h => ?_) (fun A outer s H vs Q E hr h => ?_)
  · obtain ⟨a, ns, rfl, _⟩ := h
    rfl
  · obtain ⟨a, ns, rfl, ha, hl, hT, k⟩ := h
    have nd := scLaw46.nd
    have pass : Passes (L2.CX P w) (cxOf (L2.CX P w) P w K mg base NL46 "law" (defScope sLaw) f (.ref c) A outer s H E) E := passes_call (takes_of rfl rfl rfl rfl) fun _ _ _ _ z => z
    refine ⟨_, (pss_cons (ps_set (i := 1) nd rfl (Or.inl rfl) (pe_call G1 (hr.mono (by decide)) rfl m1 k1 b1 .nil pass0 (pa_cons (pv 0) (pa_cons pe_int pa_nil))))
      (pss_cons (ps_for (passes_of rfl) rfl (pi_range1 (by rfl) B.range (pa_cons pe_int pa_nil)) (pg_name (i := 2) nd rfl (Or.inl rfl)) (pss_cons (ps_set (i := 3) nd rfl (Or.inl rfl) (pe_call G5 (hr.mono (by decide)) rfl m5 k5 b5 .nil pass0 (pa_cons (pv 1) (pa_cons pe_int (pa_cons (pe_ix ix_list (pe_lst (pa_cons pe_int (pa_cons (pe_op op_pow pe_int pe_int) pa_nil))) (pe_call G2 (hr.mono (by decide)) rfl m2 k2 b2 .nil pass0 (pa_cons (pv 1) (pa_cons pe_int pa_nil))) (fun _ _ => rfl)) pa_nil)))))
      (pss_cons (ps_par (i := 4) (j := 5) rfl nd rfl rfl (by decide) rfl rfl (pa_cons (pe_call G6 (hr.mono (by decide)) rfl m6 k6 b6 .nil pass (pa_cons (pv 3) pa_nil)) (pa_cons (pe_lst pa_nil) pa_nil)) (by rfl))
      (pss_cons (ps_for (passes_of rfl) rfl (pi_tup (pv 3)) (pg_tup rfl (pgs_cons (pg_name (i := 6) nd rfl (Or.inl rfl)) (pgs_cons (pg_name (i := 7) nd rfl (Or.inl rfl)) (pgs_cons (pg_name (i := 8) nd rfl (Or.inl rfl)) pgs_nil)))) (pss_one (ps_expr (pe_bm PySem.F.plainAttrs_list PySem.F.slot_list_append PySem.F.type_list_append mt_append (pv 5) (pa_cons (pe_op op_add_str (pe_op op_add_str (pe_op op_add_str (pe_op op_add_str (pv 6) pe_str) (pe_callTy call_str_int (by rfl) B.str (by decide +kernel) (pa_cons (pv 7) pa_nil))) pe_str) (pe_callTy call_str_int (by rfl) B.str (by decide +kernel) (pa_cons (pv 8) pa_nil))) pa_nil)))))
      (pss_cons (ps_set (i := 9) nd rfl (Or.inl rfl) (pe_join pe_str (pv 5)))
      (pss_cons (ps_if (PW.pt (pw_or (pt_not (pt_val (pe_call (G3 3) (hr.mono (by decide)) rfl m3 k3 b3 .nil pass0 (pa_cons (pe_call GE (hr.mono (by decide)) rfl mE kE bE .nil pass0 (pa_cons (pv 4) pa_nil)) (pa_cons (pv 9) pa_nil))))) (pw_or1 (pt_cmpR (op_ownNe (fnr_of GQ bQ) (hr.mono (by decide)) pass0 moQ neQ eqQ isQ) (pe_call GD (hr.mono (by decide)) rfl mD kD bD .nil pass (pa_cons (pv 9) pa_nil)) (pv 4) (nomark _))))) (pss_one (ps_ret pe_bl)) pss_nil)
      (pss_cons (ps_for (passes_of rfl) rfl (pi_range1 (by rfl) B.range (pa_cons pe_int pa_nil)) (pg_name (i := 10) nd rfl (Or.inl rfl)) (pss_cons (ps_set (i := 16) nd rfl (Or.inr rfl) (pe_call GB (hr.mono (by decide)) rfl mB kB bB .nil pass0 (pa_cons (pv 1) (pa_cons (pv 9) pa_nil))))
      (pss_one (ps_if (pt_not (pt_val (pe_call (G3 3) (hr.mono (by decide)) rfl m3 k3 b3 .nil pass0 (pa_cons (pe_callAt (CX := L2.CX P w) (E := fun _ _ _ => False) (know := fun σ s2 H2 => CellsAt (clF "_law_bent_here" (defScope sLaw) s.heap.objs.size) ["_law_bent_here"] [slotAt σ 16] s2.heap H2)
                (sp := fun σ v H1 Q' => ∃ f sp, v = .ref f ∧ Sho.Act P w K mg base (L2.CX P w) 11 (clF "_law_bent_here" (defScope sLaw) s.heap.objs.size) ["_law_bent_here"] sp f H1 ∧ ∀ (R : VK) (E' : XK), (∀ v H2, OutV Q' v H2 → R v H2) → (∀ cls d H2, Out10 E10 Q' cls d H2 → E' cls d H2) → sp [slotAt σ 16] H1 R E')
                (by rfl) m4 k4 passL (fun pins σ H' s' I => cells_of (js := [16]) (fr := ["_law_bent_here"]) I (Caps.made (scope := scL [("_law_bent_here", .free)]) I.ok (free_by (os := (defScope sLaw).names) (by decide +kernel)) (by decide +kernel) rfl))
                (pa_cons (pe_lam TB rfl hm hu (free_by (os := (defScope sLaw).names) (by decide +kernel))) pa_nil) (fun σ2 s2 H2 u v Q2 e0 kn rv h => by
                  obtain ⟨f2', sp2, rfl, ac, q⟩ := h
                  cases rv
                  exact outcome_run F4 b4 B EE (hr.mono (by decide)) e0 kn ac q)) (pa_cons (pe_call GU (hr.mono (by decide)) rfl mU kU bU .nil pass0 (pa_cons (pv 16) pa_nil)) pa_nil))))) (pss_one (ps_ret pe_bl)) pss_nil))))
      (pss_cons (ps_set (i := 17) nd rfl (Or.inr rfl) (pe_call G5 (hr.mono (by decide)) rfl m5 k5 b5 .nil pass0 (pa_cons (pv 1) (pa_cons pe_int (pa_cons (pe_ix ix_list (pe_lst (pa_cons pe_int (pa_cons pe_int (pa_cons pe_int pa_nil)))) (pe_call G2 (hr.mono (by decide)) rfl m2 k2 b2 .nil pass0 (pa_cons (pv 1) (pa_cons pe_int pa_nil))) (fun _ _ => rfl)) pa_nil)))))
      (pss_cons (ps_par (i := 11) (j := 5) rfl nd rfl rfl (by decide) rfl rfl (pa_cons (pe_callB (cr_max rfl) (by rfl) B.max (by decide +kernel) (pa_cons (pe_op op_cat (pe_lst (pa_cons pe_int pa_nil)) (pe_lc (own := [("_law_one", 18)]) (g := gName 18) (tt := tYes) (te := tOp (rIxT K) (tVar 18) (tC (.int 2))) rfl nd (pi_tup (pv 17)) (blkOk_by (own := [("_law_one", 18)]) (N := NL46) (sc := defScope sLaw) (by decide +kernel))
        (fun _ _ _ _ _ => (pg_name (i := 18) nd rfl (Or.inl rfl))) (fun _ _ _ _ _ => pts_nil) (fun _ _ _ _ _ => pe_ix ix_tup (pv 18) pe_int (fun _ _ => rfl)))) pa_nil)) (pa_cons (pe_lst pa_nil) pa_nil)) (by rfl))
      (pss_cons (ps_for (passes_of rfl) rfl (pi_tup (pv 17)) (pg_tup rfl (pgs_cons (pg_name (i := 6) nd rfl (Or.inl rfl)) (pgs_cons (pg_name (i := 7) nd rfl (Or.inl rfl)) (pgs_cons (pg_name (i := 8) nd rfl (Or.inl rfl)) pgs_nil)))) (pss_cons (ps_set (i := 12) nd rfl (Or.inl rfl) (pe_op op_add_str (pe_op op_add_str (pe_op op_repS pe_str (pv 7)) (pe_op op_repS pe_str (pe_op op_sub (pv 8) (pv 7)))) (pe_op op_repS pe_str (pe_op op_sub (pe_op op_add (pv 11) pe_int) (pv 8)))))
      (pss_cons (ps_set (i := 13) nd rfl (Or.inl rfl) (pe_callTy call_str_int (by rfl) B.str (by decide +kernel) (pa_cons (StX.pe_callO (pe_call G6 (hr.mono (by decide)) rfl m6 k6 b6 .nil pass (pa_cons (pv 17) pa_nil)) oC (fnr_of GC bC) (hr.mono (by decide)) pass (pa_cons (pv 6) pa_nil)) pa_nil)))
      (pss_cons (ps_set (i := 14) nd rfl (Or.inl rfl) (pe_op op_add_str (pv 6) (pe_op op_repS pe_str (pe_op op_sub pe_int (pe_callB call_len_str (by rfl) B.len PySem.boot_len (pa_cons (pv 6) pa_nil))))))
      (pss_one (ps_expr (pe_bm PySem.F.plainAttrs_list PySem.F.slot_list_append PySem.F.type_list_append mt_append (pv 5) (pa_cons (pe_op op_add_str (pe_op op_add_str (pe_op op_add_str (pv 14) (pv 12)) (pe_op op_repS pe_str (pe_op op_sub pe_int (pe_callB call_len_str (by rfl) B.len PySem.boot_len (pa_cons (pv 13) pa_nil))))) (pv 13)) pa_nil))))))))
      (pss_cons (ps_set (i := 15) nd rfl (Or.inl rfl) (pe_ifExp (pt_cmpR op_le (pv 11) pe_int (nomark _)) (pe_tup (pa_cons pe_str (pa_cons (pe_join pe_str (pv 5)) pa_nil))) (pe_tup (pa_cons pe_str pa_nil))))
      (pss_one (ps_if (pt_not (pt_val (pe_call (G3 3) (hr.mono (by decide)) rfl m3 k3 b3 .nil pass0 (pa_cons (pe_callAt (CX := L2.CX P w) (E := fun _ _ _ => False) (know := fun σ s2 H2 => CellsAt (clF "_law_shown" (defScope sLaw) s.heap.objs.size) ["_law_shown"] [slotAt σ 17] s2.heap H2)
                (sp := fun σ v H1 Q' => ∃ f sp, v = .ref f ∧ Sho.Act P w K mg base (L2.CX P w) 11 (clF "_law_shown" (defScope sLaw) s.heap.objs.size) ["_law_shown"] sp f H1 ∧ ∀ (R : VK) (E' : XK), (∀ v H2, OutV Q' v H2 → R v H2) → (∀ cls d H2, Out10 E10 Q' cls d H2 → E' cls d H2) → sp [slotAt σ 17] H1 R E')
                (by rfl) m4 k4 passL (fun pins σ H' s' I => cells_of (js := [17]) (fr := ["_law_shown"]) I (Caps.made (scope := scL [("_law_shown", .free)]) I.ok (free_by (os := (defScope sLaw).names) (by decide +kernel)) (by decide +kernel) rfl))
                (pa_cons (pe_lam TB rfl hm hu (free_by (os := (defScope sLaw).names) (by decide +kernel))) pa_nil) (fun σ2 s2 H2 u v Q2 e0 kn rv h => by
                  obtain ⟨f2', sp2, rfl, ac, q⟩ := h
                  cases rv
                  exact outcome_run F4 b4 B EE (hr.mono (by decide)) e0 kn ac q)) (pa_cons (pv 15) pa_nil))))) (pss_one (ps_ret pe_bl)) pss_nil)))))))))))))
      (pss_one (ps_ret pe_bl)))), ?_⟩
    refine ⟨_, rfl, a, ns, 46, rfl, ha, hl, fun H1 l S s1 _ _ D1 => ?_⟩
    refine ⟨3, rfl, by decide, by decide, for_it walk_range (fun i σ H2 => ∃ o2 o3 o4 o5 o6 o7 o8 o9 o10 o11 o12 o13 o14 o15 o16 o17 o18 : Option V, σ = [some (.ref a), some (.ref l), o2, o3, o4, o5, o6, o7, o8, o9, o10, o11, o12, o13, o14, o15, o16, o17, o18] ∧ NextSt H2 l S ∧ LamX.Tabs T H2)
      ⟨none, none, none, none, none, none, none, none, none, none, none, none, none, none, none, none, none, rfl, D1, LamX.Tabs.ext hT s1⟩ (fun _ _ _ _ _ => trivial) ?_ ?_⟩
    · rintro turn v σ H3 H2 hi ⟨o2, o3, o4, o5, o6, o7, o8, o9, o10, o11, o12, o13, o14, o15, o16, o17, o18, rfl, D2, T2⟩ ⟨rfl, rfl⟩
      -- the stays
      refine ⟨_, rfl, _, _, rfl, rfl, ⟨by decide, by decide, by decide⟩, by show 2 ≤ sizeLine; decide, fun La hLa => ⟨_, rfl, l, S, 2, rfl, D2.same (same_upd hLa), by decide, by decide, fun r H4 r0 r1 b4 d4 => ?_⟩⟩
      obtain ⟨nLal, nLaS⟩ := D2.fresh hLa
      have T4 : LamX.Tabs T H4 := tabs_but2 (D2.same (same_upd hLa)) b4 (LamX.Tabs.ext T2 (same_upd hLa))
      have eLa : H4 La = some (.lst (([30, 1000000000] : List Int).map V.int)) := b4 _ _ upd_same nLal nLaS
      obtain ⟨last, lm, hlast⟩ := ints_pick [30, 1000000000] r0 (by show r < 2; omega)
      have lb : 0 < last ∧ last ≤ 1000000000 := by
        rcases List.mem_cons.mp lm with e | e
        · omega
        · have := List.mem_singleton.mp e
          omega
      refine ⟨La, _, r, .int last, rfl, rfl, SqL.of eLa, hlast, l, S, 6, last, rfl, d4, by decide, by decide, lb.1, by omega, fun t ws xs H5 b5 d5 et sv lx dr => name_of ?_⟩
      have T5 : LamX.Tabs T H5 := tabs_but2 d4 b5 T4
      clear b4 d4 T4 eLa hLa D2 T2
      have short := dr.short
      have x6 : xs.length ≤ 6 := by omega
      have valid := dr.valid lb.2 (by omega)
      have tidy : ∀ x ∈ xs, Tidy x := fun x hx => dr.tidy lb.2 hx
      have both : ∀ x ∈ xs, okName x.1 = true ∧ Tidy x := fun x hx => ⟨(dr.name hx).1, tidy x hx⟩
      have wl := pair_len sv
      obtain ⟨tw1, tw2⟩ := text_words both
      obtain ⟨tz1, tz2, tz3⟩ := text_size both x6
      -- the party
      refine ⟨_, rfl, t, ws, xs, rfl, et, sv, short, valid, fun p H6 s6 hp PA => ⟨Nat.zero_le _, fun Lr hLr => ⟨_, _, rfl, ?_⟩⟩⟩
      have s7 : Same H5 (upd H6 Lr (.lst [])) := s6.trans (same_upd hLr)
      have hLr7 : (upd H6 Lr (.lst [])) Lr = some (.lst []) := upd_same
      have PA7 := PA.same (same_upd (o := .lst []) hLr)
      obtain ⟨nr1, nr2⟩ := (d5.same s6).fresh hLr
      have hLr5 : H5 Lr = none := s6.free hLr
      generalize upd H6 Lr (.lst []) = H7 at *
      have d7 := d5.same s7
      have T7 := LamX.Tabs.ext T5 s7
      have et7 := s7 _ _ et
      have sv7 := sv.same s7
      -- its rows
      refine ⟨_, rfl, t, rfl, ⟨_, SqT.of et7⟩, for_it walk_tup (fun i σ H => ∃ o6 o7 o8, σ = [some (.ref a), some (.ref l), some (.int (0 + (turn : Nat))), some (.ref t), some (.ref p), some (.ref Lr), o6, o7, o8, o9, o10, o11, o12, o13, o14, o15, o16, o17, o18] ∧ ButL Lr H7 H ∧ NextSt H l S ∧ LamX.Tabs T H ∧ H Lr = some (.lst ((xs.take i).map fun x => .str (rowText x))))
        ⟨o6, o7, o8, rfl, ButL.refl _ _, d7, T7, hLr7⟩ (fun i σ H _ ⟨_, _, _, _, b, _⟩ => SqT.of (b _ _ et7 (ne_of_none et hLr5))) ?_ ?_⟩
      · rintro i y σ H8 H9 hi ⟨o6, o7, o8, rfl, b8, d8, T8, hLr8⟩ ⟨rfl, ey⟩
        obtain ⟨x, hx, tt, rfl, ht⟩ := pair_get sv7 ey
        obtain ⟨x8, c0, c1, g0, g1⟩ := tidy x (List.mem_of_getElem? hx)
        have nt : tt ≠ Lr := fun z => by rw [z, hLr7] at ht; cases ht
        have lr := rowText_len (tidy x (List.mem_of_getElem? hx))
        have l5 : rowText x = (x.1 ++ " " ++ numS x.2.1 ++ "-") ++ numS x.2.2 := rfl
        have l4 : (x.1 ++ " " ++ numS x.2.1 ++ "-").length + (numS x.2.2).length ≤ 30 := by rw [l5, len_str] at lr; exact lr
        have l3 : (x.1 ++ " " ++ numS x.2.1).length + (Str.ofString "-").length ≤ 30 := by
          have := l4
          rw [len_str (x.1 ++ " " ++ numS x.2.1)] at this
          omega
        have l2 : (x.1 ++ " ").length + (numS x.2.1).length ≤ 30 := by
          have := l3
          rw [len_str (x.1 ++ " ")] at this
          omega
        have l1 : x.1.length + (Str.ofString " ").length ≤ 30 := by
          have := l2
          rw [len_str x.1] at this
          omega
        have small : ∀ {n : Nat}, n ≤ 30 → n ≤ sizeLine := fun h => Nat.le_trans h (by decide)
        refine ⟨tt, _, rfl, SqT.of (b8 _ _ ht nt), rfl, _, _, rfl, _, _, rfl, _, _, rfl, rfl, ?_⟩
        refine ⟨_, rfl, .inl ⟨rfl, _, SqL.of hLr8⟩, _, rfl, _, _, rfl, rfl, small l1, _, rfl, _, rfl, small_log c0 c1, _, _, rfl, rfl, small l2, _, _, rfl, rfl, small l3, _, rfl, _, rfl, small_log g0 g1, _, _, rfl, rfl, small l4, ?_⟩
        refine ⟨Lr, _, _, rfl, rfl, hLr8, ?_, ?_⟩
        · rw [List.length_map, List.length_take]
          exact Nat.lt_of_le_of_lt (Nat.min_le_right ..) (Nat.lt_of_le_of_lt x6 (by decide))
        · have take1 : xs.take (i + 1) = xs.take i ++ [x] := by rw [List.take_add_one, hx]; rfl
          refine ⟨_, _, _, rfl, b8.trans ButL.upd, ?_, ?_, ?_⟩
          · exact d8.upd nr1 nr2
          · exact tabs_updL hLr8 T8
          · rw [upd_same, take1, List.map_append]
            rfl
      · rintro σ H8 ⟨o6, o7, o8, rfl, b8, d8, T8, hLr8⟩
        rw [wl, List.take_length] at hLr8
        have e8 : xs.map (fun x => V.str (rowText x)) = (xs.map rowText).map V.str := by
          rw [List.map_map]
          rfl
        rw [e8] at hLr8
        have PA8 : PartyAt CP H8 p xs := by
          obtain ⟨dx, ap, wp, q1, q2, q3⟩ := PA7
          refine ⟨dx, ap, wp, b8 _ _ q1 fun z => ?_, b8 _ _ q2 fun z => ?_, stays_butL hLr7 b8 q3⟩
          · rw [z, hLr7] at q1
            cases q1
          · rw [z, hLr7] at q2
            cases q2
        refine ⟨⟨_, rfl⟩, _, rfl, "\n", Lr, xs.map rowText, rfl, rfl, .inl (SqL.of hLr8), ?_, name_of ?_⟩
        · have e3 : (Str.ofString "\n").length = 1 := by decide +kernel
          rw [e3, List.map_map, List.length_map]
          have := sum_le ((fun y : Str => y.length) ∘ rowText) 30 xs fun x hx => rowText_len (tidy x hx)
          omega
        have ez0 : Txt.join (Str.ofString "\n") (xs.map rowText) = textOf xs := rfl
        rw [ez0]
        -- it leads back and forth
        refine ⟨_, rfl, p, xs, rfl, PA8, tidy, by omega, fun H9 s9 => ⟨_, rfl, .str (textOf xs), .str (textOf xs), rfl, .inl ⟨trivial, rfl⟩, fun HA sA => ⟨_, rfl, iteF ?_⟩⟩⟩
        refine ⟨_, rfl, textOf xs, rfl, by omega, fun i e => (by rw [tw1] at e; cases e), fun _ => ⟨fun _ p2 HB sB PB => ⟨_, rfl, p2, p, rfl, rfl, ?_, ?_, ?_⟩, fun i e => ?_⟩⟩
        · exact ins_par PB
        · exact ins_par (PA8.same ((s9.trans sA).trans sB))
        · rw [tw2] at PB
          refine ⟨p2, xs, .ref p, rfl, PB, short, .inl ⟨p, xs, rfl, PA8.same ((s9.trans sA).trans sB), short, _, rfl, _, rfl, ?_⟩⟩
          rw [decide_eq_true (rfl : xs = xs)]
          have s8B := (s9.trans sA).trans sB
          have dB := d8.same s8B
          have TB' := LamX.Tabs.ext T8 s8B
          clear b8 d8 T8 hLr8 PA8 s8B s9 sA sB PB
          refine iteF ⟨4, rfl, by decide, by decide, for_it walk_range (fun i σ H => ∃ o10 o11 o12 o13 o14 o15 o16 o17 o18 : Option V, σ = [some (.ref a), some (.ref l), some (.int (0 + (turn : Nat))), some (.ref t), some (.ref p), some (.ref Lr), o6, o7, o8, some (.str (textOf xs)), o10, o11, o12, o13, o14, o15, o16, o17, o18] ∧ NextSt H l S ∧ LamX.Tabs T H)
            ⟨o10, o11, o12, o13, o14, o15, o16, o17, o18, rfl, dB, TB'⟩ (fun _ _ _ _ _ => trivial) ?_ ?_⟩
          · rintro ch v σ H2' H2 hch ⟨o10, o11, o12, o13, o14, o15, o16, o17, o18, rfl, D2, T2⟩ ⟨rfl, rfl⟩
            refine ⟨_, rfl, _, rfl, l, S, textOf xs, rfl, D2, tz1, tz2, fun z H3 b3 d3 zl zp zn => name_of ?_⟩
            have T3 := tabs_but2 D2 b3 T2
            have zr : (rowsOf z).length ≤ 23 := by
              have := rowsOf_le z
              omega
            refine ⟨T3, fun f0 c0 Hh Gh nh lh => ⟨_, rfl, f0, spLam1 (E10 5) (E10 6), rfl, ?_, fun R E' hR hE => ?_⟩⟩
            · refine act0 (k := 10) (N := ["_law_bent_here"]) (fr := ["_law_bent_here"]) (sp := spLam1 (E10 5) (E10 6)) lh (nscope_by (sc := scL [("_law_bent_here", .free), ("parse_party", .globalImplicit)]) (by decide +kernel)) (fun _ _ => rfl) fun A outer s H ws Q E hr hw h => ?_
              obtain ⟨z', rfl, hz', kT, kS, kV⟩ := h
              refine ⟨_, pe_prop (pe_call GD (hr.mono (by decide)) rfl mD kD bD .nil (passes_call (takes_of rfl rfl rfl rfl) fun _ _ _ _ z => z) (pa_cons (pv 0) pa_nil)) PC.cl hS GS (hr.mono (by decide)) bS .nil pass0 rfl, ?_⟩
              refine ⟨_, rfl, z', rfl, hz', fun i e => kT i (by unfold dueOf; rw [e]), fun e => ⟨fun e2 p' H' s' PA => ?_, fun i e2 => kS i (by unfold dueOf; rw [e]; simp only; rw [e2])⟩⟩
              obtain ⟨dy, ay, vy, y1, y2, y3⟩ := PA
              exact ⟨p', dy, _, rfl, y1, p', dy, _, .ref ay, rfl, y1, lk_stays _, kV _ (by unfold dueOf; rw [e]; simp only; rw [e2]) H' ay vy s' y2 y3⟩
            · have dh := d3.keep Gh.ext
              have Th := Gh.tab T3
              -- read by both
              refine ⟨z, rfl, zl, fun i e HF d2 sF eF => hE _ _ _ ⟨6, rfl, .inr ⟨"row", d2, .int (i : Nat), rfl, rfl, eF, fun p HG sG eG => ?_⟩⟩, fun i e HF d2 sF eF => hE _ _ _ ⟨5, rfl, .inr ⟨"index", d2, .int (i : Nat), rfl, rfl, eF, fun p HG sG eG => ?_⟩⟩, fun ys e HF t2 vs2 sF eF svF => hR _ _ fun p HG sG eG => ?_⟩
              · have sG' := sF.trans sG
                have e1 := due_text e
                have toldP : Told HG p (dueOf z) := by
                  rw [e]
                  exact eG
                refine ⟨_, rfl, z, rfl, zl, zp, zr, fun j ej H' q s' eq => ⟨.ref p, .ref q, rfl, alike_told (fun xs h => due_small zr h) (toldP.same s') ?_, fun HJ sJ => ⟨_, rfl, iteF ⟨_, _, _, _, _, _, _, _, _, rfl, dh.same ((sG'.trans s').trans sJ), LamX.Tabs.ext Th ((sG'.trans s').trans sJ)⟩⟩⟩, fun e0 => (by rw [e1] at e0; cases e0)⟩
                rw [e]
                exact (by rw [e1] at ej; cases ej; exact eq)
              · have sG' := sF.trans sG
                obtain ⟨e1, e2⟩ := due_stay e
                have toldP : Told HG p (dueOf z) := by
                  rw [e]
                  exact eG
                refine ⟨_, rfl, z, rfl, zl, zp, zr, fun j ej => (by rw [e1] at ej; cases ej), fun _ => ⟨fun j ej H' q s' eq => ⟨.ref p, .ref q, rfl, alike_told (fun xs h => due_small zr h) (toldP.same s') ?_, fun HJ sJ => ⟨_, rfl, iteF ⟨_, _, _, _, _, _, _, _, _, rfl, dh.same ((sG'.trans s').trans sJ), LamX.Tabs.ext Th ((sG'.trans s').trans sJ)⟩⟩⟩, fun e3 => (by rw [e2] at e3; cases e3)⟩⟩
                rw [e]
                exact (by rw [e2] at ej; cases ej; exact eq)
              · have sG' := sF.trans sG
                obtain ⟨e1, e2, e3⟩ := due_value e
                have toldP : Told HG p (dueOf z) := by
                  rw [e]
                  exact ⟨t2, vs2, eG, sG _ _ eF, svF.same sG⟩
                refine ⟨_, rfl, z, rfl, zl, zp, zr, fun j ej => (by rw [e1] at ej; cases ej), fun _ => ⟨fun j ej => (by rw [e2] at ej; cases ej), fun _ H' q a' ws' s' eq ea sv' => ⟨.ref p, .ref q, rfl, alike_told (fun xs h => due_small zr h) (toldP.same s') ?_, fun HJ sJ => ⟨_, rfl, iteF ⟨_, _, _, _, _, _, _, _, _, rfl, dh.same ((sG'.trans s').trans sJ), LamX.Tabs.ext Th ((sG'.trans s').trans sJ)⟩⟩⟩⟩⟩
                rw [e]
                exact ⟨a', ws', eq, ea, (by rw [← e3]; exact sv')⟩
          · rintro σ H2 ⟨o10, o11, o12, o13, o14, o15, o16, o17, o18, rfl, D2, T2⟩
            -- the chart
            refine ⟨_, rfl, by show 3 ≤ sizeLine; decide, fun Lb hLb => ⟨_, rfl, l, S, 3, rfl, D2.same (same_upd hLb), by decide, by decide, fun r H4 r0 r1 b4 d4 => ?_⟩⟩
            obtain ⟨nLbl, nLbS⟩ := D2.fresh hLb
            have T4 : LamX.Tabs T H4 := tabs_but2 (D2.same (same_upd hLb)) b4 (LamX.Tabs.ext T2 (same_upd hLb))
            have eLb : H4 Lb = some (.lst (([12, 99, 110] : List Int).map V.int)) := b4 _ _ upd_same nLbl nLbS
            obtain ⟨lim, lm, hlim⟩ := ints_pick [12, 99, 110] r0 (by show r < 3; omega)
            have lb2 : 0 < lim ∧ lim ≤ 110 := by
              simp only [List.mem_cons, List.not_mem_nil, or_false] at lm
              omega
            refine ⟨Lb, _, r, .int lim, rfl, rfl, SqL.of eLb, hlim, l, S, 6, lim, rfl, d4, by decide, by decide, lb2.1, by omega, fun t2 ws2 ys H5 b5 d5 et2 sv2 ly dy => name_of ?_⟩
            have T5 : LamX.Tabs T H5 := tabs_but2 d4 b5 T4
            clear b4 d4 T4 eLb hLb D2 T2 b5
            have short2 := dy.short
            have y6 : ys.length ≤ 6 := by omega
            have valid2 := dy.valid (by omega) (by omega)
            have ty : ∀ x ∈ ys, Tidy x ∧ x.2.1 < x.2.2 := fun x hx => ⟨dy.tidy (by omega) hx, (dy.tm x hx).2.1⟩
            have top110 : topOf ys ≤ 110 := by
              rcases topI_mem (ys.map fun x => x.2.2) with e | e
              · show topI _ ≤ _
                rw [e]
                decide
              · obtain ⟨x, hx, e⟩ := List.mem_map.mp e
                show topI _ ≤ _
                rw [← e]
                have := (dy.tm x hx).2.2
                omega
            have topx : ∀ x ∈ ys, x.2.2 ≤ topOf ys := fun x hx => (topI_ge _).2 _ (List.mem_map_of_mem (f := fun x : Stay => x.2.2) hx)
            have top0 : 0 ≤ topOf ys := (topI_ge _).1
            have wl2 := pair_len sv2
            -- the last tick
            refine par_rel (fun v H' => v = .int (topOf ys) ∧ Same H5 H') (fun R hR => ?_) ?_
            · refine ⟨by show 1 ≤ sizeLine; decide, fun L0 hL0 => ⟨_, rfl, t2, rfl, ⟨_, SqT.of ((same_upd hL0) _ _ et2)⟩, fun D hD => ?_⟩⟩
              have s6 : Same H5 (upd H5 L0 (.lst [.int 0])) := same_upd hL0
              have e0 : (upd H5 L0 (.lst [.int 0])) L0 = some (.lst [.int 0]) := upd_same
              generalize upd H5 L0 (.lst [.int 0]) = H6 at *
              refine lc_map walk_tup (fun i => (ys[i]?).map fun x => .int x.2.2) hD (by rw [wl2]; exact Nat.le_trans y6 (by decide)) (fun H7 s7 => SqT.of (s7 _ _ (s6 _ _ et2))) (fun i v H7 H8 hi s7 yy R' k1 => ?_) (fun i hi => ⟨_, by rw [List.getElem?_eq_getElem (by rw [← wl2]; exact hi)]; rfl⟩) fun H7 s7 e7 => ?_
              · obtain ⟨rfl, ey⟩ := yy
                obtain ⟨x, hx, tt, rfl, ht⟩ := pair_get sv2 ey
                exact ⟨rfl, _, rfl, tt, _, 2, .int x.2.2, rfl, rfl, SqT.of (s7 _ _ (s6 _ _ ht)), atI_nat (j := 2) rfl, k1 _ _ (Same.refl _) (by rw [hx]; rfl)⟩
              · rw [wl2, gather_map ys fun x => V.int x.2.2] at e7
                have eg : ys.map (fun x => V.int x.2.2) = (ys.map fun x => x.2.2).map V.int := by
                  rw [List.map_map]
                  rfl
                rw [eg] at e7
                refine ⟨L0, D, _, _, rfl, rfl, s7 _ _ e0, e7, ?_, fun C hC => ⟨C, 0 :: ys.map fun x => x.2.2, rfl, SqL.of upd_same, by simp, fun m m1 m2 => ?_⟩⟩
                · rw [List.length_map, List.length_map]
                  exact Nat.le_trans (show 1 + ys.length ≤ 7 by omega) (by decide)
                · obtain rfl : m = topOf ys := by
                    have e1 := topI_of (l := 0 :: ys.map fun x => x.2.2) (m := m) (fun b hb => by
                      rcases List.mem_cons.mp hb with rfl | hb
                      · exact Int.le_refl _
                      · obtain ⟨x, hx, rfl⟩ := List.mem_map.mp hb
                        exact (ty x hx).1.2.2.2.1) (Or.inr m1) m2
                    rw [e1]
                    show max 0 (topI _) = _
                    exact Int.max_eq_right top0
                  exact hR _ _ ⟨rfl, (s6.trans s7).trans (same_upd hC)⟩
            · rintro v H6 ⟨rfl, s6⟩
              refine ⟨Nat.zero_le _, fun Lr2 hLr2 => ⟨_, _, rfl, ?_⟩⟩
              have hLr0 : H5 Lr2 = none := s6.free hLr2
              have G7 : Grows T H5 (upd H6 Lr2 (.lst [])) := (Sh1.Grows.of s6).trans (Grows.upd hLr2)
              have hLr7 : (upd H6 Lr2 (.lst [])) Lr2 = some (.lst []) := upd_same
              generalize upd H6 Lr2 (.lst []) = H7 at *
              have k1 : (Str.ofString ".").length = 1 := by decide +kernel
              have k2 : (Str.ofString "=").length = 1 := by decide +kernel
              have k3 : (Str.ofString " ").length = 1 := by decide +kernel
              have big : ∀ {n : Nat}, n ≤ 1000 → n ≤ sizeLine := fun h => Nat.le_trans h (by decide)
              have pq : ∀ x ∈ ys, 0 ≤ pairsOf ys x.1 ∧ pairsOf ys x.1 ≤ 7 := fun x hx => by
                obtain ⟨y, ey, _⟩ := guest_some hx
                have := lifted_len (ys.map rw3) (rw3 y)
                rw [List.length_map] at this
                unfold pairsOf
                rw [ey]
                show (0 : Int) ≤ ((lifted (ys.map rw3) (rw3 y)).length : Nat) ∧ (((lifted (ys.map rw3) (rw3 y)).length : Nat) : Int) ≤ 7
                omega
              have rowl : ∀ x ∈ ys, (chartRow ys x).length ≤ 130 := fun x hx => by
                obtain ⟨Tx, lt⟩ := ty x hx
                obtain ⟨q0, q7⟩ := pq x hx
                unfold chartRow
                rw [len_str, len_str, padR_len Tx.1, signs_len Tx.2.1 lt (topx x hx), gt4_len q0 q7]
                omega
              have at2 : ∀ {H'}, Grows T H5 H' → H' t2 = some (.tup ws2) := fun G => G.ext _ _ et2 fun _ z => nomatch z
              refine ⟨_, rfl, t2, rfl, ⟨_, SqT.of (at2 G7)⟩, for_it walk_tup (fun i σ H => ∃ o6 o7 o8 o12 o13 o14, σ = [some (.ref a), some (.ref l), some (.int (0 + (turn : Nat))), some (.ref t), some (.ref p), some (.ref Lr2), o6, o7, o8, some (.str (textOf xs)), o10, some (.int (topOf ys)), o12, o13, o14, o15, o16, some (.ref t2), o18] ∧ Grows T H5 H ∧ H Lr2 = some (.lst ((ys.take i).map fun x => .str (chartRow ys x))))
                ⟨o6, o7, o8, o12, o13, o14, rfl, G7, hLr7⟩ (fun i σ H _ ⟨_, _, _, _, _, _, _, G, _⟩ => SqT.of (at2 G)) ?_ ?_⟩
              · rintro i y σ H8 H9 hi ⟨o6, o7, o8, o12, o13, o14, rfl, G8, hLr8⟩ ⟨rfl, ey⟩
                obtain ⟨x, hx, tt, rfl, ht⟩ := pair_get sv2 ey
                have hxm := List.mem_of_getElem? hx
                obtain ⟨⟨t1, c0, c1, g0, g1⟩, lt⟩ := ty x hxm
                have tx := topx x hxm
                obtain ⟨q0, q7⟩ := pq x hxm
                have sl := signs_len c0 lt tx
                have sl' : (repS "." x.2.1.toNat ++ repS "=" (x.2.2 - x.2.1).toNat ++ repS "." (topOf ys + 1 - x.2.2).toNat).length = (topOf ys + 1).toNat := sl
                have la : (repS "." x.2.1.toNat).length ≤ 110 := by rw [repS_len, k1]; omega
                have lb : (repS "=" (x.2.2 - x.2.1).toNat).length ≤ 110 := by rw [repS_len, k2]; omega
                have lc : (repS "." (topOf ys + 1 - x.2.2).toNat).length ≤ 111 := by rw [repS_len, k1]; omega
                refine ⟨tt, _, rfl, SqT.of (G8.ext _ _ ht fun _ z => nomatch z), rfl, _, _, rfl, _, _, rfl, _, _, rfl, rfl, ?_⟩
                refine ⟨_, rfl, ".", _, rfl, rfl, by omega, by omega, by rw [k1]; decide, _, rfl, _, rfl, _, _, rfl, rfl, "=", _, rfl, rfl, by omega, by omega, by rw [k2]; decide, _, _, rfl, rfl, big (by omega), _, rfl, _, _, rfl, rfl, _, rfl, _, _, rfl, rfl, ".", _, rfl, rfl, by omega, by omega, by rw [k1]; decide, _, _, rfl, rfl, big (by rw [len_str]; omega), name_of ?_⟩
                have rl := rowl x hxm
                have er : chartRow ys x = padR x.1 8 ++ (repS "." x.2.1.toNat ++ repS "=" (x.2.2 - x.2.1).toNat ++ repS "." (topOf ys + 1 - x.2.2).toNat) ++ gt4 (pairsOf ys x.1) := rfl
                generalize repS "." x.2.1.toNat ++ repS "=" (x.2.2 - x.2.1).toNat ++ repS "." (topOf ys + 1 - x.2.2).toNat = sg at *
                obtain ⟨gx, eg, _⟩ := guest_some hxm
                refine ⟨_, rfl, t2, ws2, ys, rfl, at2 G8, stays_ext G8.ext sv2, short2, valid2, fun p2 HA sA hp2 PA2 => ⟨p2, rfl, _, rfl, .inr (ins_par PA2), p2, x.1, ys, rfl, PA2, short2, by omega, by omega, LamX.Tabs.ext (G8.tab T5) sA, fun gy ey' HB GB => ?_, fun e => ?_⟩⟩
                · rw [eg] at ey'
                  cases ey'
                  have ev : pairsOf ys x.1 = ((lifted (ys.map rw3) (rw3 gx)).length : Nat) := by
                    unfold pairsOf
                    rw [eg]
                  rw [← ev]
                  obtain ⟨ge, gl⟩ := gt4_eq q0 q7
                  have pe' := padR_eq t1
                  have GAB := (G8.trans (Sh1.Grows.of sA)).trans GB
                  have hLrB := GB.ext _ _ (sA _ _ hLr8) fun _ z => nomatch z
                  refine ⟨_, rfl, small_log q0 (by omega), name_of ?_⟩
                  have l8 : (padR x.1 8).length = 8 := padR_len t1
                  have lr8 : (repS " " ((8 : Int) - (x.1.length : Nat)).toNat).length ≤ 8 := by rw [repS_len, k3]; omega
                  have en : Str.ofString (toString (pairsOf ys x.1)) = numS (pairsOf ys x.1) := rfl
                  rw [en]
                  have lr4 : (repS " " ((4 : Int) - ((numS (pairsOf ys x.1)).length : Nat)).toNat).length ≤ 4 := by rw [repS_len, k3]; omega
                  refine ⟨_, rfl, _, rfl, x.1, rfl, big (by omega), _, _, rfl, rfl, " ", _, rfl, rfl, by omega, by omega, by rw [k3]; decide, _, _, rfl, rfl, big (by omega), name_of ?_⟩
                  rw [pe']
                  have asc : padR x.1 8 ++ sg ++ repS " " ((4 : Int) - ((numS (pairsOf ys x.1)).length : Nat)).toNat ++ numS (pairsOf ys x.1) = chartRow ys x := by
                    rw [er, ← ge, PySem.Str.append_assoc (padR x.1 8 ++ sg)]
                  refine ⟨_, rfl, .inl ⟨rfl, _, SqL.of hLrB⟩, _, rfl, _, rfl, _, _, rfl, rfl, big (by omega), _, rfl, _, rfl, big (by omega), _, _, rfl, rfl, " ", _, rfl, rfl, by omega, by omega, by rw [k3]; decide, _, _, rfl, rfl, big (by rw [len_str]; omega), _, rfl, _, _, rfl, rfl, big (by rw [len_str, len_str]; omega), Lr2, _, _, rfl, rfl, hLrB, ?_, ?_⟩
                  · rw [List.length_map, List.length_take]
                    exact Nat.lt_of_le_of_lt (Nat.min_le_right ..) (Nat.lt_of_le_of_lt y6 (by decide))
                  · have take1 : ys.take (i + 1) = ys.take i ++ [x] := by rw [List.take_add_one, hx]; rfl
                    rw [asc]
                    refine ⟨_, _, _, _, _, _, rfl, grows_updL hLr0 GAB hLrB, ?_⟩
                    rw [upd_same, take1, List.map_append]
                    rfl
                · rw [eg] at e
                  cases e
              · rintro σ H8 ⟨o6, o7, o8, o12, o13, o14, rfl, G8, hLr8⟩
                rw [wl2, List.take_length] at hLr8
                have e8 : ys.map (fun x => V.str (chartRow ys x)) = (ys.map (chartRow ys)).map V.str := by
                  rw [List.map_map]
                  rfl
                rw [e8] at hLr8
                refine nx_of (asg_rel (fun v H' => ∃ q, v = .ref q ∧ Grows T H5 H' ∧ (topOf ys ≤ 99 → H' q = some (.tup [.str "value", .str (chartText ys)])) ∧ (99 < topOf ys → H' q = some (.tup [.str "wide"]))) (fun R hR => ?_) fun v H9 ⟨q, ev, G9, q1, q2⟩ => name_at ?_)
                · refine ⟨_, rfl, _, _, rfl, rfl, _, rfl, ?_⟩
                  by_cases c : topOf ys ≤ 99
                  · rw [decide_eq_true c]
                    refine iteT ⟨⟨_, rfl⟩, _, rfl, "\n", Lr2, ys.map (chartRow ys), rfl, rfl, .inl (SqL.of hLr8), ?_, by show 2 ≤ sizeLine; decide, fun q hq => hR _ _ ⟨q, rfl, G8.trans (Grows.upd hq), fun _ => upd_same, fun z => by omega⟩⟩
                    have e4 : (Str.ofString "\n").length = 1 := by decide +kernel
                    rw [e4, List.map_map, List.length_map]
                    have := sum_le ((fun y : Str => y.length) ∘ chartRow ys) 130 ys rowl
                    omega
                  · rw [decide_eq_false c]
                    exact iteF ⟨by show 1 ≤ sizeLine; decide, fun q hq => hR _ _ ⟨q, rfl, G8.trans (Grows.upd hq), fun z => absurd z c, fun _ => upd_same⟩⟩
                · subst ev
                  refine ⟨G9.tab T5, fun f0 c0 Hh Gh nh lh => ⟨_, rfl, f0, spLam2 (E10 8) T, rfl, ?_, fun R E' hR hE => ?_⟩⟩
                  · refine act0 (k := 10) (N := ["_law_shown"]) (fr := ["_law_shown"]) (sp := spLam2 (E10 8) T) lh (nscope_by (sc := scL [("_law_shown", .free), ("chart", .globalImplicit), ("_law_party", .globalImplicit)]) (by decide +kernel)) (fun _ _ => rfl) fun A outer s H ws Q E hr hw h => ?_
                    obtain ⟨a', vs', zs, rfl, z1, z2, z3, z4, z5, z6, z7, kV, kW⟩ := h
                    refine ⟨_, pe_call GH (hr.mono (by decide)) rfl mH kH bH .nil (passes_call (takes_of rfl rfl rfl rfl) fun _ _ _ _ z => z) (pa_cons (pe_call G6 (hr.mono (by decide)) rfl m6 k6 b6 .nil (passes_call (takes_of rfl rfl rfl rfl) fun _ _ _ _ z => z) (pa_cons (pv 0) pa_nil)) pa_nil), ?_⟩
                    exact ⟨_, rfl, a', vs', zs, rfl, z1, z2, z3, z4, fun p3 H3 s3 hp3 P3 => ⟨p3, zs, rfl, P3, z3, z5, z6, LamX.Tabs.ext z7 s3, fun c H4 G4 => kV c H4 ((Sh1.Grows.of s3).trans G4), fun c H4 s4 => kW c H4 (s3.trans s4)⟩⟩
                  · have Gt := G9.trans Gh
                    have qh : ∀ o, H9 q = some (.tup o) → Hh q = some (.tup o) := fun o e => Gh.ext _ _ e fun _ z => nomatch z
                    refine ⟨t2, ws2, ys, rfl, at2 Gt, stays_ext Gt.ext sv2, short2, valid2, ty, y6, Gt.tab T5, fun c HF GF => hR _ _ fun pp HG sG eG => ?_, fun c HF sF => hE _ _ _ ⟨8, rfl, .inl ⟨rfl, rfl, fun pp HG sG eG => ?_⟩⟩⟩
                    · have GG := (Gt.trans GF).trans (Sh1.Grows.of sG)
                      have qG := sG _ _ (GF.ext _ _ (qh _ (q1 c)) fun _ z => nomatch z)
                      exact ⟨_, rfl, .ref pp, .ref q, rfl, alike_two (u := .str "value") (v := .str (chartText ys)) trivial trivial eG qG, fun HJ sJ => ⟨_, rfl, iteF ⟨_, _, _, _, _, _, _, _, _, _, _, _, _, _, _, _, _, rfl, d5.keep (GG.trans (Sh1.Grows.of sJ)).ext, (GG.trans (Sh1.Grows.of sJ)).tab T5⟩⟩⟩
                    · have GG := Gt.trans (Sh1.Grows.of (sF.trans sG))
                      have qG := (sF.trans sG) _ _ (qh _ (q2 c))
                      exact ⟨_, rfl, .ref pp, .ref q, rfl, .inr ⟨pp, q, _, _, rfl, rfl, .inr ⟨eG, qG⟩, by show 1 ≤ 1000; decide, .cons (.inl ⟨trivial, rfl⟩) .nil⟩, fun HJ sJ => ⟨_, rfl, iteF ⟨_, _, _, _, _, _, _, _, _, _, _, _, _, _, _, _, _, rfl, d5.keep (GG.trans (Sh1.Grows.of sJ)).ext, (GG.trans (Sh1.Grows.of sJ)).tab T5⟩⟩⟩
        · rw [tw2, valid_iff.mpr valid] at e
          cases e
    · rintro σ H2 ⟨o2, o3, o4, o5, o6, o7, o8, o9, o10, o11, o12, o13, o14, o15, o16, o17, o18, rfl, D2, T2⟩
      exact k H2
end
end Sh1
set_option Elab.async false
set_option linter.all false
set_option maxRecDepth 100000
set_option maxHeartbeats 4000000
namespace Sh1
open PySem L2 Sho NdefX He Shh Sh4
/-! The head's facts of k46. -/
abbrev dm6 (m qual : Str) (st : Stmt) : Dn := ⟨fun K => ma K (ga K "Party") m, m, qual, st, fun _ => []⟩
abbrev dp6 (m qual : Str) (st : Stmt) : Dn := ⟨fun K => getA K (ga K "Party") m, m, qual, st, fun _ => []⟩
theorem blt_both {K : Shh.Fr} {h : Heap} {mg : Str → Option Value} (X : K.In h) (G : h.Ns mainGlobals mg) (c : freeB K bltNames = true) : Shg.Blt mg ∧ Blt mg := by
  have k : ∀ x, x ∈ bltNames → mg x = none := fun x hx => freeB_ok X G c hx
  exact ⟨blt_ok X G c, ⟨k _ (by simp), k _ (by simp), k _ (by simp), k _ (by simp), k _ (by simp), k _ (by simp), k _ (by simp), k _ (by simp), k _ (by simp), k _ (by simp), k _ (by simp)⟩⟩
theorem funS6 {K : Shh.Fr} {x qual : Str} {st : Stmt} {f : Addr} (F : FunF K x qual st [] f) : FunS K x qual st f := by
  obtain ⟨oc, od, doc, pm, an, ct, osl, lk, hcd⟩ := F.ex
  exact ⟨oc, od, doc, pm, an, _, ct, osl, lk, hcd⟩
theorem ernB_ok {K : Shh.Fr} {mg : Str → Option Value} {x : Str} (gm : mg x = some (.ref (ga K x))) (c : ernB K x = true) : ErrO K mg x (ga K x) := by
  obtain ⟨c1, c⟩ := ba c
  obtain ⟨c2, c⟩ := ba c
  obtain ⟨c3, c⟩ := ba c
  obtain ⟨c4, c5⟩ := ba c
  exact ⟨c1, gm, c2, of_decide_eq_true c3, of_decide_eq_true c4, of_decide_eq_true c5⟩
theorem errC_txt {K : Shh.Fr} {mg : Str → Option Value} {P : Program} (E : ErrF "/claim/cut.py" K "InvalidText" "row") (D : FunF K "__init__" "InvalidText.__init__" sInvalidText_Init [(("__class__" : Str), cellA K (eInit K "InvalidText"))] (eInit K "InvalidText")) (hf : P.main.file = "/claim/cut.py") (sup : mg "super" = none)
    (h2 : (P.main.scope.names.lookup ("super" : Str)).isSome = false) (gm : mg "InvalidText" = some (.ref (ga K "InvalidText"))) : ErrC P K mg "InvalidText" "row" nfTxt (ga K "InvalidText") :=
  ⟨⟨_, _, _, err_txt E D hf sup ⟨_, rfl, rfl⟩ h2 (by decide +kernel) (by decide +kernel) (by decide +kernel), E.ini, E.ity⟩, E.sup, E.xf, E.no, gm, E.exm⟩
abbrev glo46 : List Str := "PartyError" :: "DaybookError" :: "DecodeError" :: "InvalidName" :: "InvalidNumber" :: "InvalidOperation" :: "InvalidStay" :: "InvalidText" :: "TooEarly" :: "TooWide" :: "UnknownGuest" :: "Party" :: "is_name" :: "is_within" :: "is_tick" :: "is_stay" :: "lifted_from" :: "_check_stays" :: "_rows_of" :: "_is_number" :: "format_party" :: "_is_stay_row" :: "parse_party" :: "chart" :: "_law_mix" :: "_law_next" :: "_law_alike" :: "_law_outcome" :: "_law_stays" :: "_law_party" :: "_law_is_tick" :: "_law_due" :: "_law_bent" :: "bottom_up" :: "law" :: []
abbrev keep46 : List Str := ["is_name", "is_within", "is_tick", "is_stay", "lifted_from", "_check_stays", "_rows_of", "_is_number", "format_party", "_is_stay_row", "parse_party", "chart", "_law_mix", "_law_next", "_law_alike", "_law_outcome", "_law_stays", "_law_party", "_law_is_tick", "_law_due", "_law_bent", "bottom_up", "law"]
abbrev meth46 : List Str := ["__init__", "__add__", "_stay_of", "__call__", "__eq__"]
def fn46 : List Dn := [Sh4.dn "is_name" sIsName, Sh4.dn "is_within" sIsWithin, Sh4.dn "is_tick" sIsTick, Sh4.dn "is_stay" sIsStay, Sh4.dn "lifted_from" sLiftedFrom, Sh4.dn "_check_stays" sCheck, Sh4.dn "_rows_of" sRowsOf, Sh4.dn "_is_number" sIsNumber, Sh4.dn "format_party" sFormatParty, Sh4.dn "_is_stay_row" sIsStayRow, Sh4.dn "parse_party" sParseParty, Sh4.dn "chart" sChart, Sh4.dn "_law_mix" sLawMix, Sh4.dn "_law_next" sLawNext, Sh4.dn "_law_alike" sLawAlike, Sh4.dn "_law_outcome" sOut, Sh4.dn "_law_stays" sLawStays, Sh4.dn "_law_party" sLawParty, Sh4.dn "_law_is_tick" sLawIsTick, Sh4.dn "_law_due" sLawDue, Sh4.dn "_law_bent" sLawBent, Sh4.dn "bottom_up" sBottomUp, Sh4.dn "law" sLaw, dnErr "InvalidStay" "InvalidStay.__init__" sInvInit, dnErr "UnknownGuest" "UnknownGuest.__init__" sUnkInit, dnErr "InvalidText" "InvalidText.__init__" sInvalidText_Init, dm6 "__init__" "Party.__init__" sPInit, dp6 "stays" "Party.stays" sPStays, dm6 "__add__" "Party.__add__" sPAdd, dm6 "_stay_of" "Party._stay_of" sPStayOf, dm6 "__call__" "Party.__call__" sPCall, dm6 "__eq__" "Party.__eq__" sPEq]
def fa46 : List (Shh.Fr → Bool) := [fun K => gloB K glo46, fun K => freeB K bltNames, fun K => keepB K keep46, fun K => (Fa.int "LONGEST_NAME" 8).ok K, fun K => (Fa.int "LAST_TICK" 1000000000).ok K, fun K => (Fa.int "MOST_TICK_DIGITS" 10).ok K, fun K => (Fa.int "LAST_CHART_TICK" 99).ok K, fun K => tenB K, fun K => errB "/claim/cut.py" K "InvalidStay" "index", fun K => errB "/claim/cut.py" K "UnknownGuest" "name", fun K => errB "/claim/cut.py" K "InvalidText" "row", fun K => ernB K "TooWide", fun K => partyB K (ga K "Party"), fun K => propB K (ga K "Party") "stays", fun K => PySem.W.keepIn K (.ref (getA K (ga K "Party") "stays")), fun K => meth46.all fun m => dunB K (ga K "Party") m, fun K => decide (Sh4.tabA K "bottom_up" ≠ Sh4.tabA K "law"), fun K => decide (PySem.W.mroIn K (ga K "Party") (.type "object") = some true) && eqO (PySem.W.findIn K (.ref (ga K "Party")) "__ne__") (some (some (.builtin "object.__ne__")))]
def tf46 : List (Shh.Fr → Addr) := [fun K => ga K "bottom_up", fun K => ga K "law"]
abbrev T46 (K : Shh.Fr) : List (Addr × Str) := [(Sh4.tabA K "bottom_up", qBot), (Sh4.tabA K "law", qLam)]
abbrev cs46 (K : Shh.Fr) : List (Addr × Addr) := [(codeA K (ga K "bottom_up"), Sh4.tabA K "bottom_up"), (codeA K (ga K "law"), Sh4.tabA K "law")]
theorem facts46 {P : Program} {w : World} {K : Shh.Fr} {h : Heap} {mg : Str → Option Value} (X : K.In h) (G : h.Ns mainGlobals mg) (c : SaysS fa46 fn46 tf46 h K) (hf : P.main.file = "/claim/cut.py") (hs : (P.main.scope.names.lookup ("super" : Str)).isSome = false) :
    ∃ fd : FuncData, (∀ (s : Shared) (v : Value), BindsTo s fd ⟨[v], []⟩ [("_law_script", v)]) ∧ ∀ base : Heap, (∀ p ∈ cs46 K, LamX.TabB base mg p.1 p.2) → FnOk P w K mg base (L2.CX P w) 13 (ga K "law") fd ["_law_script"] (spLaw46 K (T46 K)) := by
  obtain ⟨B, B1⟩ := blt_both X G (c.fact 1)
  have g : ∀ x, x ∈ glo46 → mg x = some (.ref (ga K x)) := fun x hx => gloB_ok X G (c.fact 0) hx
  have kp : ∀ x, x ∈ keep46 → PySem.W.keepIn K (.ref (ga K x)) = true := fun x hx => keepB_ok (c.fact 2) hx
  obtain ⟨t8, g8⟩ := int_ok X G (x := "LONGEST_NAME") (i := 8) (c.fact 3)
  obtain ⟨t9, g9⟩ := int_ok X G (x := "LAST_TICK") (i := 1000000000) (c.fact 4)
  obtain ⟨tm, gM⟩ := int_ok X G (x := "MOST_TICK_DIGITS") (i := 10) (c.fact 5)
  obtain ⟨tc, gC⟩ := int_ok X G (x := "LAST_CHART_TICK") (i := 99) (c.fact 6)
  have EE : Ten K mg (ga K "PartyError") (eA K) := tenB_ok (fun x hx => g x (by
    simp at hx
    rcases hx with rfl | rfl | rfl | rfl | rfl | rfl | rfl | rfl | rfl | rfl | rfl <;> simp)) (c.fact 7)
  have EI := errB_ok (K := K) (file := "/claim/cut.py") (x := "InvalidStay") (fld := "index") (c.fact 8)
  have EU := errB_ok (K := K) (file := "/claim/cut.py") (x := "UnknownGuest") (fld := "name") (c.fact 9)
  have ET := errB_ok (K := K) (file := "/claim/cut.py") (x := "InvalidText") (fld := "row") (c.fact 10)
  have EW := ernB_ok (K := K) (g "TooWide" (by simp)) (c.fact 11)
  have PF := partyB_ok (K := K) (g "Party" (by simp)) (c.fact 12)
  have pS := propB_ok (K := K) (C := ga K "Party") (m := "stays") (c.fact 13)
  have kk : PySem.W.keepIn K (.ref (getA K (ga K "Party") "stays")) = true := c.fact 14
  have dR : (meth46.all fun m => dunB K (ga K "Party") m) = true := c.fact 15
  have d : ∀ m, m ∈ meth46 → DunF K (ga K "Party") m := fun m hm => dunB_ok (List.all_eq_true.mp dR m hm)
  have n1 : Sh4.tabA K "bottom_up" ≠ Sh4.tabA K "law" := of_decide_eq_true (c.fact 16)
  have rB : (decide (PySem.W.mroIn K (ga K "Party") (.type "object") = some true) && eqO (PySem.W.findIn K (.ref (ga K "Party")) "__ne__") (some (some (.builtin "object.__ne__")))) = true := c.fact 17
  obtain ⟨r1, r2⟩ := ba rB
  have dI := d "__init__" (by simp)
  have dA := d "__add__" (by simp)
  have dE := d "__eq__" (by simp)
  have M := dI.mkr PF.makes PF.kp
  have ECI : ErrC P K mg "InvalidStay" "index" nfInv (aInv K) := errC_inv EI (c.def_ 23 (d := dnErr "InvalidStay" "InvalidStay.__init__" sInvInit)) hf B.sup hs (g "InvalidStay" (by simp))
  have ECU : ErrC P K mg "UnknownGuest" "name" nfUnk (aUnk K) := errC_unk EU (c.def_ 24 (d := dnErr "UnknownGuest" "UnknownGuest.__init__" sUnkInit)) hf B.sup hs (g "UnknownGuest" (by simp))
  have ECT : ErrC P K mg "InvalidText" "row" nfTxt (eA K 6) := errC_txt ET (c.def_ 25 (d := dnErr "InvalidText" "InvalidText.__init__" sInvalidText_Init)) hf B.sup hs (g "InvalidText" (by simp))
  obtain ⟨fd_0, F_0, b_0, _⟩ := FunF.funW (c.def_ 0 (d := Sh4.dn "is_name" sIsName)) (kp "is_name" (by simp))
  have b_0 := b_0 ["word"] (fun _ _ _ _ _ _ us hl => match us, hl with | [_], _ => rfl)
  have m_0 := g "is_name" (by simp)
  have k_0 := kp "is_name" (by simp)
  obtain ⟨fd_1, F_1, b_1, _⟩ := FunF.funW (c.def_ 1 (d := Sh4.dn "is_within" sIsWithin)) (kp "is_within" (by simp))
  have b_1 := b_1 ["number", "low", "high"] (fun _ _ _ _ _ _ us hl => match us, hl with | [_, _, _], _ => rfl)
  have m_1 := g "is_within" (by simp)
  have k_1 := kp "is_within" (by simp)
  obtain ⟨fd_2, F_2, b_2, _⟩ := FunF.funW (c.def_ 2 (d := Sh4.dn "is_tick" sIsTick)) (kp "is_tick" (by simp))
  have b_2 := b_2 ["number"] (fun _ _ _ _ _ _ us hl => match us, hl with | [_], _ => rfl)
  have m_2 := g "is_tick" (by simp)
  have k_2 := kp "is_tick" (by simp)
  obtain ⟨fd_3, F_3, b_3, _⟩ := FunF.funW (c.def_ 3 (d := Sh4.dn "is_stay" sIsStay)) (kp "is_stay" (by simp))
  have b_3 := b_3 ["name", "come", "go"] (fun _ _ _ _ _ _ us hl => match us, hl with | [_, _, _], _ => rfl)
  have m_3 := g "is_stay" (by simp)
  have k_3 := kp "is_stay" (by simp)
  obtain ⟨fd_4, F_4, b_4, _⟩ := FunF.funW (c.def_ 4 (d := Sh4.dn "lifted_from" sLiftedFrom)) (kp "lifted_from" (by simp))
  have b_4 := b_4 ["stays", "taker"] (fun _ _ _ _ _ _ us hl => match us, hl with | [_, _], _ => rfl)
  have m_4 := g "lifted_from" (by simp)
  have k_4 := kp "lifted_from" (by simp)
  obtain ⟨fd_5, F_5, b_5, _⟩ := FunF.funW (c.def_ 5 (d := Sh4.dn "_check_stays" sCheck)) (kp "_check_stays" (by simp))
  have b_5 := b_5 ["stays", "most"] (fun _ _ _ _ _ _ us hl => match us, hl with | [_, _], _ => rfl)
  have m_5 := g "_check_stays" (by simp)
  have k_5 := kp "_check_stays" (by simp)
  obtain ⟨fd_6, F_6, b_6, _⟩ := FunF.funW (c.def_ 6 (d := Sh4.dn "_rows_of" sRowsOf)) (kp "_rows_of" (by simp))
  have b_6 := b_6 ["text"] (fun _ _ _ _ _ _ us hl => match us, hl with | [_], _ => rfl)
  have m_6 := g "_rows_of" (by simp)
  have k_6 := kp "_rows_of" (by simp)
  obtain ⟨fd_7, F_7, b_7, _⟩ := FunF.funW (c.def_ 7 (d := Sh4.dn "_is_number" sIsNumber)) (kp "_is_number" (by simp))
  have b_7 := b_7 ["word", "most"] (fun _ _ _ _ _ _ us hl => match us, hl with | [_, _], _ => rfl)
  have m_7 := g "_is_number" (by simp)
  have k_7 := kp "_is_number" (by simp)
  obtain ⟨fd_8, F_8, b_8, _⟩ := FunF.funW (c.def_ 8 (d := Sh4.dn "format_party" sFormatParty)) (kp "format_party" (by simp))
  have b_8 := b_8 ["party"] (fun _ _ _ _ _ _ us hl => match us, hl with | [_], _ => rfl)
  have m_8 := g "format_party" (by simp)
  have k_8 := kp "format_party" (by simp)
  obtain ⟨fd_9, F_9, b_9, _⟩ := FunF.funW (c.def_ 9 (d := Sh4.dn "_is_stay_row" sIsStayRow)) (kp "_is_stay_row" (by simp))
  have b_9 := b_9 ["words"] (fun _ _ _ _ _ _ us hl => match us, hl with | [_], _ => rfl)
  have m_9 := g "_is_stay_row" (by simp)
  have k_9 := kp "_is_stay_row" (by simp)
  obtain ⟨fd_10, F_10, b_10, _⟩ := FunF.funW (c.def_ 10 (d := Sh4.dn "parse_party" sParseParty)) (kp "parse_party" (by simp))
  have b_10 := b_10 ["text"] (fun _ _ _ _ _ _ us hl => match us, hl with | [_], _ => rfl)
  have m_10 := g "parse_party" (by simp)
  have k_10 := kp "parse_party" (by simp)
  obtain ⟨fd_11, F_11, b_11, _⟩ := FunF.funW (c.def_ 11 (d := Sh4.dn "chart" sChart)) (kp "chart" (by simp))
  have b_11 := b_11 ["party"] (fun _ _ _ _ _ _ us hl => match us, hl with | [_], _ => rfl)
  have m_11 := g "chart" (by simp)
  have k_11 := kp "chart" (by simp)
  obtain ⟨fd_12, F_12, b_12, _⟩ := FunF.funW (c.def_ 12 (d := Sh4.dn "_law_mix" sLawMix)) (kp "_law_mix" (by simp))
  have b_12 := b_12 ["_law_script", "_law_seed"] (fun _ _ _ _ _ _ us hl => match us, hl with | [_, _], _ => rfl)
  have m_12 := g "_law_mix" (by simp)
  have k_12 := kp "_law_mix" (by simp)
  obtain ⟨fd_13, F_13, b_13, _⟩ := FunF.funW (c.def_ 13 (d := Sh4.dn "_law_next" sLawNext)) (kp "_law_next" (by simp))
  have b_13 := b_13 ["_law_h", "_law_limit"] (fun _ _ _ _ _ _ us hl => match us, hl with | [_, _], _ => rfl)
  have m_13 := g "_law_next" (by simp)
  have k_13 := kp "_law_next" (by simp)
  obtain ⟨fd_14, F_14, b_14, _⟩ := FunF.funW (c.def_ 14 (d := Sh4.dn "_law_alike" sLawAlike)) (kp "_law_alike" (by simp))
  have b_14 := b_14 ["_law_found", "_law_due_here"] (fun _ _ _ _ _ _ us hl => match us, hl with | [_, _], _ => rfl)
  have m_14 := g "_law_alike" (by simp)
  have k_14 := kp "_law_alike" (by simp)
  obtain ⟨fd_15, F_15, b_15, _⟩ := FunF.funW (c.def_ 15 (d := Sh4.dn "_law_outcome" sOut)) (kp "_law_outcome" (by simp))
  have b_15 := b_15 ["_law_call"] (fun _ _ _ _ _ _ us hl => match us, hl with | [_], _ => rfl)
  have m_15 := g "_law_outcome" (by simp)
  have k_15 := kp "_law_outcome" (by simp)
  obtain ⟨fd_16, F_16, b_16, _⟩ := FunF.funW (c.def_ 16 (d := Sh4.dn "_law_stays" sLawStays)) (kp "_law_stays" (by simp))
  have b_16 := b_16 ["_law_h", "_law_most", "_law_last"] (fun _ _ _ _ _ _ us hl => match us, hl with | [_, _, _], _ => rfl)
  have m_16 := g "_law_stays" (by simp)
  have k_16 := kp "_law_stays" (by simp)
  obtain ⟨fd_17, F_17, b_17, _⟩ := FunF.funW (c.def_ 17 (d := Sh4.dn "_law_party" sLawParty)) (kp "_law_party" (by simp))
  have b_17 := b_17 ["_law_stays_here"] (fun _ _ _ _ _ _ us hl => match us, hl with | [_], _ => rfl)
  have m_17 := g "_law_party" (by simp)
  have k_17 := kp "_law_party" (by simp)
  obtain ⟨fd_18, F_18, b_18, _⟩ := FunF.funW (c.def_ 18 (d := Sh4.dn "_law_is_tick" sLawIsTick)) (kp "_law_is_tick" (by simp))
  have b_18 := b_18 ["_law_word"] (fun _ _ _ _ _ _ us hl => match us, hl with | [_], _ => rfl)
  have m_18 := g "_law_is_tick" (by simp)
  have k_18 := kp "_law_is_tick" (by simp)
  obtain ⟨fd_19, F_19, b_19, _⟩ := FunF.funW (c.def_ 19 (d := Sh4.dn "_law_due" sLawDue)) (kp "_law_due" (by simp))
  have b_19 := b_19 ["_law_text"] (fun _ _ _ _ _ _ us hl => match us, hl with | [_], _ => rfl)
  have m_19 := g "_law_due" (by simp)
  have k_19 := kp "_law_due" (by simp)
  obtain ⟨fd_20, F_20, b_20, _⟩ := FunF.funW (c.def_ 20 (d := Sh4.dn "_law_bent" sLawBent)) (kp "_law_bent" (by simp))
  have b_20 := b_20 ["_law_h", "_law_text"] (fun _ _ _ _ _ _ us hl => match us, hl with | [_, _], _ => rfl)
  have m_20 := g "_law_bent" (by simp)
  have k_20 := kp "_law_bent" (by simp)
  obtain ⟨fdS, FS, bS, _⟩ := FunF.funW (c.def_ 27 (d := dp6 "stays" "Party.stays" sPStays)) kk
  have bS := bS ["self"] (fun _ _ _ _ _ _ us hl => match us, hl with | [_], _ => rfl)
  obtain ⟨fdA, FA, bA, _⟩ := FunF.funW (c.def_ 28 (d := dm6 "__add__" "Party.__add__" sPAdd)) dA.kp
  have bA := bA ["self", "other"] (fun _ _ _ _ _ _ us hl => match us, hl with | [_, _], _ => rfl)
  obtain ⟨fdO, FO, bO, _⟩ := FunF.funW (c.def_ 29 (d := dm6 "_stay_of" "Party._stay_of" sPStayOf)) (d "_stay_of" (by simp)).kp
  have bO := bO ["self", "name"] (fun _ _ _ _ _ _ us hl => match us, hl with | [_, _], _ => rfl)
  obtain ⟨fdC, FC, bC, _⟩ := FunF.funW (c.def_ 30 (d := dm6 "__call__" "Party.__call__" sPCall)) (d "__call__" (by simp)).kp
  have bC := bC ["self", "name"] (fun _ _ _ _ _ _ us hl => match us, hl with | [_, _], _ => rfl)
  obtain ⟨fdQ, FQ, bQ, _⟩ := FunF.funW (c.def_ 31 (d := dm6 "__eq__" "Party.__eq__" sPEq)) dE.kp
  have bQ := bQ ["self", "other"] (fun _ _ _ _ _ _ us hl => match us, hl with | [_, _], _ => rfl)
  obtain ⟨fdB, FB, bB, _⟩ := FunF.funL (c.def_ 21 (d := Sh4.dn "bottom_up" sBottomUp))
  have bB := bB ["stays"] (fun _ _ _ _ _ _ us hl => match us, hl with | [_], _ => rfl)
  obtain ⟨fdL, FL, _, bL⟩ := FunF.funL (c.def_ 22 (d := Sh4.dn "law" sLaw))
  refine ⟨fdL, fun s v => bL ["_law_script"] (fun _ _ _ _ _ _ us hl => match us, hl with | [_], _ => rfl) s [v] rfl, fun base hT => ?_⟩
  have TB : LamX.TabB base mg (codeA K (ga K "bottom_up")) (Sh4.tabA K "bottom_up") := hT (codeA K (ga K "bottom_up"), Sh4.tabA K "bottom_up") (by simp)
  have TL : LamX.TabB base mg (codeA K (ga K "law")) (Sh4.tabA K "law") := hT (codeA K (ga K "law"), Sh4.tabA K "law") (by simp)
  have uB : ∀ p ∈ T46 K, p.1 = Sh4.tabA K "bottom_up" → p.2 = qBot := fun p hp e => by
    rcases List.mem_cons.mp hp with rfl | hp
    · rfl
    · rcases List.mem_cons.mp hp with rfl | hp
      · exact absurd e.symm n1
      · cases hp
  have uL : ∀ p ∈ T46 K, p.1 = Sh4.tabA K "law" → p.2 = qLam := fun p hp e => by
    rcases List.mem_cons.mp hp with rfl | hp
    · exact absurd e n1
    · rcases List.mem_cons.mp hp with rfl | hp
      · rfl
      · cases hp
  have G0 : FnOk P w K mg base CX0 1 _ _ _ _ := ok_isName F_0 B1 g8
  have G1 : FnOk P w K mg base CX0 1 _ _ _ _ := ok_isWithin F_1 B1
  have G2 : FnOk P w K mg base CX0 2 _ _ _ _ := ok_isTick F_2 g9 G1 m_1 k_1 b_1
  have G3 : FnOk P w K mg base CX0 3 _ _ _ _ := ok_isStay F_3 G0 m_0 k_0 b_0 G2 m_2 k_2 b_2
  have G5 : FnOk P w K mg base (L2.CX P w) 4 _ _ _ _ := ok_check F_5 B1 ECI G3 m_3 k_3 b_3
  have GI : FnR P w K mg base (L2.CX P w) 5 _ (spPNew (ga K "Party") (aInv K)) := ok_pinit (funS6 (c.def_ 26 (d := dm6 "__init__" "Party.__init__" sPInit))) PF.pc G5 m_5 k_5 b_5
  have GS : FnOk P w K mg base CX0 1 _ _ _ _ := ok_pstays FS PF.pc
  have GA : FnOk P w K mg base (L2.CX P w) 7 _ _ _ _ := ok_padd FA PF.pc M GI
  have GO : FnOk P w K mg base (L2.CX P w) 3 _ _ _ _ := ok_stayOf FO PF.pc ECU
  have GB : FnOk P w K mg base CX0 5 _ _ _ _ := ok_bottom (T := T46 K) FB B TB (by simp) uB
  have G4 : FnOk P w K mg base CX0 6 _ _ _ _ := ok_lifted (T := T46 K) F_4 GB (g "bottom_up" (by simp)) (kp "bottom_up" (by simp)) bB
  have GC : FnOk P w K mg base (L2.CX P w) 8 _ _ _ _ := ok_callP (T := T46 K) FC B PF.pc GO (d "_stay_of" (by simp)).meth bO G4 m_4 k_4 b_4
  have GQ : FnOk P w K mg base CX0 1 _ _ _ _ := ok_peq FQ B1 PF.pc
  have oC : StX.CallO K (ga K "Party") (ma K (ga K "Party") "__call__") := (d "__call__" (by simp)).callO
  have G6 : FnOk P w K mg base CX0 1 _ _ _ _ := ok_rows F_6 B
  have G7 : FnOk P w K mg base CX0 1 _ _ _ _ := ok_isNum F_7 B
  have G8 : FnOk P w K mg base CX0 4 _ _ _ _ := ok_format F_8 B PF.pc GS pS bS
  have G9 : FnOk P w K mg base CX0 2 _ _ _ _ := ok_stayRow F_9 B gM G0 m_0 k_0 b_0 G7 m_7 k_7 b_7
  have G10 : FnOk P w K mg base (L2.CX P w) 7 _ _ _ _ := ok_parse F_10 B PF.pc M GI ECT G6 m_6 k_6 b_6 G9 m_9 k_9 b_9
  have G11 : FnOk P w K mg base (L2.CX P w) 10 _ _ _ _ := ok_chart (T := T46 K) F_11 B B.max PF.pc EW gC GS pS bS GC bC oC
  have G13 : FnOk P w K mg base CX0 1 _ _ _ _ := ok_next F_13 B
  have G17 : FnOk P w K mg base (L2.CX P w) 8 _ _ _ _ := ok_partyT F_17 PF.pc M GI PF.self dA.at_ dA.isF GA bA
  have G18 : FnOk P w K mg base CX0 1 _ _ _ _ := ok_lawTick F_18 B
  exact ok_law46 (E10 := eA K) (P0 := ga K "PartyError") FL ⟨B, EE, PF.pc, ⟨_, _, ok_mix F_12 B, m_12, k_12, b_12⟩, ⟨_, _, G13, m_13, k_13, b_13⟩, ⟨_, _, ok_alike F_14 B m_14 b_14, m_14, k_14, b_14⟩, ⟨_, _, F_15, m_15, k_15, b_15⟩, ⟨_, _, ok_lawStays F_16 B G13 m_13 k_13 b_13, m_16, k_16, b_16⟩, ⟨_, _, G17, m_17, k_17, b_17⟩,
    ⟨_, _, G8, m_8, k_8, b_8⟩, ⟨_, _, G10, m_10, k_10, b_10⟩, ⟨_, _, ok_due F_19 B G18 m_18 k_18 b_18, m_19, k_19, b_19⟩, ⟨_, _, ok_bent F_20 B G13 m_13 k_13 b_13, m_20, k_20, b_20⟩, ⟨_, _, G11, m_11, k_11, b_11⟩, ⟨_, _, _, GS, pS, bS⟩, ⟨_, _, _, GC, oC, bC⟩, ⟨_, _, GQ, bQ, of_decide_eq_true r1, eqO_ok r2, dE.at_, dE.isF⟩⟩ TL (by simp) uL
end Sh1
set_option Elab.async false
set_option linter.all false
set_option maxRecDepth 100000
set_option maxHeartbeats 0
namespace Sh1
open PySem PySem.Spec PyProof.Rows L2 Sho He Shh Sh4
abbrev R46 : PySem.W.OpenRow := PySem.W.OpenLaw.row PySem.Challenge.rw_shoepile_k46_whole_texts_and_charts
abbrev hk46 : PySem.W.Hook := hookS 6 fa46 fn46 tf46
def ob46 (s : PySem.W.SharedT) : AlS := obsS 6 fa46 fn46 tf46 (HandSHeadRun.getT s)
theorem ob46_eq (s : PySem.W.SharedT) : ob46 s = hk46.obs s.abs := obsS_eq (HandSHeadRun.getT_eq s)
def looseA : List Str := ["_wall", "PartyError", "InvalidStay", "UnknownGuest", "InvalidNumber", "InvalidName", "TooEarly", "InvalidOperation", "InvalidText", "TooWide", "DaybookError", "DecodeError", "LAST_TICK", "LONGEST_NAME", "is_name", "is_within", "is_tick", "is_stay", "bottom_up", "lifted_from"]
def looseB : List Str := ["_check_stays", "Party", "MOST_TICK_DIGITS", "LAST_CHART_TICK", "_rows_of", "_is_number", "format_party", "_is_stay_row", "parse_party", "chart", "_law_mix", "_law_next", "_law_alike", "_law_outcome", "_law_stays", "_law_party", "_law_is_tick", "_law_due", "_law_bent"]
def loose46 : List Str := looseA ++ looseB
theorem run46 (w : World) : HandSHeadRun.RunEq R46 (PySem.W.view R46.prog [44]) hk46 ob46 20000 loose46 w := by
  intro os
  kernel_rfl
theorem cases2 {α : Type} {a b : α} (P : α → Prop) (pa : P a) (pb : P b) : ∀ x ∈ [a, b], P x := fun x h => by
  rcases List.mem_cons.mp h with rfl | h
  · exact pa
  · rcases List.mem_cons.mp h with rfl | h
    · exact pb
    · cases h
theorem at46 {w : World} {K : Shh.Fr} {h : Heap} {mg : Str → Option Value} {fa : Addr} (KX : K.In h) (G : h.Ns mainGlobals mg) (c : SaysS fa46 fn46 tf46 h K) (hmg : mg "law" = some (.ref fa)) :
    LamX.LawAtS PySem.Challenge.rw_shoepile_k46_whole_texts_and_charts w K (L2.CX PySem.Challenge.rw_shoepile_k46_whole_texts_and_charts.prog w) 13 63 "_law_script" mg fa h := by
  obtain ⟨fd, hb, hF⟩ := facts46 (P := PySem.Challenge.rw_shoepile_k46_whole_texts_and_charts.prog) (w := w) KX G c rfl (by decide +kernel)
  have e : fa = ga K "law" := by
    have q := hmg.symm.trans (gloB_ok KX G (xs := glo46) (c.fact 0) (x := "law") (by simp))
    injection q with q
    injection q
  subst e
  have t0 : (fun K => ga K "bottom_up") ∈ tf46 := List.mem_cons_self
  have t1 : (fun K => ga K "law") ∈ tf46 := List.mem_cons_of_mem _ List.mem_cons_self
  refine ⟨fd, cs46 K, spLaw46 K (T46 K), ?_, ?_, ?_, hb, fun H a ns hl _ ht hS => ?_, fun base _ _ hT => hF base hT⟩
  · exact cases2 (fun p : Addr × Addr => h.get? p.2 = some { cls := .none, data := .fields #[] }) (c.empty _ t0) (c.empty _ t1)
  · exact cases2 (fun p : Addr × Addr => K.lookup p.2 = none) (c.out _ t0) (c.out _ t1)
  · exact cases2 (fun p : Addr × Addr => PySem.W.CodeHd h p.1 p.2) (PySem.W.codeHd_of_K KX (c.hd _ t0)) (PySem.W.codeHd_of_K KX (c.hd _ t1))
  · refine ⟨a, ns, rfl, hS, hl, ?_, fun _ => rfl⟩
    exact cases2 (fun p : Addr × Str => LamX.TabS H p.1 p.2) (LamX.TabS.nil (ht _ List.mem_cons_self)) (LamX.TabS.nil (ht _ (List.mem_cons_of_mem _ List.mem_cons_self)))
end Sh1
open PySem PySem.W PySem.Calls PyProof.Rows
theorem PySem.Challenge.cw_shoepile_k46_whole_texts_and_charts_holds : PySem.Challenge.rw_shoepile_k46_whole_texts_and_charts.Holds := by
  w_on; o_law
  refine HandSHeadRun.head_any (r := OpenLaw.row PySem.Challenge.rw_shoepile_k46_whole_texts_and_charts) (q := view (OpenLaw.row PySem.Challenge.rw_shoepile_k46_whole_texts_and_charts).prog [44]) (H := Sh1.hk46) (ob := Sh1.ob46) (M := 20000) (loose := Sh1.loose46) (d := HandSHeadRun.topDef (OpenLaw.row PySem.Challenge.rw_shoepile_k46_whole_texts_and_charts).prog 44) (kwd := []) Sh1.ob46_eq
    (by kernel_rfl) (fun s => by kernel_rfl) Sh1.run46 (by kernel_rfl) (by kernel_rfl) (by kernel_rfl) (by rfl) (by first | assumption | decide +kernel) (by decide +kernel) ⟨rfl, rfl, rfl, rfl, rfl, by decide +kernel⟩ ?hw ?hc
  case hw => w_witness2
  case hc =>
    refine LamX.walk_ofTsE (l := PySem.Challenge.rw_shoepile_k46_whole_texts_and_charts) (n := 63) (k := 13) (x := "_law_script") (CX := fun w => L2.CX PySem.Challenge.rw_shoepile_k46_whole_texts_and_charts.prog w) rfl (by decide) (by kernel_rfl) ⟨rfl, by decide, by decide⟩ ?F ?hCX
    case hCX =>
      rintro w H s e s' ⟨a, B, H', cls, d, _, _, _, _, _, _, _, z⟩
      exact z
    case F =>
      intro w mg fa h Y G hmg0
      obtain ⟨K, KX, c⟩ := Y
      have hmg : mg ("law" : PySem.Str) = some (.ref fa) := by
        have e : (HandSHeadRun.topDef (OpenLaw.row PySem.Challenge.rw_shoepile_k46_whole_texts_and_charts).prog 44).name = ("law" : PySem.Str) := by kernel_rfl
        rw [← e]
        exact hmg0
      exact ⟨K, KX, Sh1.at46 KX G c hmg⟩
