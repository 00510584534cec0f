import PyProof.Rows.All
import Wide.All
import OpenK.AllK
import Wide.FinOn
import KE.KStateDown
import HandS.ForExc
import HandS.Defaults
import HandS.Head0
import HandS.Head1
import HandS.Head2
import HandS.HeadHook1
import HandS.HeadHook2
import HandS.HeadHook3
import HandS.HeadHook4
import HandS.HeadNt
import HandS.HeadWalk
import HandS.EndTab
import HandS.Star
import HandS.Property
import HandS.ExcField
import KE.KExcLine
import KE.KSuper
import HandS.ForMost
import HandS.FStr
import HandS.ExcInit
import HandS.ExcOwn
import HandS.Nested
import HandS.MakeKwOnly
import HandS.Walk
import HandS.More
import HandS.Lambda
import HandS.TryMany
import HandS.TupAny
import HandS.IsInst
import HandS.ClsMeth
import HandS.DeepEq
import HandS.Words
import KE.KExcIs
import HandS.SetFor
import HandS.ExcIs
import HandS.RaiseMore
import PySem.Challenge.RW_shoepile_k41_whole_habits
set_option Elab.async false
set_option linter.all false
set_option maxRecDepth 100000
set_option maxHeartbeats 4000000
/-! Own errors over ValueError: made with keywords, their __init__ with super(). -/
namespace ShX
open PySem PySem.W PySem.HandSPX
open Builtin Builtin.ObjectAttr
section
variable {M : Model} {prog : Program} {w : World} {A : Around} {E : Value → Shared → Prop} {R : Result → Shared → Prop}
variable {h : Heap} {g : Array GenState} {d : Drawn} {t : Nat} {os : OsState}
variable {nm q : Str} {C N : Addr} {bs bm bmB : List Value} {hdct : Bool} {sn : List Str} {sub : List Value} {ab : Bool} {col : Option Bool} {dd : Option Addr} {k0 k1 k2 k3 k5 : Option Value} {B newId initId : String}

theorem chk_new (F : ExcBaseFacts B newId initId bmB) (hT : ∀ X : String, bm.contains (.type X) = bmB.contains (.type X)) {kw : List (Str × Value)} {Q : Unit → Shared → Prop}
    (hC : h.get? C = some (excClassObj nm q C N bs bm hdct sn sub ab col dd k0 k1 k2 k3 k5 newId)) (hq : Q () ⟨h, g, d, t, os⟩) :
    wpAny M A (checkBuiltinCall newId ⟨[.ref C], kw⟩) Q E ⟨h, g, d, t, os⟩ := by
  have has : (Value.ref C :: bm).contains (.type B) = true := by rw [List.contains_cons, hT, F.hasB, Bool.or_true]
  have star := F.noStar
  simp only [checkBuiltinCall, F.newKind, F.newSplit, F.newRow]
  repeat (first
    | refine wpAny_loadPart_at hC ?_
    | (refine wpAny_isSubtype_exc hC ?_; rw [has])
    | refine wpAny_staticBase_exc hC ?_
    | refine wpAny_madeBy_exc hC ?_
    | simp only [bne_self_eq_false, Bool.false_eq_true, if_false]
    | wp_step)
  exact hq

/-- the new object: its args are none, the keywords go to __init__ alone -/
theorem new_kw (F : ExcBaseFacts B newId initId bmB) (hT : ∀ X : String, bm.contains (.type X) = bmB.contains (.type X)) {kw : List (Str × Value)}
    (hC : h.get? C = some (excClassObj nm q C N bs bm hdct sn sub ab col dd k0 k1 k2 k3 k5 newId))
    (hq : R (.ok (.ret (.ref (h.objs.size + 1)))) ⟨(h.push (kdv_tup [])).push (excO C h.objs.size), g, d, t, os⟩) :
    codeAny (model prog w) A (.builtin newId ⟨[.ref C], kw⟩) R ⟨h, g, d, t, os⟩ := by
  have ends := F.ends
  have has : ∀ Y : String, (Value.ref C :: bm).contains (.type Y) = bmB.contains (.type Y) := fun Y => by rw [List.contains_cons, hT]; rfl
  have yes : (Value.ref C :: bm).contains (.type B) = true := (has _).trans F.hasB
  have no1 : (Value.ref C :: bm).contains (.type "AttributeError") = false := (has _).trans F.noAttr
  have no2 : (Value.ref C :: bm).contains (.type "NameError") = false := (has _).trans F.noName
  refine codeAny_builtinAt F.entry ?_
  unfold Builtin.«BaseException.__new__»
  refine wpAt_bind ?_
  show wpAt _ _ _ (stack >>= _) _ _ _
  refine wpAt_bind (wpAt_stack fun p below => wpAt_of_wpAny ?_)
  wp_walk
  refine wpAt_of_wpAny ?_
  rw [F.owner]
  repeat (first
    | with_reducible refine wpAny_madeHere_exc F.canon hC ?_
    | with_reducible refine wpAny_loadPart_at hC ?_
    | (with_reducible refine wpAny_isSubtype_exc hC ?_; first | rw [yes] | rw [no1] | rw [no2])
    | wp_step)
  show R _ _
  rw [Heap.size_push]
  exact hq

theorem tcall_kw (F : ExcBaseFacts B newId initId bmB) (hT : ∀ X : String, bm.contains (.type X) = bmB.contains (.type X)) {kw : List (Str × Value)} {fI : Addr} {Q : Fin → Shared → Prop}
    (hC : h.get? C = some (excClassObj nm q C N bs bm hdct sn sub ab col dd k0 k1 k2 k3 k5 newId))
    (hi : Looks (model prog w) h (typeLookup (.ref C) "__init__") (some (.ref fI))) (hb : ∀ self, Looks (model prog w) h (bindSpecial (.ref fI) self) (.ref fI, [self]))
    (hq : codeAny (model prog w) A (.call (.ref fI) ⟨[.ref (h.objs.size + 1)], kw⟩)
      (fun r s' => match r with
        | .ok (.ret v) => v = .none ∧ Q (.done (.ret (.ref (h.objs.size + 1)))) s'
        | .ok _ => False
        | .error e => E e s')
      ⟨(h.push (kdv_tup [])).push (excO C h.objs.size), g, d, t, os⟩) :
    wpAny (model prog w) A (Builtin.«type.__call__» ⟨[.ref C], kw⟩) Q E ⟨h, g, d, t, os⟩ := by
  repeat (first | with_reducible refine wpAny_loadPart_at hC ?_ | with_reducible refine wpAny_madeBy_exc hC ?_ | wp_step)
  refine codeAny_call_builtin_code (Code.quiet_builtin _ F.quiet) (chk_new F hT hC ?_)
  refine new_kw F hT hC ?_
  show wpAny _ _ _ _ _ _
  have kp : ∀ b o, h.get? b = some o → ((h.push (kdv_tup [])).push (excO C h.objs.size)).get? b = some o := fun b o e => Heap.get?_push_of_some _ (Heap.get?_push_of_some _ e)
  have cls1 := kp _ _ hC
  have new1 : ((h.push (kdv_tup [])).push (excO C h.objs.size)).get? (h.objs.size + 1) = some (excO C h.objs.size) := by heap_get
  have self1 : (Value.ref C :: bm).contains (.ref C) = true := by simp
  have look1 := hi.keeps kp
  have bind1 := (hb (.ref (h.objs.size + 1))).keeps kp
  unfold isInstance
  repeat (first | with_reducible refine wpAny_loadPart_at new1 ?_ | (with_reducible refine wpAny_isSubtype_exc cls1 ?_; rw [self1]) | wp_step)
  show wpAny _ _ (typeLookup (.ref C) _) _ _ _
  refine look1.at ?_
  refine wpAny_holding (wpAny_bind (bind1.at ?_))
  refine wpAny_bind (wpAny_call (codeAny_mono hq fun r s' z => ?_))
  rcases r with e | (v | _ | _ | _) <;> first | exact z | exact z.elim | skip
  obtain ⟨rfl, z⟩ := z
  first
    | exact wpAny_pure (wpAny_pure z)
    | (wp_walk; exact z)

theorem chk_tcall {kw : List (Str × Value)} {Q : Unit → Shared → Prop} (hC : h.get? C = some (excClassObj nm q C N bs bm hdct sn sub ab col dd k0 k1 k2 k3 k5 newId))
    (hq : Q () ⟨h, g, d, t, os⟩) : wpAny M A (checkBuiltinCall "type.__call__" ⟨[.ref C], kw⟩) Q E ⟨h, g, d, t, os⟩ := by
  have f3 := tc_sub
  have hT : (⟨h, g, d, t, os⟩ : Shared).TypeIs (.ref C) "type" := ⟨_, hC, rfl⟩
  simp only [checkBuiltinCall, tc_kind, tc_split]
  repeat (any_goals (first | assumption | with_reducible refine wpAny_loadPart_at hC ?_ | with_reducible refine wpAny_onRaise ?_ | with_reducible refine wpAny_map ?_ | wp_step))

theorem call_kw (F : ExcBaseFacts B newId initId bmB) (hT : ∀ X : String, bm.contains (.type X) = bmB.contains (.type X)) {kw : List (Str × Value)} {fI : Addr}
    (hC : h.get? C = some (excClassObj nm q C N bs bm hdct sn sub ab col dd k0 k1 k2 k3 k5 newId))
    (hi : Looks (model prog w) h (typeLookup (.ref C) "__init__") (some (.ref fI))) (hb : ∀ self, Looks (model prog w) h (bindSpecial (.ref fI) self) (.ref fI, [self]))
    (hq : codeAny (model prog w) (A.under (.builtin "type.__call__" ⟨[.ref C], kw⟩)) (.call (.ref fI) ⟨[.ref (h.objs.size + 1)], kw⟩) (InitBack (h.objs.size + 1) R)
      ⟨(h.push (kdv_tup [])).push (excO C h.objs.size), g, d, t, os⟩) :
    codeAny (model prog w) A (.call (.ref C) ⟨[], kw⟩) R ⟨h, g, d, t, os⟩ := by
  have f1 := tc_lookup
  have f2 := tc_bind (.ref C)
  have hTy : (⟨h, g, d, t, os⟩ : Shared).TypeIs (.ref C) "type" := ⟨_, hC, rfl⟩
  refine codeAny_of_tree ?_
  show wpAny _ _ (callAny (.ref C) _) _ _ _
  repeat (any_goals (first | assumption | with_reducible refine wpAny_loadPart_at hC ?_ | wp_step))
  refine ⟨rfl, ?_⟩
  refine codeAny_call_builtin_at (Code.quiet_builtin _ (by decide +kernel)) entry_typeCall (chk_tcall hC (tcall_kw F hT hC hi hb ?_))
  refine codeAny_mono hq fun r s' z => ?_
  rcases r with e | (v | _ | _ | _) <;> exact z
end
end ShX

namespace ShX
open PySem PySem.W PySem.Calls PyProof.Rows PySem.HandSPX
section
variable {prog : Program} {w : World} {A : Around} {E : Value → Shared → Prop} {h : Heap} {g : Array GenState} {d : Drawn} {t : Nat} {os : OsState}
variable {nm q : Str} {C N : Addr} {bs bm : List Value} {hdct : Bool} {sn : List Str} {sub : List Value} {ab : Bool} {col : Option Bool} {dd : Option Addr} {k0 k1 k2 k3 k5 : Option Value}
abbrev veI : String := "ValueError.__init__"
/-- ValueError's __init__, bound to the exception at e, called -/
theorem call_mw {u e t0 : Addr} {rest : List Value} {Q : Value → Shared → Prop}
    (hC : h.get? C = some (excClassObj nm q C N bs bm hdct sn sub ab col dd k0 k1 k2 k3 k5 "ValueError.__new__")) (he : h.get? e = some (excO C t0))
    (hu : h.get? u = some (kxs_mw veI e)) (hz : rest.length ≤ sizeLine)
    (hq : ∀ h' t1, (∀ b o, b ≠ e → h.get? b = some o → h'.get? b = some o) → h'.get? e = some (excO C t1) → Q .none ⟨h', g, d, t, os⟩) :
    wpAny (model prog w) A (call (.ref u) rest) Q E ⟨h, g, d, t, os⟩ := by
  refine wpAny_call (codeAny_of_tree ?_)
  show wpAny _ A.in1 (callAny (.ref u) ⟨rest, []⟩) _ _ _
  simp only [callAny]
  refine wpAny_bind (wpAny_load hu ?_)
  have yes : (Value.type "method-wrapper" == Value.type "method" || Value.type "method-wrapper" == Value.type "builtin_function_or_method" || Value.type "method-wrapper" == Value.type "method-wrapper") = true := by decide
  simp only [kxs_mw, yes, if_true]
  refine KFB.if_so (by decide) ?_
  refine wpAny_bind (check_bound_init F.excBase_ValueError.toExcCallFacts hC he rfl ?_)
  refine wpAny_bind (wpAny_pure (wpAny_pure ?_))
  refine ⟨plainId_quiet F.excBase_ValueError.init.plain _, codeAny_builtin F.excBase_ValueError.initEntry ?_⟩
  exact exc_init_tree (cls := .ref C) (t0 := t0) (dv := none) (c2 := .none) (c3 := .none) (b4 := .bool false) he hz fun h' k e' _ => hq h' _ k e'
end
end ShX
set_option Elab.async false
set_option linter.all false
set_option maxRecDepth 100000
set_option maxHeartbeats 4000000

namespace Sho
open PySem PySem.Spec PyProof.Rows L2 NdefX
/-- what the written part says of an own error's __init__ at f that says super() -/
structure SupTxt (P : Program) (K : PySem.W.Frag) (mg : Str → Option Value) (F : NF) (f cc D : Addr) : Prop where
  fn : ∃ (oc : Value) (od : Option Addr) (doc pm : Value) (an : Option Addr) (ct : Value) (osl : Array (Option Value)),
    K.lookup f = some ⟨oc, od, .func (PySem.W.ksFn F.name F.qual F.params F.body F.scope .none .none doc pm an (.ref F.c) ct cc), osl⟩
  cd : PySem.W.codeIn K (.ref F.c) F.qual = true
  cell : ∃ (cl : Value) (cld : Option Addr) (csl : Array (Option Value)), K.lookup cc = some ⟨cl, cld, .cell (some (.ref D)), csl⟩
  cls : F.cl = [(("__class__" : Str), cc)]
  file : ∃ (oc : Value) (od : Option Addr) (vs : Array Value) (sl : Array (Option Value)) (fl : Str) (tf : Tok), K.lookup F.c = some ⟨oc, od, .fields vs, sl⟩ ∧ vs[2]? = some (.str fl tf) ∧ ((P.main.file : Str) == fl) = true
  first : ∃ ar : Arg, (F.params.posonlyargs ++ F.params.args).head? = some ar ∧ ar.arg = ("self" : Str)
  sup : mg "super" = none
  top : (P.main.scope.names.lookup ("super" : Str)).isSome = false
  ks : F.scope.names.lookup ("super" : Str) = some .globalImplicit
  kc : F.scope.names.lookup ("__class__" : Str) = some .free
  kse : F.scope.names.lookup ("self" : Str) = some .local
  isD : PySem.W.isClsIn K D = true
  opq : PySem.W.nsIn K cStatics "thirdparty.any" = some none
/-- the context's class: C's __init__ from D on is ValueError's -/
structure SupCls (K : PySem.W.Frag) (C D : Addr) : Prop where
  o : OexC K C
  sub : PySem.W.mroIn K C (.ref D) = some true
  nxt : PySem.W.ks_superIn K C D "__init__" = some (some (.builtin ShX.veI))
  ve : PySem.W.subIn K (.ref C) (.type "ValueError") = some true
section
variable {X : Cx} {pins : List (Addr × Obj)} {σ : L2.St} {H : Hp} {s : Shared} {F : NF} {f cc D a C : Addr}
theorem cls_at {K : PySem.W.Frag} {h : Heap} {D : Addr} (X : K.In h) (i : PySem.W.isClsIn K D = true) : ∃ (o : Obj) (cd : ClassData), h.get? D = some o ∧ o.data = .cls cd ∧ PySem.W.clsIn K D = some cd := by
  have i2 : (PySem.W.clsIn K D).isSome = true := i
  cases e : PySem.W.clsIn K D with
  | none =>
    rw [e] at i2
    cases i2
  | some cd =>
    have e0 := e
    unfold PySem.W.clsIn at e
    split at e
    · rename_i c d cd' sl ho
      cases e
      exact ⟨_, _, X _ _ ho, rfl, rfl⟩
    · cases e
/-- super().__init__(e), the exception at a being made -/
theorem sup_stmt {pl : Sem Bool} {R : Hp → Prop} {body : List Stmt} {e : Expr} {te : TA} {p0 p1 p2 p3 p4 : Pos} {Qf : PySem.Flow → Shared → Prop} {Ex : Value → Shared → Prop} (T : SupTxt X.prog X.K X.mg F f cc D) (V : SupCls X.K C D)
    (hX : X.env = envF F f X.env.locals) (I : Inv X pins σ H s) (hi : X.N[0]? = some ("self" : Str)) (hv : σ[0]? = some (some (.ref a))) (ha : H a = some (exo a C none))
    (he : PA X [e] te) (hxe : ∀ v s', X.xe v s' → Ex v s') (hq : te σ H fun xs H1 => xs.length ≤ 1000 ∧ H1 a = some (exo a C none) ∧ R H1) (hR : ∀ H1 s', Inv X pins σ H1 s' → R H1 → Qf .next s')
    (hce : eval (.Call (.Attribute (.Call (.Name "super" p0) [] [] p1) "__init__" p2) [e] [] p3) X.env = (do
      let ov ← attributeBase (.Call (.Name "super" p0) [] [] p1) "__init__" X.env (eval (.Call (.Name "super" p0) [] [] p1) X.env)
      standAt p2.atName
      let (fx, first) ← holding [ov] (getMethod ov "__init__" pl)
      callWith p3 fx first (backTo p3 (starEach [e] X.env)) []))
    (hst : starEach [e] X.env = (false, eval e X.env) :: starEach [] X.env) :
    PySem.wpAt (model X.prog X.w) X.A (.func body X.env) (exec (.Expr (.Call (.Attribute (.Call (.Name "super" p0) [] [] p1) "__init__" p2) [e] [] p3) p4) X.env) Qf Ex s := by
  obtain ⟨fc, fod, doc, pm, an, ct, osl, hf⟩ := T.fn
  obtain ⟨cl, cld, csl, hcell⟩ := T.cell
  obtain ⟨oc, od, vs, sl, fl, tf, hcode, hvs, hfile⟩ := T.file
  obtain ⟨ar, hfirst, har⟩ := T.first
  obtain ⟨oD, cdD, hD1, hD2, _⟩ := cls_at I.kIn T.isD
  obtain ⟨t0, hx⟩ := exo_at I.hok ha
  obtain ⟨nm, q, N, bs, bm, sn, sub, ab, col, dd, k0, k1, k2, k3, k5, hC, hbm⟩ := V.o.cls
  have hclC : PySem.W.clsIn X.K C = some { name := nm, bases := bs, mro := .ref C :: bm, ns := N, qualname := q, hasDict := true, slotNames := sn, subclasses := sub, abstract := ab, collection := col, hasDel := false } := by unfold PySem.W.clsIn; rw [hC] <;> rfl
  have IA : PySem.W.InstAt s.heap a ({ cls := .ref C, data := .fields #[.ref t0, .none, .none, .none, .bool false, .none] } : Obj) C none := ⟨hx, rfl, rfl, True.intro⟩
  have kD : X.env.kindOf ("self" : Str) = some .local := by rw [hX]; exact T.kse
  have selfv : ∃ m, s.heap.Ns X.env.locals m ∧ m ("self" : Str) = some (.ref a) := by
    obtain ⟨m, hm, hl⟩ := I.loc
    obtain ⟨u, ru, lk⟩ := hl 0 _ _ hi hv (.inl (by have := kD; rw [hX] at this; rw [hX]; exact this))
    obtain rfl : u = Value.ref a := ru
    rcases lk with ⟨_, e⟩ | ⟨e, _⟩
    · exact ⟨m, hm, e⟩
    · rw [kD] at e
      rcases e with e | e <;> cases e
  obtain ⟨m, hm, hself⟩ := selfv
  obtain ⟨mb, hb1, hb2⟩ := I.mod.blt
  have ek : X.env.scope.kind = .function := I.ok.kind
  have e1 : X.env.kindOf ("super" : Str) = some .globalImplicit := by rw [hX]; exact T.ks
  have e2 : X.env.kindOf ("__class__" : Str) = some .free := by rw [hX]; exact T.kc
  have e3 : X.env.cells.lookup ("__class__" : Str) = some cc := by
    rw [hX]
    show F.cl.lookup _ = _
    rw [T.cls]
    rfl
  refine ks_wpAt_Expr_any ?_ (I.quiet) (by rfl)
  refine ks_wpAt_MethodCall ?_ hce
  refine ks_wpAt_super_base (prog := X.prog) (w := X.w) (f := f) (cc := F.c) e1 e2 (by rfl) (by rw [hX]) (I.kIn _ _ hf) rfl hfirst (by rw [hX]) (I.kIn _ _ hcode) rfl hvs hfile T.top ?_
  refine PySem.W.ks_loadName_global ek e1 (PySem.Calls.loadGlobal_builtin (by rw [I.ok.glob]; exact I.mod.glob.keeps I.bk) T.sup (by rw [I.ok.blt]; exact hb1.keeps I.bk) ((hb2 _ (by decide)).trans (by decide +kernel)) ⟨rfl, ?_⟩)
  refine wpAny_loadName_free ek e2 e3 ⟨_, I.kIn _ _ hcell, rfl⟩ ?_
  rw [har]
  refine wpAny_loadName_local ek kD hm hself ?_
  refine ks_wpAny_isType_cls hD1 hD2 ⟨rfl, ?_⟩
  obtain ⟨hp, g, d, tk, os⟩ := s
  refine ks_wpAny_call_super hD1 hD2 hx rfl (fun c z => by cases z) (PySem.W.looks_mroIn I.kIn V.sub) fun h1 so1 kp1 => ?_
  have I1 : Inv X pins σ H ⟨h1, g, d, tk, os⟩ := I.kept (t' := tk) kp1
  have nx := V.nxt
  unfold PySem.W.ks_superIn at nx
  rw [hclC] at nx
  have hxC : a ≠ C := by
    rintro rfl
    have z := I.kIn _ _ hC
    have z2 : hp.get? a = some (excClassObj nm q a N bs bm true sn sub ab col dd k0 k1 k2 k3 k5 "ValueError.__new__") := z
    rw [z2] at hx
    cases hx
  have hmro : PySem.W.Looks (model X.prog X.w) h1 (mroOf (.ref C)) (.ref C :: bm) := (PySem.W.looks_clsIn I1.kIn hclC).andThen .now
  have hinst : PySem.W.Looks (model X.prog X.w) h1 (isInstance (.ref a) (.type "ValueError")) true :=
    PySem.W.Looks.andThen (PySem.W.InstAt.type (⟨kp1 _ _ hx, rfl, rfl, True.intro⟩ : PySem.W.InstAt h1 a _ C none)) (PySem.W.looks_subIn I1.kIn V.ve)
  refine PySem.W.kxs_getMethod PySem.W.kxs_ValueError so1 (PySem.W.looks_opaque I1.kIn T.opq) hmro rfl I1.kIn nx hinst hxC (by decide) ?_
  generalize hu : h1.objs.size = u
  have kp2 : ∀ b o, h1.get? b = some o → (h1.push (PySem.W.kxs_mw ShX.veI a)).get? b = some o := fun b o z => Heap.get?_push_of_some _ z
  have I2 : Inv X pins σ H ⟨h1.push (PySem.W.kxs_mw ShX.veI a), g, d, tk + 1, os⟩ := I1.kept (t' := tk + 1) kp2
  have gu : (h1.push (PySem.W.kxs_mw ShX.veI a)).get? u = some (PySem.W.kxs_mw ShX.veI a) := by rw [← hu]; exact Heap.get?_push_size _ rfl
  have fu : FpOk X pins H u := I1.fpOk (by rw [← hu]; exact Nat.le_refl _) (I1.hok.fresh (by rw [← hu]; exact Nat.le_refl _))
  have I3 : Inv X ((u, PySem.W.kxs_mw ShX.veI a) :: pins) σ H ⟨h1.push (PySem.W.kxs_mw ShX.veI a), g, d, tk + 1, os⟩ := I2.pins_of fun p hp => by
    rcases List.mem_cons.mp hp with rfl | hp
    · exact ⟨gu, fu.1, fu.2.1, fu.2.2.1, fun v z => by cases z⟩
    · exact I2.pin p (List.mem_append_right _ hp)
  refine wpAny_mono (PySem.W.kxs_callWith (i := ShX.veI) (x := a) (Q := fun _ s' => Qf .next s') (E := X.xe) (by rw [hst]; rfl) ?_) (fun _ _ z => z) hxe
  rw [hst]
  refine PySem.Calls.evalArgs_plain ?_
  have hr := he.run p3 ((u, PySem.W.kxs_mw ShX.veI a) :: pins) _ σ H _ I3 hq
  rw [hst] at hr
  refine thn hr fun us s2 ⟨xs, H2, I4, rv, hl, ha2, q⟩ => ?_
  have gu2 := (I4.pin (u, PySem.W.kxs_mw ShX.veI a) (List.mem_append_right _ List.mem_cons_self)).1
  refine ⟨gu2, ?_⟩
  obtain ⟨t2, hx2⟩ := exo_at I4.hok ha2
  obtain ⟨hp2, g2, d2, tk2, os2⟩ := s2
  refine ShX.call_mw (I4.kIn _ _ hC) hx2 gu2 ?_ fun h' t3 k3 e3 => ?_
  · show us.length ≤ sizeLine
    rw [← rv.length, sizeLine_eq]
    omega
  · have J := I4.write (t' := tk2) (x := a) (e := a) (o := exo a C none) (by rw [ha2]; exact True.intro) (.inl rfl) k3 ⟨_, e3⟩ (exo_ok e3)
    have eu : upd H2 a (exo a C none) = H2 := by
      funext b
      by_cases hb : b = a
      · rw [hb, upd_same, ha2]
      · rw [upd_ne hb]
    rw [eu] at J
    refine hR _ _ (J.pins_of fun p hp => J.pin p (by
      rcases List.mem_append.mp (List.mem_append_right X.pn hp) with z | z
      · exact List.mem_append_left _ z
      · exact List.mem_append_right _ (List.mem_cons_of_mem _ z))) q
end
section
variable {CX : CXT} {P : Program} {w : World} {K : PySem.W.Frag} {mg : Str → Option Value} {base : Heap} {N ps : List Str} {F : NF} {f cc D C a : Addr} {A : Around} {outer : List Env} {s : Shared} {H : Hp} {E : XK} {Q : VK} {us : List Value} {vs : List V} {k : Nat}
/-- the __init__ of an own error that says super() first, run: a is the exception -/
theorem run_sup {pl : Sem Bool} {args : Args} {e : Expr} {te : TA} {tr : TS} {rest : List Stmt} {p0 p1 p2 p3 p4 : Pos} (T : SupTxt P K mg F f cc D) (VC : SupCls K C D) (S : NScope N ps ["__class__"] F.scope) (hr : Room (k + 1) A) (e0 : Env0 P w K mg base A outer s H)
    (hb : ∀ doc pm an ct, BindsTo s (PySem.W.ksFn F.name F.qual F.params F.body F.scope .none .none doc pm an (.ref F.c) ct cc) args (ps.zip us)) (hl : vs.length = ps.length) (r : Vals vs us)
    (h0 : vs[0]? = some (.ref a)) (hN : N[0]? = some ("self" : Str)) (ha : H a = some (exo a C none))
    (hbody : F.body = .Expr (.Call (.Attribute (.Call (.Name "super" p0) [] [] p1) "__init__" p2) [e] [] p3) p4 :: rest)
    (he : PA (ncx CX P w K mg base N F f A outer s H E) [e] te) (hrest : PSs (ncx CX P w K mg base N F f A outer s H E) rest tr)
    (hq : te (startF N vs [none]) H fun xs H1 => xs.length ≤ 1000 ∧ H1 a = some (exo a C none) ∧ tr { nx := fun _ H' => Q .non H', rt := Q } (startF N vs [none]) H1)
    (hce : ∀ L : Addr, eval (.Call (.Attribute (.Call (.Name "super" p0) [] [] p1) "__init__" p2) [e] [] p3) (envF F f L) = (do
      let ov ← attributeBase (.Call (.Name "super" p0) [] [] p1) "__init__" (envF F f L) (eval (.Call (.Name "super" p0) [] [] p1) (envF F f L))
      standAt p2.atName
      let (fx, first) ← holding [ov] (getMethod ov "__init__" pl)
      callWith p3 fx first (backTo p3 (starEach [e] (envF F f L))) []))
    (hst : ∀ L : Addr, starEach [e] (envF F f L) = (false, eval e (envF F f L)) :: starEach [] (envF F f L)) :
    codeAny (model P w) A (.call (.ref f) args) (CR CX outer P w H s Q E) s := by
  obtain ⟨fc, fod, doc, pm, an, ct, osl, hf⟩ := T.fn
  have kin : K.In s.heap := e0.mod.kin.keeps fun b o z => (e0.bs b o z).1
  have lim : s.heap.NoLimit := e0.mod.nolimit.keeps fun b o z => (e0.bs b o z).1
  obtain ⟨cl, cld, csl, hcell⟩ := T.cell
  have hcb : base.get? cc = some ⟨cl, cld, .cell (some (.ref D)), csl⟩ := e0.mod.kin _ _ hcell
  have CA : CellsAt F.cl ["__class__"] [none] s.heap H := by
    rw [T.cls]
    have one : ∀ {y : Str} {c : Addr}, List.lookup y [(("__class__" : Str), cc)] = some c → y = "__class__" ∧ c = cc := fun {y c} z => by
      by_cases hy : y = ("__class__" : Str)
      · subst hy
        rw [List.lookup_cons_self] at z
        exact ⟨rfl, (Option.some.inj z).symm⟩
      · have q : (y == ("__class__" : Str)) = false := by simpa using hy
        rw [List.lookup_cons, q] at z
        cases z
    refine ⟨rfl, fun y c z => ?_, fun x y c z1 z2 => (one z1).1.trans (one z2).1.symm, fun i y z => ?_⟩
    · obtain ⟨_, rfl⟩ := one z
      exact ⟨(e0.bs _ _ hcb).2, _, _, (e0.bs _ _ hcb).1, rfl⟩
    · match i with
      | 0 =>
        simp at z
        subst z
        exact ⟨cc, List.lookup_cons_self, fun v z => by simp at z⟩
      | i + 1 => simp at z
  refine ks_codeAny_call_defAt (fd := PySem.W.ksFn F.name F.qual F.params F.body F.scope .none .none doc pm an (.ref F.c) ct cc) (body := F.body) (binds := ps.zip us) hr.depth (kin _ _ hf) rfl lim (PySem.W.codeRec_of kin T.cd) rfl (hb _ _ _ _)
    S.nocell (fun ⟨n, _⟩ hy => S.par n (List.of_mem_zip hy).1) (fun h₁ hns kp => ?_) S.co S.gen S.kind
  have I : Inv (ncx CX P w K mg base N F f A outer s H E) [] (startF N vs [none]) H { s with heap := h₁, toks := s.toks + (ps.zip us).length } := inv_startN S hr.hd e0 hl r CA hns kp
  have env_eq : callEnv (PySem.W.ksFn F.name F.qual F.params F.body F.scope .none .none doc pm an (.ref F.c) ct cc) s.heap.objs.size f = envF F f s.heap.objs.size := by
    show PySem.W.envX _ _ _ _ _ [(("__class__" : Str), cc)] = PySem.W.envX _ _ _ _ _ F.cl
    rw [T.cls]
  rw [env_eq]
  show PySem.wpAt (model P w) (ncx CX P w K mg base N F f A outer s H E).A (.func F.body (envF F f s.heap.objs.size)) (execs F.body (envF F f s.heap.objs.size)) _ _ _
  rw [hbody]
  refine ks_wpAt_execs_cons ?_
  have hs0 : (startF N vs [none])[0]? = some (some (.ref a)) := by
    unfold startF
    cases vs with
    | nil => simp at h0
    | cons v vs =>
      simp at h0
      subst h0
      rfl
  refine sup_stmt (X := ncx CX P w K mg base N F f A outer s H E) (Ex := (ncx CX P w K mg base N F f A outer s H E).xe) T VC rfl I hN hs0 ha he (fun _ _ z => z) hq (fun H1 s1 I1 q1 => ?_) (hce _) (hst _)
  refine wpAt_of_wpAny (wpAny_mono (hrest.run [] s1 (startF N vs [none]) H1 _ I1 q1) (fun fl s' hs => ?_) fun e s' hs => hs)
  have fin : ∀ {σ' : L2.St} {H' : Hp} {v : V} {u : Value}, Inv (ncx CX P w K mg base N F f A outer s H E) [] σ' H' s' → L2.RelV v u → Q v H' → CE outer P w H s Q u s' :=
    fun {σ' H' v u} J rv q => ⟨v, H', J.os, J.bare, J.base, J.hok, rv, q⟩
  cases fl with
  | ret u =>
    obtain ⟨v, σ', H', J, rv, q⟩ := hs
    exact fin J rv q
  | next =>
    obtain ⟨σ', H', J, q⟩ := hs
    exact fin (v := V.non) (u := Value.none) J rfl q
  | brk =>
    obtain ⟨_, _, _, q⟩ := hs
    exact False.elim q
  | cont =>
    obtain ⟨_, _, _, q⟩ := hs
    exact False.elim q
end
/-- a value that an error's message may tell -/
def Tells (v : V) : Prop := (∃ y : Str, v = .str y ∧ y.length ≤ 100000) ∨ ∃ i : Int, v = .int i ∧ i.natAbs.log2 < 1920
/-- C(f = e) -/
def tMkW (C : Addr) (fld : Str) (te : TA) : L2.St → Hp → XK → Prop := fun σ H Q => te σ H fun xs H1 => ∃ v, xs = [v] ∧ Tells v ∧ ∀ d, H1 d = none → Q (.ref C) (some d) (upd H1 d (.xd [(fld, v)]))
section
variable {X : Cx} {CX : CXT} {C f cc D : Addr} {F : NF} {k : Nat} {fld x : Str} {e msg : Expr} {kws : List Keyword} {te : TA} {p pos p0 p1 p2 p3 p4 r1 r2 r3 r4 : Pos} {pl : Sem Bool}
theorem pmk_kw (T : SupTxt X.prog X.K X.mg F f cc D) (VC : SupCls X.K C D) (XC : XfC X.K C) (hno : PySem.W.findIn X.K (.ref C) fld = some none)
    (iC : PySem.W.findIn X.K (.ref C) "__init__" = some (some (.ref f))) (tI : PySem.W.typeIn X.K (.ref f) = some (.type "function"))
    (S : NScope ["self", fld, "__class__"] ["self", fld] ["__class__"] F.scope) (hr : Room (k + 2) X.A) (hx : Passes CX X (fun _ _ _ => False)) (hg : Gl X x) (hm : X.mg x = some (.ref C))
    (hkw : PK X kws te) (hall : (backToKw pos (keywordEach kws X.env)).all (·.1.isSome) = true) (hks : (backToKw pos (keywordEach kws X.env)).filterMap (·.1) = [fld])
    (hpl : ((backTo pos (starEach [] X.env)).any (·.1) || (backToKw pos (keywordEach kws X.env)).any (·.1.isNone)) = false)
    (hbody : F.body = [.Expr (.Call (.Attribute (.Call (.Name "super" p0) [] [] p1) "__init__" p2) [msg] [] p3) p4, .Assign [.Attribute (.Name "self" r1) fld r2] (.Name fld r3) r4])
    (hb : ∀ (s : Shared) (doc pm : Value) (an : Option Addr) (ct : Value) (xa : Addr) (u : Value), BindsTo s (PySem.W.ksFn F.name F.qual F.params F.body F.scope .none .none doc pm an (.ref F.c) ct cc) ⟨[.ref xa], [(fld, u)]⟩ [(("self" : Str), .ref xa), (fld, u)])
    (hmsg : ∀ (A : Around) (outer : List Env) (s : Shared) (H : Hp) (E : XK) (xa : Addr) (v : V), Tells v → ∃ tm, PA (ncx CX X.prog X.w X.K X.mg X.base ["self", fld, "__class__"] F f A outer s H E) [msg] tm ∧
      ∀ R : List V → Hp → Prop, (∀ y : Str, R [.str y] H) → tm (startF ["self", fld, "__class__"] [.ref xa, v] [none]) H R)
    (hce : ∀ L : Addr, eval (.Call (.Attribute (.Call (.Name "super" p0) [] [] p1) "__init__" p2) [msg] [] p3) (envF F f L) = (do
      let ov ← attributeBase (.Call (.Name "super" p0) [] [] p1) "__init__" (envF F f L) (eval (.Call (.Name "super" p0) [] [] p1) (envF F f L))
      standAt p2.atName
      let (fx, first) ← holding [ov] (getMethod ov "__init__" pl)
      callWith p3 fx first (backTo p3 (starEach [msg] (envF F f L))) []))
    (hst : ∀ L : Addr, starEach [msg] (envF F f L) = (false, eval msg (envF F f L)) :: starEach [] (envF F f L))
    (hsw : ∀ L : Addr, swapsWith (.Name fld r3) (some (.Attribute (.Name "self" r1) fld r2)) r4.line (envF F f L) = pure false)
    (hf1 : (fld == ("__debug__" : Str)) = false := by decide) (hf2 : (fld == ("__classdict__" : Str)) = false := by decide)
    (hdb : (x == ("__debug__" : Str)) = false := by decide) : PMk X (.Call (.Name x p) [] kws pos) (tMkW C fld te) := by
  intro pins s σ H Q I h
  obtain ⟨nm, q, N, bs, bm, sn, sub, ab, col, dd, k0, k1, k2, k3, k5, hC, hbm⟩ := VC.o.cls
  refine wpAny_Call_Name_kw (ld_glob I hg hm ?_ hdb)
  refine PySem.W.callWith_KW0 (h₀ := X.base) I.ok.mod.kin VC.o.kC hall ?_ hpl
  refine thn (hkw.run pos pins s σ H _ I h) fun ws s1 ⟨zs, H1, I1, rz, v, ezs, hv, q1⟩ => ⟨I1.kIn, ?_⟩
  subst ezs
  cases rz with
  | @cons _ u _ _ rv rn =>
  cases rn
  rw [hks]
  obtain ⟨hp, g, dr, tk, os⟩ := s1
  have hsz : hp.objs.size ≤ hp.objs.size + 1 := Nat.le_succ _
  have hn : H1 (hp.objs.size + 1) = none := I1.hok.fresh hsz
  generalize ha : hp.objs.size + 1 = a at hn hsz
  have kk : ∀ b o, hp.get? b = some o → ((hp.push (PySem.W.kdv_tup [])).push (PySem.HandSPX.excO C hp.objs.size)).get? b = some o := fun b o e => Heap.get?_push_of_some _ (Heap.get?_push_of_some _ e)
  have hget : ((hp.push (PySem.W.kdv_tup [])).push (PySem.HandSPX.excO C hp.objs.size)).get? a = some (PySem.HandSPX.excO C hp.objs.size) := by
    rw [← ha]
    heap_get
  generalize hh2 : (hp.push (PySem.W.kdv_tup [])).push (PySem.HandSPX.excO C hp.objs.size) = h2 at kk hget
  have I2 : Inv X pins σ (upd H1 a (exo a C none)) ⟨h2, g, dr, tk, os⟩ := I1.laid (t' := tk) (a := a) (o := exo a C none) (h' := h2) kk hsz (exo_ok hget)
  obtain ⟨tm, hpm, htm⟩ := hmsg (X.A.under (.builtin "type.__call__" ⟨[.ref C], [(fld, u)]⟩)) X.stack ⟨h2, g, dr, tk, os⟩ (upd H1 a (exo a C none)) (fun _ _ _ => False) a v hv
  refine wpAny_call (ShX.call_kw PySem.F.excBase_ValueError (fun Y => PySem.HandSPX.refsVE_contains Y bm hbm) (I1.kIn _ _ hC) (PySem.W.looks_findIn I1.kIn iC) (fun self => PySem.W.bind_fn I1.kIn self tI) ?_)
  rw [ha, hh2]
  have vis0 : Vis F.scope ("self" : Str) := .inl (S.par _ List.mem_cons_self)
  have vis1 : Vis F.scope fld := .inl (S.par _ (List.mem_cons_of_mem _ List.mem_cons_self))
  refine codeAny_mono (run_sup (CX := CX) (k := k) (N := ["self", fld, "__class__"]) (ps := ["self", fld]) (us := [.ref a, u]) (vs := [.ref a, v]) (E := fun _ _ _ => False)
    (Q := fun r H2 => r = .non ∧ ∃ (d : Addr) (fs : List (Str × V)), H2 a = some (exo a C (some d)) ∧ H2 d = some (exd d fs) ∧ H1 d = none ∧ Q (.ref C) (some d) (upd (del H2 a) d (.xd fs)))
    T VC S (hr.make C [] _) (I2.env0.make C [] _) ?_ rfl (.cons rfl (.cons rv .nil)) rfl rfl upd_same hbody hpm
    (pss_one (ps_ost (pe_var (i := 0) rfl vis0) (pe_var (i := 1) rfl vis1 hf1 hf2) (hsw _))) ?_ hce hst) fun r s' hq' => ?_
  · intro doc pm an ct
    exact hb _ doc pm an ct a u
  · refine htm _ fun y => ⟨by simp, upd_same, v, rfl, .ref a, rfl, a, C, rfl, VC.o, hno, .inl ⟨upd_same, fun dx hdx ndx => ?_⟩⟩
    have hdx1 : H1 dx = none := by
      rw [upd_ne ndx] at hdx
      exact hdx
    refine ⟨rfl, dx, [(fld, v)], upd_same, ?_, hdx1, ?_⟩
    · rw [upd_ne ndx, upd_same]
    · have eH : upd (del (upd (upd (upd H1 a (exo a C none)) dx (exd dx [(fld, v)])) a (exo a C (some dx))) a) dx (.xd [(fld, v)]) = upd H1 dx (.xd [(fld, v)]) := by
        funext b
        by_cases h1 : b = dx
        · rw [h1, upd_same, upd_same]
        · rw [upd_ne h1, upd_ne h1]
          by_cases h2 : b = a
          · rw [h2, del_same, hn]
          · rw [del_ne h2, upd_ne h2, upd_ne h1, upd_ne h2]
      rw [eH]
      exact q1 dx hdx1
  · cases r with
    | error er => exact hx pins σ _ _ er s' I2 hq'
    | ok fl =>
      cases fl with
      | ret uu =>
        obtain ⟨vv, H2, os2, bare2, un2, hok2, rv2, ev, d2, fs, ea, ed, hd1, q2⟩ := hq'
        subst ev
        obtain ⟨h3, g2, dr2, t2, os'⟩ := s'
        exact ⟨rv2, mk_end (raises_own VC.o.exC VC.o.tyC) I1 hsz kk un2 hok2 os2 bare2 ea ed hd1 q2⟩
      | next => exact False.elim hq'
      | brk => exact False.elim hq'
      | cont => exact False.elim hq'
end
end Sho
set_option Elab.async false
set_option linter.all false
set_option maxRecDepth 100000
set_option maxHeartbeats 2000000
/-! The head of a law with facts: defs with and without a closure, Bools of the written part, empty tables of code objects left out. -/
namespace Shh
open PySem PySem.Spec PyProof.Rows L2 He Sho
abbrev Fr : Type := PySem.W.Frag
/-! ### a def -/
abbrev FnS : Type := Option (Str × Str × Arguments × FuncBody × Scope)
def fnS (K : Fr) (a : Addr) : FnS := match K.lookup a with
  | some ⟨_, _, .func fd, _⟩ => some (fd.name, fd.qualname, fd.params, fd.body, fd.scope)
  | _ => none
def noneB : Value → Bool
  | .none => true
  | _ => false
theorem noneB_ok {v : Value} (h : noneB v = true) : v = .none := by
  cases v with
  | none => rfl
  | _ => cases h
def fnB (K : Fr) (a : Addr) (q : Str) (cl : List (Str × Addr)) : Bool := match K.lookup a with
  | some ⟨_, _, .func fd, _⟩ => decide (fd.globals = mainGlobals) && (decide (fd.closure = cl) && (decide (fd.builtins = builtinsNs) && (noneB fd.defaults && (noneB fd.kwdefaults && PySem.W.codeIn K fd.code q))))
  | _ => false
def codeA (K : Fr) (a : Addr) : Addr := match K.lookup a with
  | some ⟨_, _, .func fd, _⟩ => (match fd.code with
    | .ref c => c
    | _ => 0)
  | _ => 0
/-- the first cell of a function's closure -/
def cellA (K : Fr) (a : Addr) : Addr := match K.lookup a with
  | some ⟨_, _, .func fd, _⟩ => (match fd.closure with
    | (_, c) :: _ => c
    | _ => 0)
  | _ => 0
structure FunF (K : Fr) (x qual : Str) (st : Stmt) (cl : List (Str × Addr)) (f : Addr) : Prop where
  ex : ∃ (oc : Value) (od : Option Addr) (doc pm : Value) (an : Option Addr) (ct : Value) (osl : Array (Option Value)),
    K.lookup f = some ⟨oc, od, .func (PySem.W.fnX x qual (defArgs st) (defBody st) (defScope st) cl .none .none doc pm an (.ref (codeA K f)) ct), osl⟩ ∧ PySem.W.codeIn K (.ref (codeA K f)) qual = true
/-- one def: where it stands, its name, qualified name, statement, closure -/
structure Dn where
  at_ : Fr → Addr
  name : Str
  qual : Str
  st : Stmt
  cl : Fr → List (Str × Addr) := fun _ => []
def Dn.val (d : Dn) : FnS := some (d.name, d.qual, defArgs d.st, .stmts (defBody d.st), defScope d.st)
def Dn.ok (K : Fr) (d : Dn) : Bool := fnB K (d.at_ K) d.qual (d.cl K)
theorem Dn.funF {K : Fr} {d : Dn} (e : fnS K (d.at_ K) = d.val) (c : d.ok K = true) : FunF K d.name d.qual d.st (d.cl K) (d.at_ K) := by
  unfold Dn.ok fnB at c
  unfold fnS at e
  have ec : ∀ fd oc od osl, K.lookup (d.at_ K) = some ⟨oc, od, .func fd, osl⟩ → ∀ c, fd.code = .ref c → codeA K (d.at_ K) = c := fun fd oc od osl q c h => by
    unfold codeA
    rw [q]
    show (match fd.code with | .ref c => c | _ => 0) = c
    rw [h]
  cases q : K.lookup (d.at_ K) with
  | none =>
    rw [q] at c
    cases c
  | some o =>
    obtain ⟨oc, od, dt, osl⟩ := o
    rw [q] at c e
    cases dt with
    | func fd =>
      have ec' := ec fd oc od osl q
      obtain ⟨n1, n2, n3, n4, n5, n6, n7, n8, n9, n10, n11, n12, n13, n14, n15⟩ := fd
      have e2 : (some (n1, n2, n3, n4, n5) : FnS) = some (d.name, d.qual, defArgs d.st, .stmts (defBody d.st), defScope d.st) := e
      simp only [Option.some.injEq, Prod.mk.injEq] at e2
      obtain ⟨h1, h2, h3, h4, h5⟩ := e2
      obtain ⟨c1, c⟩ := ba c
      obtain ⟨c2, c⟩ := ba c
      obtain ⟨c3, c⟩ := ba c
      obtain ⟨c4, c⟩ := ba c
      obtain ⟨c5, c6⟩ := ba c
      have g1 : n6 = mainGlobals := of_decide_eq_true c1
      have g2 : n7 = d.cl K := of_decide_eq_true c2
      have g3 : n15 = builtinsNs := of_decide_eq_true c3
      have g4 : n8 = .none := noneB_ok c4
      have g5 : n9 = .none := noneB_ok c5
      obtain ⟨cc, hc⟩ := codeIn_ref c6
      have hc' : n13 = .ref cc := hc
      have e3 := ec' cc hc'
      subst h1 h2 h3 h4 h5 g1 g2 g3 g4 g5 hc'
      exact ⟨oc, od, n10, n11, n12, n14, osl, by rw [e3]; exact q, by rw [e3]; exact c6⟩
    | _ => cases c
/-! ### the Hook -/
def okAll (fa : List (Fr → Bool)) (fn : List Dn) (K : Fr) : Bool := (fa.all fun f => f K) && fn.all fun d => d.ok K
def tabsS (g : Addr → Option Obj) (tf : List (Fr → Addr)) (K : Fr) : Bool := tf.all fun p => PySem.W.codeHdIn K (codeA K (p K)) (tabOf K (codeA K (p K))) && (match g (tabOf K (codeA K (p K))) with
  | some o => emptyTab o
  | none => false)
def fragS (n : Nat) (g : Addr → Option Obj) : Fr := frT g (asD g n ++ [cStatics])
abbrev AlS : Type := Bool × List FnS
def obsS (n : Nat) (fa : List (Fr → Bool)) (fn : List Dn) (tf : List (Fr → Addr)) (g : Addr → Option Obj) : AlS := (okAll fa fn (fragS n g) && tabsS g tf (fragS n g), fn.map fun d => fnS (fragS n g) (d.at_ (fragS n g)))
def valS (fn : List Dn) : AlS := (true, fn.map Dn.val)
structure SaysS (fa : List (Fr → Bool)) (fn : List Dn) (tf : List (Fr → Addr)) (h : Heap) (K : Fr) : Prop where
  fa : ∀ f ∈ fa, f K = true
  fn : ∀ d ∈ fn, FunF K d.name d.qual d.st (d.cl K) (d.at_ K)
  hd : ∀ p ∈ tf, PySem.W.codeHdIn K (codeA K (p K)) (tabOf K (codeA K (p K))) = true
  out : ∀ p ∈ tf, K.lookup (tabOf K (codeA K (p K))) = none
  empty : ∀ p ∈ tf, h.get? (tabOf K (codeA K (p K))) = some { cls := .none, data := .fields #[] }
theorem saysS_of {n : Nat} {fa : List (Fr → Bool)} {fn : List Dn} {tf : List (Fr → Addr)} {h : Heap} (e : obsS n fa fn tf h.get? = valS fn) : SaysS fa fn tf h (fragS n h.get?) := by
  have e1 : (okAll fa fn (fragS n h.get?) && tabsS h.get? tf (fragS n h.get?)) = true := congrArg (fun z : AlS => z.1) e
  have e2 : (fn.map fun d => fnS (fragS n h.get?) (d.at_ (fragS n h.get?))) = fn.map Dn.val := congrArg (fun z : AlS => z.2) e
  obtain ⟨h1, h2⟩ := ba e1
  obtain ⟨h3, h4⟩ := ba h1
  have key : ∀ p ∈ tf, PySem.W.codeHdIn (fragS n h.get?) (codeA (fragS n h.get?) (p (fragS n h.get?))) (tabOf (fragS n h.get?) (codeA (fragS n h.get?) (p (fragS n h.get?)))) = true ∧
      ∃ o, h.get? (tabOf (fragS n h.get?) (codeA (fragS n h.get?) (p (fragS n h.get?)))) = some o ∧ emptyTab o = true := fun p hp => by
    obtain ⟨h5, h6⟩ := ba (List.all_eq_true.mp h2 p hp)
    refine ⟨h5, ?_⟩
    cases q : h.get? (tabOf (fragS n h.get?) (codeA (fragS n h.get?) (p (fragS n h.get?)))) with
    | none =>
      rw [q] at h6
      cases h6
    | some o =>
      rw [q] at h6
      exact ⟨o, rfl, h6⟩
  refine ⟨fun f hf => List.all_eq_true.mp h3 f hf, fun d hd => ?_, fun p hp => (key p hp).1, fun p hp => ?_, fun p hp => ?_⟩
  · obtain ⟨i, hi, ei⟩ := List.mem_iff_getElem.mp hd
    have e3 : (fn.map fun d => fnS (fragS n h.get?) (d.at_ (fragS n h.get?)))[i]? = (fn.map Dn.val)[i]? := by rw [e2]
    rw [List.getElem?_map, List.getElem?_map, List.getElem?_eq_getElem hi, ei] at e3
    exact Dn.funF (Option.some.inj e3) (List.all_eq_true.mp h4 d hd)
  · obtain ⟨_, o, q, z⟩ := key p hp
    exact frT_none q z
  · obtain ⟨_, o, q, z⟩ := key p hp
    rw [q, emptyTab_eq z]
def hookS (n : Nat) (fa : List (Fr → Bool)) (fn : List Dn) (tf : List (Fr → Addr)) : PySem.W.Hook where
  α := AlS
  obs := fun s => obsS n fa fn tf s.heap.get?
  val := fun _ => valS fn
  says := fun _ h => ∃ K : PySem.W.Frag, K.In h ∧ SaysS fa fn tf h K
  of := fun _ _ e => ⟨_, frT_in, saysS_of e⟩
  keeps := fun _ _ _ ⟨K, hK, c⟩ k => ⟨K, PySem.W.Frag.In.keeps hK k, ⟨c.fa, c.fn, c.hd, c.out, fun p hp => k _ _ (c.empty p hp)⟩⟩
theorem obsS_eq {n : Nat} {fa : List (Fr → Bool)} {fn : List Dn} {tf : List (Fr → Addr)} {g : Addr → Option Obj} {s : Shared} (h : ∀ a, g a = s.heap.get? a) : obsS n fa fn tf g = (hookS n fa fn tf).obs s := by
  have e : g = s.heap.get? := funext h
  rw [e] <;> rfl
section
variable {fa : List (Fr → Bool)} {fn : List Dn} {tf : List (Fr → Addr)} {h : Heap} {K : Fr}
theorem SaysS.fact (c : SaysS fa fn tf h K) (i : Nat) {f : Fr → Bool} (e : fa[i]? = some f := by rfl) : f K = true := c.fa f (List.mem_of_getElem? e)
theorem SaysS.def_ (c : SaysS fa fn tf h K) (i : Nat) {d : Dn} (e : fn[i]? = some d := by rfl) : FunF K d.name d.qual d.st (d.cl K) (d.at_ K) := c.fn d (List.mem_of_getElem? e)
end
/-! ### names of the module -/
section
variable {K : Fr} {h : Heap} {mg : Str → Option Value}
def gloB (K : Fr) (xs : List Str) : Bool := xs.all fun x => eqO (PySem.W.nsIn K mainGlobals x) (some (some (.ref (ga K x))))
theorem gloB_ok (X : K.In h) (G : h.Ns mainGlobals mg) {xs : List Str} (c : gloB K xs = true) {x : Str} (hx : x ∈ xs) : mg x = some (.ref (ga K x)) := PySem.W.mg_of X G (eqO_ok (List.all_eq_true.mp c x hx))
def freeB (K : Fr) (xs : List Str) : Bool := xs.all fun x => eqO (PySem.W.nsIn K mainGlobals x) (some none)
theorem freeB_ok (X : K.In h) (G : h.Ns mainGlobals mg) {xs : List Str} (c : freeB K xs = true) {x : Str} (hx : x ∈ xs) : mg x = none := PySem.W.mg_none_of X G (eqO_ok (List.all_eq_true.mp c x hx))
def keepB (K : Fr) (xs : List Str) : Bool := xs.all fun x => PySem.W.keepIn K (.ref (ga K x))
theorem keepB_ok {xs : List Str} (c : keepB K xs = true) {x : Str} (hx : x ∈ xs) : PySem.W.keepIn K (.ref (ga K x)) = true := List.all_eq_true.mp c x hx
end
/-! ### an own error whose __init__ says super().__init__(text) and stores a field -/
def oexB (K : Fr) (C : Addr) : Bool := match K.lookup C with
  | some ⟨.type t, _, .cls cd, sl⟩ => decide (t = "type") && (decide (cd.mro.head? = some (.ref C)) && (PySem.HandSPX.refsVE cd.mro.tail && (cd.hasDict && (!cd.hasDel && (match sl.toList with
    | [_, _, _, _, some (.builtin n), _] => decide (n = "ValueError.__new__")
    | _ => false)))))
  | _ => false
theorem oexB_ok {K : Fr} {C : Addr} (h : oexB K C = true) : ∃ nm q N bs bm sn sub ab col dd k0 k1 k2 k3 k5, K.lookup C = some (excClassObj nm q C N bs bm true sn sub ab col dd k0 k1 k2 k3 k5 "ValueError.__new__") ∧ PySem.HandSPX.refsVE bm = true := by
  unfold oexB at h
  split at h
  · rename_i t dd cd sl e
    obtain ⟨h1, h⟩ := ba h
    obtain ⟨h2, h⟩ := ba h
    obtain ⟨h3, h⟩ := ba h
    obtain ⟨h4, h⟩ := ba h
    obtain ⟨h5, h6⟩ := ba h
    split at h6
    · rename_i k0 k1 k2 k3 n k5 hs
      obtain ⟨nm, bs, mro, N, q, hd, sn, sub, ab, col, hdel⟩ := cd
      have a1 : t = "type" := of_decide_eq_true h1
      have a2 : mro.head? = some (.ref C) := of_decide_eq_true h2
      have a4 : hd = true := h4
      have a5 : hdel = false := by
        cases z : hdel with
        | false => rfl
        | true =>
          have h5' : (!hdel) = true := h5
          rw [z] at h5'
          cases h5'
      have a6 : n = "ValueError.__new__" := of_decide_eq_true h6
      have a7 : sl = #[k0, k1, k2, k3, some (.builtin n), k5] := by
        have z : sl.toList.toArray = [k0, k1, k2, k3, some (.builtin n), k5].toArray := by rw [hs]
        simpa using z
      cases mro with
      | nil => cases a2
      | cons m0 bm =>
        have a8 : m0 = .ref C := Option.some.inj a2
        subst a1 a4 a5 a6 a7 a8
        exact ⟨nm, q, N, bs, bm, sn, sub, ab, col, dd, k0, k1, k2, k3, k5, e, h3⟩
    · cases h6
  · cases h
def cellB (K : Fr) (cc C : Addr) : Bool := match K.lookup cc with
  | some ⟨_, _, .cell (some (.ref D)), _⟩ => decide (D = C)
  | _ => false
theorem cellB_ok {K : Fr} {cc C : Addr} (h : cellB K cc C = true) : ∃ (cl : Value) (cld : Option Addr) (csl : Array (Option Value)), K.lookup cc = some ⟨cl, cld, .cell (some (.ref C)), csl⟩ := by
  unfold cellB at h
  split at h
  · rename_i cl cld D csl e
    rw [of_decide_eq_true h] at e
    exact ⟨cl, cld, csl, e⟩
  · cases h
def fileB (K : Fr) (c : Addr) (file : Str) : Bool := match K.lookup c with
  | some ⟨_, _, .fields vs, _⟩ => (match (vs[2]? : Option Value) with
    | some (.str fl _) => file == fl
    | _ => false)
  | _ => false
theorem fileB_ok {K : Fr} {c : Addr} {file : Str} (h : fileB K c file = true) : ∃ (oc : Value) (od : Option Addr) (vs : Array Value) (sl : Array (Option Value)) (fl : Str) (tf : Tok), K.lookup c = some ⟨oc, od, .fields vs, sl⟩ ∧ vs[2]? = some (.str fl tf) ∧ (file == fl) = true := by
  unfold fileB at h
  split at h
  · rename_i oc od vs sl e
    split at h
    · rename_i fl tf e2
      exact ⟨oc, od, vs, sl, fl, tf, e, e2, h⟩
    · cases h
  · cases h
/-- where an error's __init__ stands -/
def eInit (K : Fr) (x : Str) : Addr := ma K (ga K x) "__init__"
def errB (file : Str) (K : Fr) (x fld : Str) : Bool :=
  oexB K (ga K x) && (cellB K (cellA K (eInit K x)) (ga K x) && (fileB K (codeA K (eInit K x)) file && (PySem.W.isClsIn K (ga K x) && (eqO (PySem.W.nsIn K cStatics "thirdparty.any") (some none) &&
  (decide (PySem.W.mroIn K (ga K x) (.ref (ga K x)) = some true) && (eqO (PySem.W.ks_superIn K (ga K x) (ga K x) "__init__") (some (some (.builtin ShX.veI))) && (decide (PySem.W.subIn K (.ref (ga K x)) (.type "ValueError") = some true) &&
  (xfB K (ga K x) && (eqO (PySem.W.findIn K (.ref (ga K x)) fld) (some none) && (decide (PySem.W.exmOne K (.ref (ga K x)) (.ref (ga K x)) = some true) && (eqO (PySem.W.findIn K (.ref (ga K x)) "__init__") (some (some (.ref (eInit K x)))) &&
  (decide (PySem.W.typeIn K (.ref (eInit K x)) = some (.type "function")) && (eqO (PySem.W.findIn K (.ref (ga K x)) "__setattr__") (some (some (.builtin "object.__setattr__"))) && (decide (PySem.W.subIn K (.ref (ga K x)) (.type "BaseException") = some true) &&
  (decide (PySem.W.typeIn K (.ref (ga K x)) = some (.type "type")) && PySem.W.keepIn K (.ref (ga K x)))))))))))))))))
section
variable {K : Fr} {h : Heap} {mg : Str → Option Value} {P : Program}
/-- the pieces of errB -/
structure ErrF (file : Str) (K : Fr) (x fld : Str) : Prop where
  oex : OexC K (ga K x)
  cell : ∃ (cl : Value) (cld : Option Addr) (csl : Array (Option Value)), K.lookup (cellA K (eInit K x)) = some ⟨cl, cld, .cell (some (.ref (ga K x))), csl⟩
  file : ∃ (oc : Value) (od : Option Addr) (vs : Array Value) (sl : Array (Option Value)) (fl : Str) (tf : Tok), K.lookup (codeA K (eInit K x)) = some ⟨oc, od, .fields vs, sl⟩ ∧ vs[2]? = some (.str fl tf) ∧ (file == fl) = true
  isC : PySem.W.isClsIn K (ga K x) = true
  opq : PySem.W.nsIn K cStatics "thirdparty.any" = some none
  sup : SupCls K (ga K x) (ga K x)
  xf : XfC K (ga K x)
  no : PySem.W.findIn K (.ref (ga K x)) fld = some none
  exm : PySem.W.exmOne K (.ref (ga K x)) (.ref (ga K x)) = some true
  ini : PySem.W.findIn K (.ref (ga K x)) "__init__" = some (some (.ref (eInit K x)))
  ity : PySem.W.typeIn K (.ref (eInit K x)) = some (.type "function")
theorem errB_ok {file x fld : Str} (c : errB file K x fld = true) : ErrF file K x fld := by
  obtain ⟨c1, c⟩ := ba c
  obtain ⟨c2, c⟩ := ba c
  obtain ⟨c3, c⟩ := ba c
  obtain ⟨c4, c⟩ := ba c
  obtain ⟨c5, c⟩ := ba c
  obtain ⟨c6, c⟩ := ba c
  obtain ⟨c7, c⟩ := ba c
  obtain ⟨c8, c⟩ := ba c
  obtain ⟨c9, c⟩ := ba c
  obtain ⟨c10, c⟩ := ba c
  obtain ⟨c11, c⟩ := ba c
  obtain ⟨c12, c⟩ := ba c
  obtain ⟨c13, c⟩ := ba c
  obtain ⟨c14, c⟩ := ba c
  obtain ⟨c15, c⟩ := ba c
  obtain ⟨c16, c17⟩ := ba c
  have O : OexC K (ga K x) := ⟨oexB_ok c1, eqO_ok c14, of_decide_eq_true c15, of_decide_eq_true c16, c17⟩
  exact ⟨O, cellB_ok c2, fileB_ok c3, c4, eqO_ok c5, ⟨O, of_decide_eq_true c6, eqO_ok c7, of_decide_eq_true c8⟩, xfB_ok c9, eqO_ok c10, of_decide_eq_true c11, eqO_ok c12, of_decide_eq_true c13⟩
/-- the text of its __init__ -/
theorem err_txt {file x fld qual : Str} {st : Stmt} (E : ErrF file K x fld) (D : FunF K "__init__" qual st [(("__class__" : Str), cellA K (eInit K x))] (eInit K x)) (hf : P.main.file = file) (sup : mg "super" = none)
    (h1 : ∃ ar : Arg, ((defArgs st).posonlyargs ++ (defArgs st).args).head? = some ar ∧ ar.arg = ("self" : Str)) (h2 : (P.main.scope.names.lookup ("super" : Str)).isSome = false)
    (h3 : (defScope st).names.lookup ("super" : Str) = some .globalImplicit) (h4 : (defScope st).names.lookup ("__class__" : Str) = some .free) (h5 : (defScope st).names.lookup ("self" : Str) = some .local) :
    SupTxt P K mg ⟨"__init__", qual, defArgs st, defBody st, defScope st, [(("__class__" : Str), cellA K (eInit K x))], codeA K (eInit K x)⟩ (eInit K x) (cellA K (eInit K x)) (ga K x) := by
  obtain ⟨oc, od, doc, pm, an, ct, osl, lk, hcd⟩ := D.ex
  exact ⟨⟨oc, od, doc, pm, an, ct, osl, lk⟩, hcd, E.cell, rfl, by rw [hf]; exact E.file, h1, sup, h2, h3, h4, h5, E.isC, E.opq⟩
end
/-! ### an own error without a field, a property, an operator -/
def ernB (K : Fr) (x : Str) : Bool := PySem.W.excIn K (ga K x) veBase "ValueError.__new__" && (PySem.W.keepIn K (.ref (ga K x)) && (decide (PySem.W.subIn K (.ref (ga K x)) (.type "BaseException") = some true) && (decide (PySem.W.typeIn K (.ref (ga K x)) = some (.type "type")) &&
  decide (PySem.W.exmOne K (.ref (ga K x)) (.ref (ga K x)) = some true))))
/-- the getter of a property -/
def getA (K : Fr) (C : Addr) (m : Str) : Addr := He5.wf K C "property" m
def propB (K : Fr) (C : Addr) (m : Str) : Bool := eqO (PySem.W.findIn K (.ref C) m) (some (some (.ref (ma K C m)))) && (eqO (PySem.W.specialIn K (.ref (ma K C m)) "__get__") (some (some (.builtin "property.__get__"))) && (decide (PySem.W.takesIn K (.ref (ma K C m)) = some true) &&
  (match PySem.W.recIn K (ma K C m) "property" with
    | some (.ref _ :: _) => true
    | _ => false)))
theorem propB_ok {K : Fr} {C : Addr} {m : Str} (c : propB K C m = true) : PropOf K C m (ma K C m) (getA K C m) := by
  obtain ⟨c1, c⟩ := ba c
  obtain ⟨c2, c⟩ := ba c
  obtain ⟨c3, c4⟩ := ba c
  refine ⟨eqO_ok c1, eqO_ok c2, of_decide_eq_true c3, ?_⟩
  unfold getA He5.wf
  split at c4
  · rename_i f r e
    exact ⟨r, by rw [e]⟩
  · cases c4
/-- a def of the class under a name that Python itself looks up -/
def dunB (K : Fr) (C : Addr) (m : Str) : Bool := eqO (PySem.W.findIn K (.ref C) m) (some (some (.ref (ma K C m)))) && (PySem.W.isFn K (.ref (ma K C m)) && (PySem.W.fnIn K (ma K C m) && PySem.W.keepIn K (.ref (ma K C m))))
structure DunF (K : Fr) (C : Addr) (m : Str) : Prop where
  at_ : PySem.W.findIn K (.ref C) m = some (some (.ref (ma K C m)))
  isF : PySem.W.isFn K (.ref (ma K C m)) = true
  fn : PySem.W.fnIn K (ma K C m) = true
  kp : PySem.W.keepIn K (.ref (ma K C m)) = true
theorem dunB_ok {K : Fr} {C : Addr} {m : Str} (c : dunB K C m = true) : DunF K C m := by
  obtain ⟨c1, c⟩ := ba c
  obtain ⟨c2, c⟩ := ba c
  obtain ⟨c3, c4⟩ := ba c
  exact ⟨eqO_ok c1, c2, c3, c4⟩
theorem DunF.meth {K : Fr} {C : Addr} {m : Str} (d : DunF K C m) : Meth K C m (ma K C m) := ⟨d.at_, d.isF, d.kp⟩
theorem DunF.mkr {K : Fr} {C : Addr} (d : DunF K C "__init__") (m : PySem.W.makesIn K C = true) (k : PySem.W.keepIn K (.ref C) = true) : Mk K C (ma K C "__init__") := ⟨m, d.at_, d.isF, k⟩
theorem DunF.callO {K : Fr} {C : Addr} (d : DunF K C "__call__") : StX.CallO K C (ma K C "__call__") := ⟨d.at_, d.isF, d.fn⟩
/-! ### functions without a closure -/
section
variable {K : Fr} {x qual : Str} {st : Stmt} {f : Addr}
/-- its object -/
theorem FunF.funW (F : FunF K x qual st [] f) (kp : PySem.W.keepIn K (.ref f) = true) : ∃ fd, L2.Fun K x qual st f fd ∧ (∀ ps : List Str, (∀ (kV doc pm : Value) (an : Option Addr) (cdv ct : Value) (us : List Value), us.length = ps.length → bindArgs (PySem.W.fnOf x qual (defArgs st) (defBody st) (defScope st) .none kV doc pm an cdv ct) ⟨us, []⟩ = pure (ps.zip us)) → Binds K fd ps []) ∧
    ∀ ps : List Str, (∀ (kV doc pm : Value) (an : Option Addr) (cdv ct : Value) (us : List Value), us.length = ps.length → bindArgs (PySem.W.fnOf x qual (defArgs st) (defBody st) (defScope st) .none kV doc pm an cdv ct) ⟨us, []⟩ = pure (ps.zip us)) → ∀ (s : Shared) (us : List Value), us.length = ps.length → BindsTo s fd ⟨us, []⟩ (ps.zip us) := by
  obtain ⟨oc, od, doc, pm, an, ct, osl, lk, hcd⟩ := F.ex
  exact ⟨_, ⟨⟨oc, od, .none, doc, pm, an, _, ct, osl, rfl, lk, hcd⟩, kp⟩, fun ps h => .all (h .none doc pm an _ ct), fun ps h s us hl => .of_eq (h .none doc pm an _ ct us hl)⟩
end
end Shh
set_option Elab.async false
set_option linter.all false
set_option maxRecDepth 100000
set_option maxHeartbeats 2000000
/-! A list comprehension whose element may rest on what the block's start knows of the heap itself. -/
namespace Sho
open PySem PySem.Spec PyProof.Rows L2
section
variable {X : Cx} {scope : Scope} {fp : List Addr} {own : List (Str × Nat)}
/-- the block's environment, made at s -/
abbrev blkEnv (X : Cx) (scope : Scope) (s : Shared) : Env := compEnvC scope (cellsFrom (s.heap.objs.size + 1) scope.names (cloFrom X.env.cells scope.names [])) s.heap.objs.size X.env
abbrev blkS (scope : Scope) (s : Shared) : Shared := { s with heap := pushCells (s.heap.push { cls := .type "dict", data := .dict #[] }) scope.names }
/-- out of the block: its state is one of the def's -/
theorem blk_out {pins : List (Addr × Obj)} {σ σ' : L2.St} {H H' : Hp} {s s' : Shared} (I : Inv X pins σ H s) (hfp : ∀ b ∈ fp, FpOk X pins H b)
    (J : Inv (X.blk s H scope (blkEnv X scope s) fp) [] σ' H' s') : Inv X pins σ H' s' ∧ ∃ m, s'.heap.Ns s.heap.objs.size m ∧ FpOk X pins H' s.heap.objs.size := by
  obtain ⟨m, hm, _⟩ := J.loc
  refine ⟨I.call' (ch := fp) J.os J.base J.hok J.bare fun b hb => ?_, m, hm, I.fpOk (Nat.le_refl _) J.free⟩
  obtain ⟨_, z1, z2, z3, z4, z5⟩ := hfp b hb
  exact ⟨z3, z1, z4, z5⟩
/-- a tracked list that grows -/
theorem grow {pins : List (Addr × Obj)} {σ : L2.St} {H : Hp} {s : Shared} (I : Inv X pins σ H s) :
    Inv X pins σ (upd H s.heap.objs.size (.lst [])) { s with heap := s.heap.push { cls := .type "list", data := .seq ([] : List Value).toArray } } :=
  I.laid (t' := s.toks) (fun b o e => Heap.get?_push_of_some _ e) (Nat.le_refl _) ⟨Nat.zero_le _, [], 0, .nil, Heap.get?_push_size _ rfl⟩

/-- the block's loop, by the readings of its target, tests and element -/
theorem lc_loop {B : Cx} {R : Result → Shared → Prop} {elt tg iter : Expr} {ifs : List Expr} {pos : Pos} {g : TG} {tt : TT} {te : TE} {J : It} {it D : Addr} {tn : Nat → Heap → Prop} {W : Nat → Nat → Hp → Prop} {σ : L2.St} {vs : List Nat}
    (hc : B.calm = true) (hxe : B.xe = fun _ _ => False) (T : Turn B.prog B.w B.K tg J fp it tn) (pg : PG B tg g) (pt : PTs B ifs tt) (pe : PE B elt te)
    (fpok : ∀ (pins : List (Addr × Obj)) (τ : L2.St) (H : Hp) (s : Shared), Inv B [] τ H s → (∀ b ∈ fp, H b = none) → ∀ b ∈ fp, FpOk B [] H b)
    (turn : ∀ (i m : Nat) (H : Hp), W i m H → (J.stop i H ∧ ∀ s, Inv B [] σ H s → R (.ok .next) s) ∨
      (J.go i H ∧ ∃ Nx : Hp → Prop, (∀ H', Nx H' → ∃ m', m' < m ∧ W (i + 1) m' H') ∧ ∀ x H', J.yld i H x H' → g x σ H' fun σ2 H2 => wipe σ2 vs = σ ∧ tt σ2 H2 fun b H3 =>
        if b = true then te σ2 H3 fun y H4 => ∃ acc, H4 D = some (.lst acc) ∧ acc.length < sizeLine ∧ Nx (upd H4 D (.lst (acc ++ [y]))) else Nx H3))
    {m : Nat} {H : Hp} {s : Shared} (I : Inv B [] σ H s) (st : tn 0 s.heap) (hn : ∀ b ∈ fp, H b = none) (w : W 0 m H) :
    codeAny (model B.prog B.w) B.A (.compLoop (.ListComp elt [⟨tg, iter, ifs, 0⟩] scope pos) 0 (.ref it) (.ref D) B.env) R s := by
  refine compLoop_any (fun n s' => ∃ i H', Inv B [] σ H' s' ∧ tn i s'.heap ∧ (∀ b ∈ fp, H' b = none) ∧ W i n H') ?_ m ⟨0, H, I, st, hn, w⟩
  rintro n s5 ⟨i, H5, I5, st5, n5, w5⟩
  rcases turn i n H5 w5 with ⟨stop, fin⟩ | ⟨go, Nx, less, step⟩
  · refine thnF (T.done B rfl rfl rfl hc i [] s5 σ H5 (fun _ _ => False) I5 (fpok [] _ _ _ I5 n5) st5 stop) fun r s6 x => ?_
    obtain ⟨rfl, I6⟩ := x
    exact fin _ I6
  · refine thnF (T.item B rfl rfl rfl hc i [] s5 σ H5 (fun _ _ => False) I5 (fpok [] _ _ _ I5 n5) st5 go) fun r s6 x => ?_
    obtain ⟨u, rfl, x⟩ := x
    refine thnF x fun _ s7 y => ?_
    obtain ⟨v, H7, I7, rv, yl, st7, n7⟩ := y
    have P7 := I7.pinned (fpok [] _ _ _ I7 n7) (T.obj _ _ st7)
    have pg1 := pg.run _ s7 σ H7 v u _ P7 rv (step v H7 yl)
    rw [hxe] at pg1
    refine thnF pg1 fun _ s8 x8 => ?_
    obtain ⟨σ8, H8, I8, back, q8⟩ := x8
    have pt1 := pt.run _ s8 σ8 H8 _ I8 q8
    rw [hxe] at pt1
    refine thnF pt1 fun b s9 x9 => ?_
    obtain ⟨H9, I9, q9⟩ := x9
    have next : ∀ (H' : Hp) (s' : Shared), Inv B ([] ++ pinsAt fp s7.heap) σ8 H' s' → Nx H' → ∃ m, m < n ∧ ∃ i H', Inv B [] σ H' s' ∧ tn i s'.heap ∧ (∀ b ∈ fp, H' b = none) ∧ W i m H' := fun H' s' I' nx => by
      obtain ⟨m', lt, w'⟩ := less H' nx
      have stay : ∀ b ∈ fp, ∀ o, s7.heap.get? b = some o → s'.heap.get? b = some o ∧ H' b = none := fun b hb o e => by
        have z := I'.pin (b, o) (List.mem_append_right _ (List.mem_append_right _ (mem_pinsAt hb e)))
        exact ⟨z.1, z.2.1⟩
      have lens : σ.length = σ8.length := by rw [← back, wipe_length]
      refine ⟨m', lt, i + 1, H', (I'.unpinned (pins := [])).weak lens (fun j v e => ?_), T.keep _ _ _ st7 fun b hb o e => (stay b hb o e).1, fun b hb => ?_, w'⟩
      · rw [← back] at e
        exact (wipe_some e).1
      · obtain ⟨o, e, _⟩ := T.obj _ _ st7 b hb
        exact (stay b hb o e).2
    cases b with
    | false =>
      rw [if_neg Bool.false_ne_true] at q9
      rw [if_neg Bool.false_ne_true]
      exact next _ _ I9 q9
    | true =>
      rw [if_pos rfl] at q9
      rw [if_pos rfl]
      have pe1 := pe.run _ s9 σ8 H9 _ I9 q9
      rw [hxe] at pe1
      refine thnF pe1 fun z s10 x10 => ?_
      obtain ⟨yv, H10, I10, r10, acc, hD, hz, nx⟩ := x10
      exact app_ok (X := B) I10 hD hz r10 fun s11 I11 => next _ _ I11 nx
/-- P: what the start of the block knows, of the slots and of the state; te: the element's reading, by the slots -/
theorem pe_lcS {P : L2.St → Shared → Hp → Prop} {elt tg iter : Expr} {ifs : List Expr} {pos : Pos} {wi : TI} {g : TG} {tt : TT} {te : L2.St → TE} (hc : X.calm = true) (hN : X.N.Nodup) (hi : PI X tg iter wi) (ok : BlkOk X.N X.env.scope scope own)
    (hP : ∀ (pins : List (Addr × Obj)) (σ : L2.St) (H : Hp) (s : Shared), Inv X pins σ H s → P σ s H)
    (hg : ∀ (s : Shared) (H : Hp) (C : Addr) (cl : List (Str × Addr)) (fp : List Addr), PG (X.blk s H scope (compEnvC scope cl C X.env) fp) tg g)
    (ht : ∀ (s : Shared) (H : Hp) (C : Addr) (cl : List (Str × Addr)) (fp : List Addr), PTs (X.blk s H scope (compEnvC scope cl C X.env) fp) ifs tt)
    (he : ∀ (σ : L2.St) (s : Shared) (H : Hp) (C : Addr) (cl : List (Str × Addr)) (fp : List Addr), P σ s H → (∀ b ∈ fp, ∃ o, s.heap.get? b = some o ∧ ∀ v, o.data ≠ .cell v) → PE (X.blk s H scope (compEnvC scope cl C X.env) fp) elt (te σ)) (hs : ∀ x, foldedSetIterable iter X.env x = pure x := by intro _; rfl) :
    PE X (.ListComp elt [⟨tg, iter, ifs, 0⟩] scope pos) (fun σ H Q => tLc wi g tt (te σ) (own.map (·.2)) σ H Q) := by
  refine ⟨fun pins s σ H Q I h => ?_⟩
  rw [eval_ListComp]
  have clo : ∀ y ∈ scope.names, y.2 = .free → ∃ c, X.env.cells.lookup y.1 = some c := fun y hy e => (ok.free y hy e).elim (fun k => I.ok.has _ (.inl k)) fun k => I.ok.has _ (.inr k)
  refine wpAny_comprehension_free (use := none) rfl hs (closure_ok clo) ok.kind (fun y hy e => (ok.uniq y hy).trans (congrArg some e))
    (thn (hi.run pins s σ H _ I h) fun xv s1 hx => thn hx fun itv s2 h2 => ?_)
  obtain ⟨it, fp, tn, J, H2, rfl, I2, T, st2, f2, q⟩ := h2
  refine wpAny_newObj_type (newEnv_comp ?_) (show 0 ≤ sizeLine by decide)
  have hDn : H2 s2.heap.objs.size = none := I2.hok.fresh (Nat.le_refl _)
  obtain ⟨W, ⟨m0, w0⟩, turn⟩ := q _ hDn
  have I3 := grow I2
  have old : ∀ b ∈ fp, b < s2.heap.objs.size := fun b hb => (T.obj _ _ st2 b hb).elim fun o e => Heap.lt_size e.1
  generalize hD : s2.heap.objs.size = D at *
  generalize hs3 : ({ s2 with heap := s2.heap.push { cls := .type "list", data := .seq ([] : List Value).toArray } } : Shared) = s3 at *
  have k3 : ∀ b o, s2.heap.get? b = some o → s3.heap.get? b = some o := fun b o e => by
    rw [← hs3]
    exact Heap.get?_push_of_some _ e
  have z3 : s3.heap.objs.size = D + 1 := by
    rw [← hs3, ← hD]
    exact Heap.size_push ..
  have st3 : tn 0 s3.heap := T.keep _ _ _ st2 fun b _ o e => k3 b o e
  have f3 : ∀ b ∈ fp, FpOk X pins (upd H2 D (.lst [])) b ∧ b < s3.heap.objs.size := fun b hb =>
    ⟨⟨(upd_ne (Nat.ne_of_lt (old b hb))).trans (f2 b hb).1, (f2 b hb).2⟩, by rw [z3]; exact Nat.lt_succ_of_lt (old b hb)⟩
  generalize hH3 : upd H2 D (.lst []) = H3 at *
  have know := hP pins σ H3 s3 I3
  have I4 := block_start I3 ok hN f3
  have pe := he σ s3 H3 s3.heap.objs.size (cellsFrom (s3.heap.objs.size + 1) scope.names (cloFrom X.env.cells scope.names [])) fp know (T.obj _ _ st3)
  have pg := hg s3 H3 s3.heap.objs.size (cellsFrom (s3.heap.objs.size + 1) scope.names (cloFrom X.env.cells scope.names [])) fp
  have pt := ht s3 H3 s3.heap.objs.size (cellsFrom (s3.heap.objs.size + 1) scope.names (cloFrom X.env.cells scope.names [])) fp
  show codeAny _ _ (.compStart (.ListComp elt [⟨tg, iter, ifs, 0⟩] scope pos) 0 (.ref it) (.ref D) (blkEnv X scope s3)) (compPost (model X.prog X.w) X.A X.xe none _ (.ref D) s3.heap.objs.size) (blkS scope s3)
  have st4 : tn 0 (blkS scope s3).heap := T.keep _ _ _ st3 fun b _ o e => pushCells_keeps _ _ _ _ (Heap.get?_push_of_some _ e)
  have nfp : ∀ b ∈ fp, H3 b = none := fun b hb => (f3 b hb).1.1
  have loop : codeAny (model X.prog X.w) X.A (.compLoop (.ListComp elt [⟨tg, iter, ifs, 0⟩] scope pos) 0 (.ref it) (.ref D) (blkEnv X scope s3))
      (compPost (model X.prog X.w) X.A X.xe none (EP X pins σ Q) (.ref D) s3.heap.objs.size) (blkS scope s3) := by
    refine lc_loop (B := X.blk s3 H3 scope (blkEnv X scope s3) fp) (σ := wipe σ (own.map (·.2))) (vs := own.map (·.2)) (W := W) hc rfl T pg pt pe (fun _ τ H' s' J' n' b hb => ?_) (fun i m H' w' => ?_) I4 st4 nfp w0
    · refine ⟨n' b hb, (J'.ok.exf b hb).1, J'.ok.exfs b hb, .inl hb, fun x c e => (J'.ok.exf b hb).2 x c e, fun p hp => ?_⟩
      exact absurd (show p ∈ ([] : List (Addr × Obj)) ++ [] from hp) (by simp)
    · rcases turn i m H' w' with ⟨a, b⟩ | ⟨a, Nx, b, c⟩
      · refine .inl ⟨a, fun s' J' => ?_⟩
        obtain ⟨I6, m6, ns6, f6⟩ := blk_out I3 (fun b hb => (f3 b hb).1) J'
        obtain ⟨f0, f1, f2, f3', f4, f5⟩ := f6
        exact ⟨m6, ns6, fun h'' sb => ⟨.ref D, H', I6.turned (t' := s'.toks) (fun b o hb e => (sb.2 b hb).trans e) f0 f1 f3' f4 f5, rfl, b⟩⟩
      · exact .inr ⟨a, Nx, b, c⟩
  exact codeAny_compStart_list loop (T.self X.A 0 _ _ _ st4 loop)
end

/-! ### what a comprehension gathers -/
section
/-- the values of the first n turns -/
def gather (f : Nat → Option V) (n : Nat) : List V := (List.range n).filterMap f
theorem gather_zero (f : Nat → Option V) : gather f 0 = [] := rfl
theorem gather_some {f : Nat → Option V} {n : Nat} {y : V} (h : f n = some y) : gather f (n + 1) = gather f n ++ [y] := by
  unfold gather
  rw [List.range_succ, List.filterMap_append]
  simp [h]
theorem gather_none {f : Nat → Option V} {n : Nat} (h : f n = none) : gather f (n + 1) = gather f n := by
  unfold gather
  rw [List.range_succ, List.filterMap_append]
  simp [h]
theorem gather_len (f : Nat → Option V) (n : Nat) : (gather f n).length ≤ n := by
  unfold gather
  exact Nat.le_trans (List.length_filterMap_le ..) (by simp)
/-- over a list: the items kept, each made anew -/
theorem gather_take {α : Type} (xs : List α) (p : α → Option V) : ∀ n, n ≤ xs.length → gather (fun i => (xs[i]?).bind p) n = (xs.take n).filterMap p
  | 0, _ => rfl
  | n + 1, h => by
    have ih := gather_take xs p n (by omega)
    have hn : xs[n]? = some (xs[n]'(by omega)) := List.getElem?_eq_getElem (by omega)
    rw [List.take_add_one, hn, List.filterMap_append, ← ih]
    cases e : p (xs[n]'(by omega)) with
    | none =>
      rw [gather_none (by rw [hn]; exact e)]
      simp [e]
    | some y =>
      rw [gather_some (y := y) (by rw [hn]; exact e)]
      simp [e]
theorem gather_list {α : Type} (xs : List α) (p : α → Option V) : gather (fun i => (xs[i]?).bind p) xs.length = xs.filterMap p := by
  rw [gather_take xs p _ (Nat.le_refl _), List.take_length]
theorem gather_map {α : Type} (xs : List α) (f : α → V) : gather (fun i => (xs[i]?).map f) xs.length = xs.map f := by
  have e : (fun i : Nat => (xs[i]?).map f) = fun i : Nat => (xs[i]?).bind fun x => some (f x) := by
    funext i
    cases xs[i]? <;> rfl
  rw [e, gather_list]
  simp
theorem gather_fn (f : Nat → V) (n : Nat) : gather (fun i => some (f i)) n = (List.range n).map f := by
  unfold gather
  simp
/-- a comprehension whose turns leave what is known: f i, what the i-th turn gives -/
theorem lc_gather {J : It} {n : Nat} {G : Hp → Prop} {Y : Nat → Hp → V → Hp → Prop} (w : Walk J n G Y) {g : TG} {tt : TT} {te : TE} {vs : List Nat} {σ : L2.St} {H1 : Hp} {D : Addr} {Qd : Hp → Prop} (f : Nat → Option V) (hD : H1 D = none) (hz : n ≤ sizeLine)
    (hG : ∀ H, Same H1 H → G H)
    (hs : ∀ i x H H', i < n → Same H1 H → Y i H x H' → ∀ R : Option V → Hp → Prop, (∀ H4, Same H H4 → R (f i) H4) →
      g x (wipe σ vs) H' fun σ2 H2 => wipe σ2 vs = wipe σ vs ∧ tt σ2 H2 fun b H3 => if b = true then te σ2 H3 fun y H4 => R (some y) H4 else R none H3)
    (hd : ∀ H, Same H1 H → H D = some (.lst (gather f n)) → Qd H) :
    ∃ W : Nat → Nat → Hp → Prop, (∃ m, W 0 m (upd H1 D (.lst []))) ∧ ∀ i m H, W i m H →
      (J.stop i H ∧ Qd H) ∨ (J.go i H ∧ ∃ Nx : Hp → Prop, (∀ H', Nx H' → ∃ m', m' < m ∧ W (i + 1) m' H') ∧ ∀ x H', J.yld i H x H' → g x (wipe σ vs) H' fun σ2 H2 => wipe σ2 vs = wipe σ vs ∧ tt σ2 H2 fun b H3 =>
        if b = true then te σ2 H3 fun y H4 => ∃ acc, H4 D = some (.lst acc) ∧ acc.length < sizeLine ∧ Nx (upd H4 D (.lst (acc ++ [y]))) else Nx H3) := by
  have s0 : ∀ o, Same H1 (upd H1 D o) := fun o b u e => by rw [upd_ne (ne_of_none e hD)]; exact e
  refine lc_it w (fun i H => Same H1 H ∧ H D = some (.lst (gather f i))) ⟨s0 _, upd_same⟩ (fun i H _ p => hG H p.1) (fun i x H H' hi p y => ?_) fun H p => hd H p.1 p.2
  obtain ⟨p1, p2⟩ := p
  refine hs i x H H' hi p1 y (fun oy H4 => match oy with
    | some y => ∃ acc, H4 D = some (.lst acc) ∧ acc.length < sizeLine ∧ Same H1 (upd H4 D (.lst (acc ++ [y]))) ∧ upd H4 D (.lst (acc ++ [y])) D = some (.lst (gather f (i + 1)))
    | none => Same H1 H4 ∧ H4 D = some (.lst (gather f (i + 1)))) fun H4 q => ?_
  have p4 := p1.trans q
  cases e : f i with
  | none => exact ⟨p4, by rw [gather_none e]; exact q _ _ p2⟩
  | some y =>
    refine ⟨gather f i, q _ _ p2, Nat.lt_of_le_of_lt (gather_len f i) (Nat.lt_of_lt_of_le hi hz), fun b u z => ?_, by rw [upd_same, gather_some e]⟩
    rw [upd_ne (ne_of_none z hD)]
    exact p4 b u z
/-- .. without tests -/
theorem lc_map {J : It} {n : Nat} {G : Hp → Prop} {Y : Nat → Hp → V → Hp → Prop} (w : Walk J n G Y) {g : TG} {te : TE} {vs : List Nat} {σ : L2.St} {H1 : Hp} {D : Addr} {Qd : Hp → Prop} (f : Nat → Option V) (hD : H1 D = none) (hz : n ≤ sizeLine)
    (hG : ∀ H, Same H1 H → G H)
    (hs : ∀ i x H H', i < n → Same H1 H → Y i H x H' → ∀ R : V → Hp → Prop, (∀ y H4, Same H H4 → f i = some y → R y H4) →
      g x (wipe σ vs) H' fun σ2 H2 => wipe σ2 vs = wipe σ vs ∧ te σ2 H2 R) (hf : ∀ i, i < n → ∃ y, f i = some y)
    (hd : ∀ H, Same H1 H → H D = some (.lst (gather f n)) → Qd H) :
    ∃ W : Nat → Nat → Hp → Prop, (∃ m, W 0 m (upd H1 D (.lst []))) ∧ ∀ i m H, W i m H →
      (J.stop i H ∧ Qd H) ∨ (J.go i H ∧ ∃ Nx : Hp → Prop, (∀ H', Nx H' → ∃ m', m' < m ∧ W (i + 1) m' H') ∧ ∀ x H', J.yld i H x H' → g x (wipe σ vs) H' fun σ2 H2 => wipe σ2 vs = wipe σ vs ∧ tYes σ2 H2 fun b H3 =>
        if b = true then te σ2 H3 fun y H4 => ∃ acc, H4 D = some (.lst acc) ∧ acc.length < sizeLine ∧ Nx (upd H4 D (.lst (acc ++ [y]))) else Nx H3) := by
  refine lc_gather w f hD hz hG (fun i x H H' hi s y R k => ?_) hd
  have z := hs i x H H' hi s y (fun y H4 => R (some y) H4) fun y H4 q e => by
    have := k H4 q
    rw [e] at this
    exact this
  exact z
/-- .. whose turns make new things: Rl i y H, what holds of the i-th -/
theorem lc_rel {J : It} {n : Nat} {G : Hp → Prop} {Y : Nat → Hp → V → Hp → Prop} (w : Walk J n G Y) {g : TG} {te : TE} {vs : List Nat} {σ : L2.St} {H1 : Hp} {D : Addr} {Qd : Hp → Prop} (Rl : Nat → V → Hp → Prop) (hD : H1 D = none) (hz : n ≤ sizeLine)
    (hG : ∀ H, Same H1 H → G H) (stable : ∀ i y H H', (∀ b xs, H b = some (.tup xs) → H' b = some (.tup xs)) → Rl i y H → Rl i y H')
    (hs : ∀ i x H H', i < n → Same H1 H → Y i H x H' → ∀ R : V → Hp → Prop, (∀ y H4, Same H H4 → Rl i y H4 → R y H4) →
      g x (wipe σ vs) H' fun σ2 H2 => wipe σ2 vs = wipe σ vs ∧ te σ2 H2 R)
    (hd : ∀ H ys, Same H1 H → H D = some (.lst ys) → ys.length = n → (∀ i y, ys[i]? = some y → Rl i y H) → Qd H) :
    ∃ W : Nat → Nat → Hp → Prop, (∃ m, W 0 m (upd H1 D (.lst []))) ∧ ∀ i m H, W i m H →
      (J.stop i H ∧ Qd H) ∨ (J.go i H ∧ ∃ Nx : Hp → Prop, (∀ H', Nx H' → ∃ m', m' < m ∧ W (i + 1) m' H') ∧ ∀ x H', J.yld i H x H' → g x (wipe σ vs) H' fun σ2 H2 => wipe σ2 vs = wipe σ vs ∧ tYes σ2 H2 fun b H3 =>
        if b = true then te σ2 H3 fun y H4 => ∃ acc, H4 D = some (.lst acc) ∧ acc.length < sizeLine ∧ Nx (upd H4 D (.lst (acc ++ [y]))) else Nx H3) := by
  have s0 : ∀ o, Same H1 (upd H1 D o) := fun o b u e => by rw [upd_ne (ne_of_none e hD)]; exact e
  refine lc_it w (fun i H => Same H1 H ∧ ∃ ys, H D = some (.lst ys) ∧ ys.length = i ∧ ∀ j y, ys[j]? = some y → Rl j y H) ⟨s0 _, [], upd_same, rfl, fun j y e => by simp at e⟩ (fun i H _ p => hG H p.1) (fun i x H H' hi p y => ?_) fun H p => ?_
  · obtain ⟨p1, ys, p2, p3, p4⟩ := p
    have z := hs i x H H' hi p1 y (fun y H4 => ∃ acc, H4 D = some (.lst acc) ∧ acc.length < sizeLine ∧ Same H1 (upd H4 D (.lst (acc ++ [y]))) ∧
      ∃ ys, upd H4 D (.lst (acc ++ [y])) D = some (.lst ys) ∧ ys.length = i + 1 ∧ ∀ j y', ys[j]? = some y' → Rl j y' (upd H4 D (.lst (acc ++ [y])))) fun y H4 q r => by
        have e4 := q _ _ p2
        have tups : ∀ o b xs, H4 b = some (.tup xs) → upd H4 D o b = some (.tup xs) := fun o b xs e => by
          by_cases hb : b = D
          · rw [hb, e4] at e
            cases e
          · rw [upd_ne hb]
            exact e
        refine ⟨ys, e4, by rw [p3]; exact Nat.lt_of_lt_of_le hi hz, fun b u e => by rw [upd_ne (ne_of_none e hD)]; exact (p1.trans q) b u e, ys ++ [y], upd_same, by simp [p3], fun j y' e => ?_⟩
        by_cases hj : j < ys.length
        · rw [List.getElem?_append_left hj] at e
          exact stable j y' H4 _ (tups _) (stable j y' H H4 (fun b xs e => q _ _ e) (p4 j y' e))
        · rw [List.getElem?_append_right (by omega)] at e
          have ej : j = ys.length := by
            have := (List.getElem?_eq_some_iff.mp e).1
            simp at this
            omega
          subst ej
          simp at e
          subst e
          rw [p3]
          exact stable _ _ H4 _ (tups _) r
    exact z
  · obtain ⟨p1, ys, p2, p3, p4⟩ := p
    exact hd H ys p1 p2 p3 p4
end
end Sho
set_option Elab.async false
set_option linter.all false
set_option maxRecDepth 100000
set_option maxHeartbeats 2000000
/-! Lambdas as objects that are known: made (with a default or without), called. -/
namespace Sho
open PySem PySem.Spec PyProof.Rows L2 LamX NdefX

/-- a lambda's words: those of a def without a body, its expression, its defaults -/
structure LF where
  F : NF
  e : Expr
  dV : Value
abbrev LF.fd (Z : LF) (pm ctv : Value) : FuncData :=
  { PySem.W.kla_fn Z.F.name Z.F.qual Z.F.params Z.e Z.F.scope Z.F.cl pm (.ref Z.F.c) ctv with defaults := Z.dV }
/-- the object at f is that lambda -/
def LamO (f : Addr) (Z : LF) : HO :=
  .ext fun g => ∃ pm ctv : Value, g.get? f = some (({ cls := .type "function", data := .func (Z.fd pm ctv) }) : Obj)
theorem lamO_ne {f : Addr} {Z : LF} (qs : Array Value) : LamO f Z ≠ .tbl qs := fun h => nomatch h
theorem lamO_at {P : Program} {w : World} {H : Hp} {h : Heap} {f : Addr} {Z : LF} (ok : HOk P w H h) (hf : H f = some (LamO f Z)) :
    ∃ pm ctv : Value, h.get? f = some (({ cls := .type "function", data := .func (Z.fd pm ctv) }) : Obj) := by
  obtain ⟨x, _, _⟩ := ok f _ hf
  exact x
/-- nothing that was known is forgotten, but for the tables -/
structure Grows (T : List (Addr × Str)) (H H1 : Hp) : Prop where
  ext : ExtN H H1
  tab : Tabs T H → Tabs T H1
theorem Grows.rfl' {T : List (Addr × Str)} (H : Hp) : Grows T H H := ⟨ExtN.refl H, id⟩
theorem Grows.trans {T : List (Addr × Str)} {H H1 H2 : Hp} (a : Grows T H H1) (b : Grows T H1 H2) : Grows T H H2 := ⟨a.ext.trans b.ext, fun t => b.tab (a.tab t)⟩
theorem Grows.upd {T : List (Addr × Str)} {H : Hp} {p : Addr} {o : HO} (hp : H p = none) : Grows T H (L2.upd H p o) := by
  have e : ∀ b u, H b = some u → L2.upd H p o b = some u := fun b u q => (upd_ne (ne_of_none q hp)).trans q
  exact ⟨ExtN.of e, fun t => Tabs.ext t e⟩
/-- the words of a lambda that is made in X -/
abbrev mkLF (X : Cx) (params : Arguments) (body : Expr) (scope : Scope) (c' : Addr) (dV : Value) : LF :=
  ⟨⟨"<lambda>", X.env.qual ++ "<lambda>", params, [], scope, cloFrom X.env.cells scope.names [], c'⟩, body, dV⟩
section
variable {M : Model} {A : Around} {E : Value → Shared → Prop} {s : Shared}
/-- the making's end, the code object by a premise -/
theorem tail_d {name qual : Str} {params : Arguments} {body : Expr} {scope : Scope} {env : Env} {dV : Value} {pos : Pos} {fl : Nat} {clos : List (Str × Addr)} {mg : Str → Option Value} {Pl : Addr} {Q : Value → Shared → Prop}
    (hcl : closureFor scope env = pure clos) (hge : env.globals = mainGlobals)
    (h : ∀ h1 ctv, (∀ b o, s.heap.get? b = some o → h1.get? b = some o) → s.heap.objs.size ≤ h1.objs.size →
      wpAny M A (functionCode env pos fl name qual params scope (.expr body)) (fun cv s2 => s2.heap.Ns mainGlobals mg ∧ s2.heap.BuiltinsAt mg Pl ∧
        Q (.ref s2.heap.objs.size) { s2 with heap := s2.heap.push { cls := .type "function", data := .func { PySem.W.kla_fn name qual params body scope clos ((mg "__name__").getD .none) cv ctv with defaults := dV } } }) E { s with heap := h1 }) :
    wpAny M A (makeTail name qual params (.expr body) scope env dV .none none pos fl) Q E s := by
  unfold makeTail
  rw [hcl]
  refine wpAny_bind (wpAny_pure ?_)
  cases clos with
  | nil =>
    simp only [List.isEmpty_nil, if_true]
    refine wpAny_bind (wpAny_pure (wpAny_bind (wpAny_mono (h s.heap .none (fun _ _ e => e) (Nat.le_refl _)) (fun cv s2 x => ?_) fun _ _ x => x)))
    obtain ⟨g2, ⟨bm, ob, b1, b2, _, _, b5, b6, b7, b8⟩, q⟩ := x
    rw [hge]
    exact wpAny_bind (wpAny_builtinsFor g2 b1 b2 b5 b6 b7 b8 (wpAny_bind (wpAny_nsGet g2 (wpAny_bind (wpAny_pure (wpAny_newObj_type q (by size_fits)))))))
  | cons c r =>
    simp only [List.isEmpty_cons, Bool.false_eq_true, if_false]
    refine wpAny_bind (wpAny_newTextTuple (wpAny_bind (wpAny_mono (h _ (.ref s.heap.objs.size) (fun _ _ e => Heap.get?_push_of_some _ e) (by rw [Heap.size_push]; omega)) (fun cv s2 x => ?_) fun _ _ x => x)))
    obtain ⟨g2, ⟨bm, ob, b1, b2, _, _, b5, b6, b7, b8⟩, q⟩ := x
    rw [hge]
    exact wpAny_bind (wpAny_builtinsFor g2 b1 b2 b5 b6 b7 b8 (wpAny_bind (wpAny_nsGet g2 (wpAny_bind (wpAny_pure (wpAny_newObj_type q (by size_fits)))))))
end
section
variable {X : Cx} {pins : List (Addr × Obj)} {σ : L2.St} {H : Hp} {s : Shared}
theorem lamO_new {Z : LF} {tk : Nat} {pm ctv : Value} (I : Inv X pins σ H s) :
    Inv X pins σ (upd H s.heap.objs.size (LamO s.heap.objs.size Z))
      { s with heap := s.heap.push (({ cls := .type "function", data := .func (Z.fd pm ctv) }) : Obj), toks := tk } := by
  refine I.laid (fun b u e => Heap.get?_push_of_some _ e) (Nat.le_refl _) ?_
  have here : (s.heap.push (({ cls := .type "function", data := .func (Z.fd pm ctv) }) : Obj)).get? s.heap.objs.size = some (({ cls := .type "function", data := .func (Z.fd pm ctv) }) : Obj) :=
    Heap.get?_push_size _ rfl
  exact ⟨⟨pm, ctv, here⟩, ⟨_, here⟩, fun g1 g2 ⟨p, t, z⟩ st => ⟨p, t, st _ z⟩⟩

theorem lam_made {T : List (Addr × Str)} {c P : Addr} {params : Arguments} {body : Expr} {scope : Scope} {pos : Pos} {dV : Value} {E : Value → Shared → Prop} {Q : Value → Shared → Prop}
    (I : Inv X pins σ H s) (TB : TabB X.base X.mg c P) (hcode : X.env.code = .ref c)
    (hm : (P, X.env.qual ++ "<lambda>") ∈ T) (hu : ∀ p ∈ T, p.1 = P → p.2 = X.env.qual ++ "<lambda>") (hT : Tabs T H)
    (hcl : ∀ y ∈ scope.names, y.2 = .free → ∃ c, X.env.cells.lookup y.1 = some c)
    (h : ∀ (f c' : Addr) (H1 : Hp) (s' : Shared), Inv X pins σ H1 s' → Grows T H H1 → H f = none →
      H1 f = some (LamO f (mkLF X params body scope c' dV)) → H1 c' = some (CodeO c' (X.env.qual ++ "<lambda>")) → Q (.ref f) s') :
    wpAny (model X.prog X.w) X.A (makeTail "<lambda>" (X.env.qual ++ "<lambda>") params (.expr body) scope X.env dV .none none pos pos.line) Q E s := by
  obtain ⟨qs, hP, tri, among⟩ := (show TabS H P (X.env.qual ++ "<lambda>") from hT _ hm)
  refine tail_d (mg := X.mg) (Pl := P) (closure_ok hcl) I.ok.glob fun h1 ctv k1 z1 => ?_
  have I1 : Inv X pins σ H { s with heap := h1 } := I.kept (t' := s.toks) k1
  have hgP : h1.get? P = some { cls := .none, data := .fields qs } := I1.hok P _ hP
  have hbP := TB.bm.keeps I1.bk
  have CH := TB.code.keeps I1.bk
  cases hit : codeAmong pos qs.toList with
  | some cv =>
    obtain ⟨c', rfl, kc⟩ := among pos cv hit
    refine wpAny_functionCode_hit hcode (CH.code hgP tri) hit ⟨I1.mod.glob.keeps I1.bk, hbP, ?_⟩
    have nF : H h1.objs.size = none := I1.hok.fresh (Nat.le_refl _)
    exact h h1.objs.size c' _ _ (lamO_new (Z := mkLF X params body scope c' dV) (pm := (X.mg "__name__").getD .none) (ctv := ctv) (tk := s.toks) I1) (Grows.upd nF) nF upd_same
      ((upd_ne (ne_of_none kc nF)).trans kc)
  | none =>
    refine wpAny_functionCodeX hcode (CH.code hgP tri) (CH.tab hgP) hit fun c' h' tk hx hge hlt _ hrec htb _ => ?_
    have gl := (I1.mod.glob.keeps I1.bk).extBut hx TB.gP
    have bl : h'.BuiltinsAt X.mg P := by
      obtain ⟨bm, ob, b1, b2, b3, b4, b5, b6⟩ := hbP
      exact ⟨bm, ob, b1, b2, b3, b4, hx _ _ b4 b5, b6⟩
    refine ⟨gl, bl, ?_⟩
    obtain ⟨c2, oc, vs, t, e2, hoc, hd, hv⟩ := hrec
    cases e2
    have nC : H c' = none := I1.hok.fresh hge
    have J := inv_table (q := X.env.qual ++ "<lambda>") (t' := tk) (more := #[rawInt pos.line, rawInt pos.col, .ref c']) (h' := h') I1 hP (fun b o hb e => hx b o hb e) htb.2 hge ⟨oc, vs, t, hoc, hd, hv⟩
    generalize hH2 : L2.upd (L2.upd H P (.tbl (qs ++ #[rawInt pos.line, rawInt pos.col, .ref c']))) c' (CodeO c' (X.env.qual ++ "<lambda>")) = H2 at J
    have kC : H2 c' = some (CodeO c' (X.env.qual ++ "<lambda>")) := by rw [← hH2]; exact upd_same
    have ext : ExtN H H2 := fun b o e n => by
      have nP : b ≠ P := by
        rintro rfl
        exact n qs (Option.some.inj (e.symm.trans hP))
      rw [← hH2, upd_ne (ne_of_none e nC), upd_ne nP]
      exact e
    have eL : (qs ++ #[rawInt pos.line, rawInt pos.col, .ref c']).toList = qs.toList ++ [rawInt pos.line, rawInt pos.col, .ref c'] := by simp
    have tabs2 : Tabs T H2 := by
      intro p hp
      by_cases hb : p.1 = P
      · rw [hu p hp hb, hb]
        refine ⟨qs ++ #[rawInt pos.line, rawInt pos.col, .ref c'], ?_, ?_, ?_⟩
        · rw [← hH2, upd_ne (ne_of_none hP nC), upd_same]
        · rw [eL]
          exact PySem.TriplesOk_snoc _ _ _ _ tri
        · intro p' cv hcv
          rw [eL] at hcv
          rcases among_app _ tri hcv with z | z
          · obtain ⟨c0, f1, f2⟩ := among p' cv z
            exact ⟨c0, f1, ext _ _ f2 codeO_ne⟩
          · exact ⟨c', z, kC⟩
      · obtain ⟨qs', q1, q2, q3⟩ := hT p hp
        refine ⟨qs', ?_, q2, ?_⟩
        · rw [← hH2, upd_ne (ne_of_none q1 nC), upd_ne hb]
          exact q1
        · intro p' cv hcv
          obtain ⟨c0, f1, f2⟩ := q3 p' cv hcv
          exact ⟨c0, f1, ext _ _ f2 codeO_ne⟩
    have nF : H2 h'.objs.size = none := J.hok.fresh (Nat.le_refl _)
    have g2 : Grows T H2 (L2.upd H2 h'.objs.size (LamO h'.objs.size (mkLF X params body scope c' dV))) := Grows.upd nF
    exact h h'.objs.size c' _ _ (lamO_new (Z := mkLF X params body scope c' dV) (pm := (X.mg "__name__").getD .none) (ctv := ctv) (tk := tk) J) (Grows.trans ⟨ext, fun _ => tabs2⟩ g2)
      (I1.hok.fresh (Nat.le_trans hge (Nat.le_of_lt hlt))) upd_same (g2.ext _ _ kC codeO_ne)
end

/-! ### calls -/
section
variable {CX : CXT} {P : Program} {w : World} {K : PySem.W.Frag} {mg : Str → Option Value} {base : Heap} {N ps fr : List Str} {Z : LF} {f : Addr} {k : Nat}
/-- the body's context, at its entry -/
abbrev lcx (CX : CXT) (P : Program) (w : World) (K : PySem.W.Frag) (mg : Str → Option Value) (base : Heap) (N : List Str) (Z : LF) (f : Addr) (A : Around) (outer : List Env) (s : Shared) (H : Hp) (E : XK) : Cx :=
  ncx CX P w K mg base N Z.F f A outer s H E
theorem lam_call {A : Around} {outer : List Env} {s : Shared} {H : Hp} {args : Args} {us : List Value} {vs : List V} {ws : List (Option V)} {Q : VK} {E : XK} {t : TE} {pm ctv : Value}
    (S : NScope N ps fr Z.F.scope) (hr : Room (k + 1) A) (e0 : Env0 P w K mg base A outer s H)
    (ho : s.heap.get? f = some (({ cls := .type "function", data := .func (Z.fd pm ctv) }) : Obj)) (hcr : s.heap.CodeRec (.ref Z.F.c) Z.F.qual)
    (hb : BindsTo s (Z.fd pm ctv) args (ps.zip us)) (hl : vs.length = ps.length) (C : CellsAt Z.F.cl fr ws s.heap H) (r : Vals vs us)
    (hbody : Room k (A.deeper (envF Z.F f s.heap.objs.size)) → PE (lcx CX P w K mg base N Z f A outer s H E) Z.e t) (hq : t (startF N vs ws) H Q) :
    codeAny (model P w) A (.call (.ref f) args) (CR CX outer P w H s Q E) s := by
  have nolim : s.heap.NoLimit := e0.mod.nolimit.keeps fun b o e => (e0.bs b o e).1
  refine PySem.W.kla_callFunE hr.depth ho rfl S.co S.gen rfl hcr ?_
  refine hb _ _ _ _ ?_
  refine wpAny_newFunctionEnv S.nocell (fun ⟨n, _⟩ hy => S.par n (List.of_mem_zip hy).1) (fun h₁ hns hsb => ⟨nolim.fresh _ hsb, ?_⟩) S.kind
  show codeAny _ _ (.expr Z.e (envF Z.F f s.heap.objs.size)) _ _
  have kp : ∀ b o, s.heap.get? b = some o → h₁.get? b = some o :=
    fun b o e => hsb.extBut b o (Nat.ne_of_lt (Heap.lt_size e)) (Heap.get?_push_of_some _ e)
  have J : Inv (lcx CX P w K mg base N Z f A outer s H E) [] (startF N vs ws) H { s with heap := h₁, toks := s.toks + (ps.zip us).length } :=
    inv_startN S hr.hd e0 hl r C hns kp
  refine PySem.W.kla_codeExpr (wpAny_mono ((hbody (hr.deeper _)).run [] _ _ H Q J hq) (fun v s' hh => ?_) fun e s' hh => hh)
  obtain ⟨v', H', J', rv, q⟩ := hh
  exact ⟨v', H', J'.os, J'.bare, J'.base, J'.hok, rv, q⟩
/-- what the heap knows of a lambda at f -/
structure LamAt (H : Hp) (f : Addr) (Z : LF) : Prop where
  o : H f = some (LamO f Z)
  c : H Z.F.c = some (CodeO Z.F.c Z.F.qual)
  d : ∀ T : Addr, Z.dV = .ref T → ∃ xs, H T = some (.tup xs) ∧ xs = [.int 0]
theorem LamAt.ext {H H1 : Hp} (a : LamAt H f Z) (e : ExtN H H1) : LamAt H1 f Z :=
  ⟨e _ _ a.o lamO_ne, e _ _ a.c codeO_ne, fun T h => (a.d T h).elim fun xs q => ⟨xs, e _ _ q.1 (fun ps z => nomatch z), q.2⟩⟩
abbrev SpL := List (Option V) → Hp → VK → XK → Prop
/-- f may be called without arguments; cl, fr: its captured cells; sp: by what they hold -/
def Act (P : Program) (w : World) (K : PySem.W.Frag) (mg : Str → Option Value) (base : Heap) (CX : CXT) (k : Nat) (cl : List (Str × Addr)) (fr : List Str) (sp : SpL) (f : Addr) (H : Hp) : Prop :=
  ∃ Z : LF, Z.F.cl = cl ∧ LamAt H f Z ∧ ∀ (A : Around) (outer : List Env) (s : Shared) (H' : Hp) (ws : List (Option V)) (Q : VK) (E : XK), Room k A → Env0 P w K mg base A outer s H' → LamAt H' f Z →
    CellsAt cl fr ws s.heap H' → sp ws H' Q E → codeAny (model P w) A (.call (.ref f) ⟨[], []⟩) (CR CX outer P w H' s Q E) s
theorem Act.ext {cl : List (Str × Addr)} {sp : SpL} {H H1 : Hp} (a : Act P w K mg base CX k cl fr sp f H) (e : ExtN H H1) : Act P w K mg base CX k cl fr sp f H1 := by
  obtain ⟨Z, h1, h2, h3⟩ := a
  exact ⟨Z, h1, h2.ext e, h3⟩
theorem Act.mono {cl : List (Str × Addr)} {sp sp' : SpL} {H : Hp} {k' : Nat} (a : Act P w K mg base CX k cl fr sp f H) (h : k ≤ k') (i : ∀ ws H Q E, sp' ws H Q E → sp ws H Q E) : Act P w K mg base CX k' cl fr sp' f H := by
  obtain ⟨Z, h1, h2, h3⟩ := a
  exact ⟨Z, h1, h2, fun A outer s H' ws Q E hr e0 l c q => h3 A outer s H' ws Q E (hr.mono h) e0 l c (i _ _ _ _ q)⟩
/-- a lambda without parameters -/
theorem act0 {sp : SpL} {H : Hp} (l : LamAt H f Z) (S : NScope N [] fr Z.F.scope) (hb : ∀ pm ctv : Value, bindArgs (Z.fd pm ctv) ⟨[], []⟩ = pure [])
    (hbody : ∀ (A : Around) (outer : List Env) (s : Shared) (H : Hp) (ws : List (Option V)) (Q : VK) (E : XK), Room k (A.deeper (envF Z.F f s.heap.objs.size)) → ws.length = fr.length → sp ws H Q E →
      ∃ t, PE (lcx CX P w K mg base N Z f A outer s H E) Z.e t ∧ t (startF N [] ws) H Q) : Act P w K mg base CX (k + 1) Z.F.cl fr sp f H := by
  refine ⟨Z, rfl, l, fun A outer s H' ws Q E hr e0 l' C h => ?_⟩
  obtain ⟨pm, ctv, ho⟩ := lamO_at e0.hok l'.o
  obtain ⟨t, ht, hq⟩ := hbody A outer s H' ws Q E (hr.deeper _) C.len h
  exact lam_call (ps := []) (us := []) S hr e0 ho (codeO_at e0.hok l'.c) (.of_eq (hb pm ctv)) rfl C .nil (fun _ => ht) hq
/-- .. of one parameter, whose default is 0 -/
theorem act1 {x : Str} {T : Addr} {sp : SpL} {H : Hp} (l : LamAt H f Z) (hT : Z.dV = .ref T) (S : NScope N [x] fr Z.F.scope)
    (hb : ∀ (pm ctv u : Value), ∃ kk, bindArgs (Z.fd pm ctv) ⟨[], []⟩ = seqItems? Z.dV >>= kk ∧ kk (some #[u]) = pure [(x, u)])
    (hbody : ∀ (A : Around) (outer : List Env) (s : Shared) (H : Hp) (ws : List (Option V)) (Q : VK) (E : XK), Room k (A.deeper (envF Z.F f s.heap.objs.size)) → ws.length = fr.length → sp ws H Q E →
      ∃ t, PE (lcx CX P w K mg base N Z f A outer s H E) Z.e t ∧ t (startF N [.int 0] ws) H Q) : Act P w K mg base CX (k + 1) Z.F.cl fr sp f H := by
  refine ⟨Z, rfl, l, fun A outer s H' ws Q E hr e0 l' C h => ?_⟩
  obtain ⟨pm, ctv, ho⟩ := lamO_at e0.hok l'.o
  obtain ⟨xs, hx, rfl⟩ := l'.d T hT
  obtain ⟨_, its, rv, ht1⟩ := e0.hok T _ hx
  cases rv with
  | @cons _ u _ _ ru rn =>
  cases rn
  obtain ⟨t, ht, hq⟩ := hbody A outer s H' ws Q E (hr.deeper _) C.len h
  obtain ⟨kk, b1, b2⟩ := hb pm ctv u
  obtain ⟨oT, g1, _, n, g3⟩ := ht1
  refine lam_call (ps := [x]) (us := [u]) S hr e0 ho (codeO_at e0.hok l'.c) ?_ rfl C (.cons ru .nil) (fun _ => ht) hq
  exact BindsTo.of_defaults (fd := Z.fd pm ctv) (k := kk) hT g1 g3 b1 b2
end

/-! ### the rules: a lambda as a value -/
section
variable {X : Cx} {T : List (Addr × Str)} {c P : Addr} {params : Arguments} {body : Expr} {scope : Scope} {pos : Pos}
/-- the new lambda stands at f; mk: its words by its code object and its defaults -/
def tLamO (T : List (Addr × Str)) (mk : Addr → Value → LF) : TE := fun σ H Q => Tabs T H ∧ ∀ (f c' : Addr) (H1 : Hp), Grows T H H1 → H f = none → LamAt H1 f (mk c' .none) → Q (.ref f) H1
def tLamD (T : List (Addr × Str)) (mk : Addr → Value → LF) : TE := fun σ H Q => Tabs T H ∧ ∀ (f c' t : Addr) (H1 : Hp), Grows T H H1 → H f = none → LamAt H1 f (mk c' (.ref t)) → Q (.ref f) H1
theorem pe_lam (TB : TabB X.base X.mg c P) (hcode : X.env.code = .ref c)
    (hm : (P, X.env.qual ++ "<lambda>") ∈ T) (hu : ∀ p ∈ T, p.1 = P → p.2 = X.env.qual ++ "<lambda>")
    (hfree : ∀ y ∈ scope.names, y.2 = .free → X.env.scope.names.lookup y.1 = some .cell ∨ X.env.scope.names.lookup y.1 = some .free) (hdef : defaultsOf params X.env = ([], []) := by exact rfl) :
    PE X (.Lambda params body scope pos) (tLamO T (mkLF X params body scope)) := by
  refine ⟨fun pins s σ H Q I ⟨hT, h⟩ => PySem.W.kla_eval hdef ?_⟩
  rw [makeFunction_eq]
  simp only [List.zip_nil_right, List.filterMap_nil, List.isEmpty_nil, if_true, pure_bind]
  refine lam_made I TB hcode hm hu hT (fun y hy e => I.ok.has _ (hfree y hy e)) fun f c' H1 s' I1 g n1 e1 e2 => ?_
  exact ⟨.ref f, H1, I1, rfl, h f c' H1 g n1 ⟨e1, e2, fun t z => nomatch z⟩⟩
/-- a default that is an int: 0 -/
theorem pe_lamD {d : Expr} (TB : TabB X.base X.mg c P) (hcode : X.env.code = .ref c)
    (hm : (P, X.env.qual ++ "<lambda>") ∈ T) (hu : ∀ p ∈ T, p.1 = P → p.2 = X.env.qual ++ "<lambda>")
    (hfree : ∀ y ∈ scope.names, y.2 = .free → X.env.scope.names.lookup y.1 = some .cell ∨ X.env.scope.names.lookup y.1 = some .free)
    (hd : PE X d (tC (.int 0))) (hdef : defaultsOf params X.env = ([eval d X.env], []) := by exact rfl) :
    PE X (.Lambda params body scope pos) (tLamD T (mkLF X params body scope)) := by
  refine ⟨fun pins s σ H Q I ⟨hT, h⟩ => ?_⟩
  rw [arm_eval_Lambda, hdef]
  show wpAny _ X.A (do
    let dv ← evalAll [eval d X.env]
    let kdv ← holding dv (evalAllOpt [])
    makeFunction "<lambda>" (X.env.qual ++ "<lambda>") params (.expr body) scope X.env dv kdv [] pos pos.line) _ _ s
  refine wpAny_bind ?_
  show wpAny _ X.A (eval d X.env >>= fun v => _) _ _ s
  refine wpAny_bind (thn (hd.run pins s σ H (fun v H1 => v = .int 0 ∧ H1 = H) I ⟨rfl, rfl⟩) fun v s1 x => ?_)
  obtain ⟨v0, H1, I1, rv, rfl, rfl⟩ := x
  refine wpAny_bind (wpAny_holding (wpAny_pure (wpAny_pure ?_)))
  refine wpAny_bind (wpAny_holding (wpAny_pure ?_))
  rw [makeFunction_eq]
  simp only [List.zip_nil_right, List.filterMap_nil, List.isEmpty_nil, List.isEmpty_cons, Bool.false_eq_true, if_true, if_false, pure_bind]
  refine wpAny_bind (wpAny_newTextTuple ?_)
  have nT : H1 s1.heap.objs.size = none := I1.hok.fresh (Nat.le_refl _)
  have I2 : Inv X pins σ (upd H1 s1.heap.objs.size (.tup [.int 0])) { s1 with heap := s1.heap.push { cls := .type "tuple", data := .seq [v].toArray } } :=
    I1.laid (t' := s1.toks) (fun b o e => Heap.get?_push_of_some _ e) (Nat.le_refl _) ⟨by decide, [v], .cons rv .nil, _, Heap.get?_push_size _ rfl, rfl, 0, rfl⟩
  have G2 : Grows T H1 (upd H1 s1.heap.objs.size (.tup [.int 0])) := Grows.upd nT
  refine lam_made I2 TB hcode hm hu (G2.tab hT) (fun y hy e => I2.ok.has _ (hfree y hy e)) fun f c' H3 s' I3 g n1 e1 e2 => ?_
  have tT : H3 s1.heap.objs.size = some (.tup [.int 0]) := g.ext _ _ upd_same fun ps z => nomatch z
  have nf : H1 f = none := by
    by_cases z : f = s1.heap.objs.size
    · rw [z]
      exact nT
    · rw [upd_ne z] at n1
      exact n1
  exact ⟨.ref f, H3, I3, rfl, h f c' s1.heap.objs.size H3 (G2.trans g) nf ⟨e1, e2, fun t z => by cases z; exact ⟨_, tT, rfl⟩⟩⟩
end
end Sho
set_option Elab.async false
set_option linter.all false
set_option maxRecDepth 100000
set_option maxHeartbeats 2000000
/-! A try whose clauses may each bind the exception or not. -/
namespace Sho
open PySem PySem.Spec PyProof.Rows L2
/-- a clause: the class, the slot of its name (if it has one), its suite's reading -/
structure Clause where
  c : Value
  i : Option Nat
  ts : Addr → Value → Option Addr → TS
def setO (σ : L2.St) : Option Nat → Option V → L2.St
  | none, _ => σ
  | some i, v => σ.set i v
/-- a suite's ends: the clause's name is gone -/
def endsO (D : Ends) (i : Option Nat) : Ends :=
  { nx := fun σ H => D.nx (setO σ i none) H, rt := D.rt, bk := fun σ H => D.bk (setO σ i none) H, ct := fun σ H => D.ct (setO σ i none) H }
def wClauses (K : PySem.W.Frag) (Wout : WX) (D : Ends) : List Clause → WX
  | [] => Wout
  | C :: r => fun cls d σ H => ∃ b, PySem.W.exmOne K cls C.c = some b ∧
    (b = true → ∀ a, H a = none → C.ts a cls d (endsO D C.i) (setO σ C.i (some (.ref a))) H) ∧ (b = false → wClauses K Wout D r cls d σ H)
def Bound (X : Cx) : Option Str → Option Nat → Prop
  | none, none => True
  | some n, some i => X.N[i]? = some n ∧ X.env.kindOf n = some .local
  | _, _ => False
inductive ClausesOk (X : Cx) : List ExceptHandler → List Clause → Prop
  | nil : ClausesOk X [] []
  | cons {x : Str} {n : Option Str} {C : Clause} {b₀ : Stmt} {suite : List Stmt} {np hp : Pos} {hds : List ExceptHandler} {l : List Clause} (hc : Names X x C.c) (hn : Bound X n C.i)
      (body : ∀ (a : Addr) (oe : Obj) (cls : Value) (d : Option Addr) (pn : List (Addr × Obj)), Zc cls d oe → (∃ vs, oe.data = .fields vs) → PSs (X.suite a ((a, oe) :: pn)) (b₀ :: suite) (C.ts a cls d))
      (rest : ClausesOk X hds l) : ClausesOk X (.ExceptHandler (some (.Name x np)) n (b₀ :: suite) hp :: hds) (C :: l)
/-- an exception that X's frame has caught, in the state s -/
structure Caught (X : Cx) (pins : List (Addr × Obj)) (σ : L2.St) (H : Hp) (B : Heap) (a : Addr) (cls : Value) (d : Option Addr) (s : Shared) : Prop where
  fly : HandSPX.FlyingZ B (X.env :: X.outer) a (Zc cls d) s.heap
  back : ∀ h, HandSPX.FlyingZ B (X.env :: X.outer) a (Zc cls d) h → s.heap.UpToSlots h → Inv X pins σ H { s with heap := h }
  on : ∀ h (W : WX), HandSPX.HeldZ B (X.env :: X.outer) a (Zc cls d) X.env.locals h → s.heap.UpToSlots h → W cls d σ H → XE X W (.ref a) { s with heap := h }
  free : H a = none
section
variable {X : Cx} {pins : List (Addr × Obj)} {σ : L2.St} {H : Hp} {B : Heap} {a : Addr} {cls : Value} {d : Option Addr} {s : Shared}
theorem Caught.inv (c : Caught X pins σ H B a cls d s) : Inv X pins σ H s := c.back s.heap c.fly (.refl _)
theorem Caught.apart (c : Caught X pins σ H B a cls d s) (hf : X.env.frame = some X.env.locals) : a ≠ X.env.locals ∧ a ∉ X.fs := by
  obtain ⟨oe, vs, he, _, hd⟩ := c.fly.there
  have out : a ∉ frs (X.env :: X.outer) := fun hm => by
    obtain ⟨_, o, e, nf⟩ := c.fly.2.2.1.mem hm
    rw [he] at e
    cases e
    exact nf _ hd
  refine ⟨fun z => out (List.mem_filterMap.mpr ⟨X.env, .head _, hf.trans (congrArg some z.symm)⟩), fun hm => ?_⟩
  obtain ⟨e, he2, q⟩ := List.mem_filterMap.mp hm
  exact out (List.mem_filterMap.mpr ⟨e, .tail _ he2, q⟩)
theorem caught_of {xe : Value → Shared → Prop} {W : WX} {u : Value} {Q : Shared → Prop} {E : Value → Shared → Prop} (hs : X.stack = X.env :: X.outer) (hf : X.env.frame = some X.env.locals) (ok : X.Ok)
    (x : XE (X.tr (X.pn ++ pins) xe) W u s)
    (h : ∀ a B σ H cls d h3, u = .ref a → Caught X pins σ H B a cls d { s with heap := h3 } → W cls d σ H → Q { s with heap := h3 }) :
    wpAny (model X.prog X.w) X.A (noteFrame u X.env) (fun _ s2 => wpAny (model X.prog X.w) X.A (setFlight u none) (fun _ s3 => Q s3) E s2) E s := by
  obtain ⟨a, B, s0, pins', σ1, H1, cls, d, rfl, J1, ground, up, sky, na, os, ag, w⟩ := x
  have J : Inv X pins σ1 H1 s0 := J1.ofTry ok
  have sky2 : Sky B (X.env :: X.outer) a (Zc cls d) X.env.locals s.heap := hs ▸ sky
  refine Sky.land Zc.steady (ok.frames.trans (congrArg some hs)) hf sky2 fun h3 fly up3 => ?_
  refine h a B σ1 H1 cls d h3 rfl ⟨fly, fun g fg ug => J.landed ground fg.1 (up.trans (up3.trans ug)) os ag, fun g W2 hg ug w2 => ?_, na⟩ w
  exact ⟨a, B, s0, pins, σ1, H1, cls, d, rfl, J, ground, up.trans (up3.trans ug), .inr (.inr (by rw [hs]; exact hg)), na, os, ag, w2⟩

theorem clauses_run {Wout : WX} {D : Ends} (hs : X.stack = X.env :: X.outer) (hf : X.env.frame = some X.env.locals) (hN : X.N.Nodup) (tk : Takes X Wout) (c : Caught X pins σ H B a cls d s)
    {hds : List ExceptHandler} {l : List Clause} (hk : ClausesOk X hds l) : wClauses X.K Wout D l cls d σ H →
    wpAny (model X.prog X.w) X.A (handleBy (.ref a) X.env hds) (SP X pins D) X.xe s := by
  have ok := c.inv.ok
  induction hk with
  | nil =>
    intro w
    refine wpAny_handleBy_nil ?_
    obtain ⟨_, _, _, oe, vs, T, oT, ts', he, hz, hd, h1, _⟩ := id c.fly
    unfold PySem.passOn
    refine wpAny_bind (wpAny_field he hd h1 ?_)
    rw [if_neg (show ¬ ((Value.ref T == Value.none) = true) by simp)]
    have up : wpAny (model X.prog X.w) X.A (setFlight (.ref a) X.env.frame) (fun _ s4 => wpAny (model X.prog X.w) X.A (throw (.ref a) : Sem PySem.Flow) (SP X pins D) X.xe s4) X.xe s := by
      rw [hf]
      exact HandSPX.setFlight_upZ c.fly fun g hg ug => wpAny_throw (tk _ _ (c.on g Wout hg ug w))
    first
      | exact wpAny_bind (wpAny_pure (wpAny_bind up))
      | exact wpAny_bind up
  | @cons x n C b₀ suite np hp hds2 l2 hc hn body rest ih =>
    intro w
    obtain ⟨b, hb, yes, no⟩ := w
    obtain ⟨oe, vs, he, hz, hd⟩ := c.fly.there
    obtain ⟨nL, nF⟩ := c.apart hf
    have I := c.inv
    have IS := I.suite he hd c.free nL nF
    refine wpAny_handleBy_cons (codeAny_handlers_test ?_) (by intro q; cases q)
    have lt : PySem.W.Looks (model X.prog X.w) s.heap (typeOf (.ref a)) cls := fun A Q E s k q => wpAny_typeOf_ref (k _ _ he) (by rw [hz.1]; exact q)
    have lm := PySem.W.exm_one (M := model X.prog X.w) I.kIn lt hb
    have named : ∀ {Q : Value → Shared → Prop} {E : Value → Shared → Prop}, Q C.c s → wpAny (model X.prog X.w) (X.A.mark (some (.ref a))) (eval (.Name x np) X.env) Q E s := fun {Q E} q => by
      obtain ⟨g1, g2, g3⟩ := hc
      rcases g3 with g3 | ⟨g3, g4, g5⟩
      · exact ld_glob (X := X.suite a ((a, oe) :: (X.pn ++ pins))) IS g1 g3 q g2
      · exact ld_blt (X := X.suite a ((a, oe) :: (X.pn ++ pins))) IS g1 g3 g4 q g5 g2
    refine named (lm.here ?_)
    cases b with
    | false => exact ih (no rfl)
    | true =>
      have go : ∀ g, HandSPX.FlyingZ B (X.env :: X.outer) a (Zc cls d) g → s.heap.UpToSlots g → ∃ oe4 vs4, Zc cls d oe4 ∧ oe4.data = .fields vs4 ∧ Inv (X.suite a ((a, oe4) :: (X.pn ++ pins))) [] σ H { s with heap := g } := fun g fg ug => by
        obtain ⟨oe4, vs4, he4, hz4, hd4⟩ := fg.there
        exact ⟨oe4, vs4, hz4, hd4, (c.back g fg ug).suite he4 hd4 c.free nL nF⟩
      cases n with
      | none =>
        match hi : C.i with
        | some i =>
          rw [hi] at hn
          exact hn.elim
        | none =>
          rw [hi] at yes
          refine codeAny_handlers_suite ?_
          refine HandSPX.lands_againZ c.fly fun g fg ug => ?_
          obtain ⟨oe4, vs4, hz4, hd4, I4⟩ := go g fg ug
          refine wpAny_mono ((body a oe4 cls d (X.pn ++ pins) hz4 ⟨_, hd4⟩).run [] _ _ H _ I4 (yes rfl a c.free)) (fun f s6 r => ?_) fun _ _ z => False.elim z
          cases f with
          | ret u =>
            obtain ⟨v6, σ6, H6, I6, r6, q6⟩ := r
            exact ⟨v6, σ6, H6, I6.unsuite ok, r6, q6⟩
          | next => obtain ⟨σ6, H6, I6, q6⟩ := r; exact ⟨σ6, H6, I6.unsuite ok, q6⟩
          | brk => obtain ⟨σ6, H6, I6, q6⟩ := r; exact ⟨σ6, H6, I6.unsuite ok, q6⟩
          | cont => obtain ⟨σ6, H6, I6, q6⟩ := r; exact ⟨σ6, H6, I6.unsuite ok, q6⟩
      | some n =>
        match hi : C.i with
        | none =>
          rw [hi] at hn
          exact hn.elim
        | some i =>
          rw [hi] at hn yes
          obtain ⟨hni, hln⟩ := hn
          refine codeAny_handlers_suite_as ?_
          refine HandSPX.lands_againZ c.fly fun g fg ug => ?_
          obtain ⟨oe4, vs4, hz4, hd4, I4⟩ := go g fg ug
          refine store_ok (X := X.suite a ((a, oe4) :: (X.pn ++ pins))) (v := .ref a) I4 hN hni (.inl hln) rfl (fun s5 I5 => ?_) (.inr hln)
          refine wpAny_mono ((body a oe4 cls d (X.pn ++ pins) hz4 ⟨_, hd4⟩).run [] s5 _ H _ I5 (yes rfl a c.free)) (fun f s6 r => ?_) fun _ _ z => False.elim z
          have gone : ∀ {σ6 : L2.St} {H6 : Hp} {Q : Shared → Prop}, Inv (X.suite a ((a, oe4) :: (X.pn ++ pins))) [] σ6 H6 s6 → (∀ s7, Inv X pins (σ6.set i none) H6 s7 → Q s7) →
              wpAny (model X.prog X.w) X.A (do bindName X.env n .none; unbindBehindTheSuite X.env n hp) (fun _ s7 => Q s7) X.xe s6 := fun {σ6 H6 Q} I6 k => gone_ok (I6.unsuite ok) hN hni hln k
          cases f with
          | ret u =>
            obtain ⟨v6, σ6, H6, I6, r6, q6⟩ := r
            exact gone I6 fun s7 I7 => ⟨v6, _, H6, I7, r6, q6⟩
          | next => obtain ⟨σ6, H6, I6, q6⟩ := r; exact gone I6 fun s7 I7 => ⟨_, H6, I7, q6⟩
          | brk => obtain ⟨σ6, H6, I6, q6⟩ := r; exact gone I6 fun s7 I7 => ⟨_, H6, I7, q6⟩
          | cont => obtain ⟨σ6, H6, I6, q6⟩ := r; exact gone I6 fun s7 I7 => ⟨_, H6, I7, q6⟩
end
section
variable {X : Cx} {body : List Stmt} {h₀ : ExceptHandler} {hds : List ExceptHandler} {l : List Clause} {pos : Pos} {tb : WX → TS} {Wout : WX}
/-- try: body / except A as e: .. / except B: .. -/
theorem ps_try (hs : X.stack = X.env :: X.outer) (hf : X.env.frame = some X.env.locals) (hN : X.N.Nodup) (tk : Takes X Wout)
    (hb : ∀ (W : WX) (pn : List (Addr × Obj)) (xe : Value → Shared → Prop), Takes (X.tr pn xe) W → PassesOwn (model X.prog X.w) X.A X.env xe → PSs (X.tr pn xe) body (tb W))
    (hk : ClausesOk X (h₀ :: hds) l) : PS X (.Try body (h₀ :: hds) [] [] pos) (fun D σ H => tb (wClauses X.K Wout D l) D σ H) := by
  refine ⟨fun pins s σ H D I h => wpAny_Try_except ?_⟩
  have ok := I.ok
  refine wpAny_mono ((hb (wClauses X.K Wout D l) (X.pn ++ pins) (fun e s₁ => wpAny (model X.prog X.w) X.A (noteFrame e X.env)
    (fun _ s₂ => wpAny (model X.prog X.w) X.A (setFlight e none) (fun _ s₃ => wpAny (model X.prog X.w) X.A (handleBy e X.env (h₀ :: hds)) (SP X pins D) X.xe s₃) X.xe s₂) X.xe s₁)
    (fun u s' x => ?_) PassesOwn.looking).run [] s σ H D (I.toTry _) h) (fun f s1 r => ?_) fun _ _ z => z
  · refine caught_of hs hf ok x fun a B σ1 H1 cls d h3 e c w => ?_
    subst e
    exact clauses_run hs hf hN tk c hk w
  · cases f with
    | ret u =>
      obtain ⟨v6, σ6, H6, I6, r6, q6⟩ := r
      exact ⟨v6, σ6, H6, I6.ofTry ok, r6, q6⟩
    | next => obtain ⟨σ6, H6, I6, q6⟩ := r; exact wpAny_execs_nil ⟨σ6, H6, I6.ofTry ok, q6⟩
    | brk => obtain ⟨σ6, H6, I6, q6⟩ := r; exact ⟨σ6, H6, I6.ofTry ok, q6⟩
    | cont => obtain ⟨σ6, H6, I6, q6⟩ := r; exact ⟨σ6, H6, I6.ofTry ok, q6⟩
end
end Sho
set_option Elab.async false
set_option linter.all false
set_option maxRecDepth 100000
set_option maxHeartbeats 2000000
/-! A callable that is handed on, called without arguments. -/
namespace Sho
open PySem PySem.Spec PyProof.Rows L2 LamX NdefX
section
variable {X : Cx} {pins : List (Addr × Obj)} {σ : L2.St} {H : Hp} {s : Shared} {cl : List (Str × Addr)} {fr : List Str} {ws : List (Option V)}
theorem cells_un {fs ex : List Addr} {H0 : Hp} {h0 h : Heap} (C : CellsAt cl fr ws h0 H0) (U : Un fs ex H0 H h0 h) (hex : ∀ y c, cl.lookup y = some c → c ∉ ex) : CellsAt cl fr ws h H := by
  have one : ∀ {y : Str} {c : Addr} {v : Option Value}, cl.lookup y = some c → h0.IsCell c v → h.IsCell c v := fun {y c v} e ⟨o, ho, hd⟩ => by
    by_cases hm : c ∈ fs
    · obtain ⟨sl, q⟩ := U.slot c o ho (C.all y c e).1 hm (hex y c e)
      exact ⟨_, q, hd⟩
    · exact ⟨o, U.keep c o ho (C.all y c e).1 hm (hex y c e), hd⟩
  refine ⟨C.len, fun y c e => ?_, C.inj, fun i y hi => ?_⟩
  · obtain ⟨n, v, o, ho, hd⟩ := C.all y c e
    exact ⟨U.free c o ho n (hex y c e), v, one e ⟨o, ho, hd⟩⟩
  · obtain ⟨c, e, k⟩ := C.has i y hi
    refine ⟨c, e, fun v hv => ?_⟩
    obtain ⟨u, r, z⟩ := k v hv
    exact ⟨u, r, one e z⟩
/-- cells of the entry's time stand as they stood -/
theorem cells_kept (I : Inv X pins σ H s) (C : CellsAt cl fr ws X.s_0.heap X.H_0) (hex : ∀ y c, cl.lookup y = some c → c ∉ X.ex) : CellsAt cl fr ws s.heap H := cells_un C I.base hex

/-- x(): x's slot holds a callable -/
def tAct (P : Program) (w : World) (K : PySem.W.Frag) (mg : Str → Option Value) (base : Heap) (CX : CXT) (k : Nat) (i : Nat) (cl : List (Str × Addr)) (fr : List Str) (ws : List (Option V)) (E : L2.St → XK) : TE := fun σ H Q =>
  ∃ f sp, σ[i]? = some (some (.ref f)) ∧ Act P w K mg base CX k cl fr sp f H ∧ sp ws H Q (E σ)
theorem pe_act {CX : CXT} {k i : Nat} {E : L2.St → XK} {x : Str} {p pos : Pos} (hr : Room k X.A) (C : CellsAt cl fr ws X.s_0.heap X.H_0) (hex : ∀ y c, cl.lookup y = some c → c ∉ X.ex) (hx : ∀ σ, PassesAt CX X σ (E σ))
    (hN : X.N[i]? = some x) (hv : Vis X.env.scope x) (hd : (x == ("__debug__" : Str)) = false := by decide) (hcd : (x == ("__classdict__" : Str)) = false := by decide) :
    PE X (.Call (.Name x p) [] [] pos) (tAct X.prog X.w X.K X.mg X.base CX k i cl fr ws E) := by
  refine ⟨fun pins s σ H Q I ⟨f, sp, hs, ⟨Z, ecl, hl, run⟩, h⟩ => ?_⟩
  refine wpAny_Call_Name_kw (thn ((pe_var (pos := p) (i := i) hN hv hd hcd).run pins s σ H (fun v H1 => v = .ref f ∧ H1 = H) I ⟨.ref f, hs, rfl, rfl⟩) fun u s1 y => ?_)
  obtain ⟨v, H1, I1, rv, rfl, rfl⟩ := y
  obtain rfl : u = Value.ref f := rv
  obtain ⟨pm, ctv, ho⟩ := lamO_at I1.hok hl.o
  refine PySem.W.callWith_F0 ⟨_, _, _, _, ho⟩ ?_
  refine wpAny_call (codeAny_mono (run X.A X.stack s1 H1 ws Q (E σ) hr I1.env0 hl (cells_kept I1 C hex) h) fun r s' hq => ?_)
  cases r with
  | error e => exact hx σ pins H1 s1 e s' I1 hq
  | ok fl =>
    cases fl with
    | ret u => exact I1.after hq
    | next => exact hq.elim
    | brk => exact hq.elim
    | cont => exact hq.elim

/-- g(e): a def of the module, its promise told of the very state; know: what the state at the call shows -/
theorem pe_callAt {CX : CXT} {E : XK} {know : L2.St → Shared → Hp → Prop} {sp : L2.St → V → Hp → VK → Prop} {g : Addr} {x : Str} {e : Expr} {ta : TA} {p pos : Pos} (hg : Gl X x) (hm : X.mg x = some (.ref g)) (hk : PySem.W.keepIn X.K (.ref g) = true)
    (hx : Passes CX X E) (hP : ∀ (pins : List (Addr × Obj)) (σ : L2.St) (H : Hp) (s : Shared), Inv X pins σ H s → know σ s H) (ha : PA X [e] ta)
    (run : ∀ (σ : L2.St) (s : Shared) (H : Hp) (u : Value) (v : V) (Q : VK), Env0 X.prog X.w X.K X.mg X.base X.A X.stack s H → know σ s H → RelV v u → sp σ v H Q →
      codeAny (model X.prog X.w) X.A (.call (.ref g) ⟨[u], []⟩) (CR CX X.stack X.prog X.w H s Q E) s)
    (hdb : (x == ("__debug__" : Str)) = false := by decide) (hst : starEach [e] X.env = (false, eval e X.env) :: starEach [] X.env := by rfl) :
    PE X (.Call (.Name x p) [e] [] pos) (fun σ H Q => ta σ H fun vs H1 => ∃ v, vs = [v] ∧ sp σ v H1 Q) := by
  refine ⟨fun pins s σ H Q I h => ?_⟩
  refine wpAny_Call_Name_kw (ld_glob I hg hm ?_ hdb)
  refine PySem.W.callWith_K (h₀ := X.base) I.ok.mod.kin hk (thn (ha.run pos pins s σ H _ I h) fun us s1 y => ?_) hst rfl
  · obtain ⟨vs, H1, I1, rv, v, rfl, q⟩ := y
    cases rv with
    | @cons _ u _ _ ru rn =>
    cases rn
    refine ⟨I1.kIn, wpAny_call (codeAny_mono (run σ s1 H1 u v Q I1.env0 (hP pins σ H1 s1 I1) ru q) fun r s' hq => ?_)⟩
    cases r with
    | error er => exact hx pins σ H1 s1 er s' I1 hq
    | ok fl =>
      cases fl with
      | ret w2 => exact I1.after hq
      | next => exact hq.elim
      | brk => exact hq.elim
      | cont => exact hq.elim
end
end Sho
set_option Elab.async false
set_option linter.all false
set_option maxRecDepth 100000
set_option maxHeartbeats 2000000
/-! Small words that every law's text uses. -/
namespace Shg
open PySem L2 Sho
theorem pair_len {α β : Type} {R : α → β → Prop} : ∀ {as : List α} {bs : List β}, PySem.Paired R as bs → as.length = bs.length
  | _, _, .nil => rfl
  | _, _, .cons _ r => congrArg Nat.succ (pair_len r)
theorem pair_get {α β : Type} {R : α → β → Prop} : ∀ {as : List α} {bs : List β} {i : Nat} {a : α}, PySem.Paired R as bs → as[i]? = some a → ∃ b, bs[i]? = some b ∧ R a b
  | _, _, i, a, .nil, h => by simp at h
  | _, _, 0, a, .cons h r, e => by
    simp at e
    subst e
    exact ⟨_, rfl, h⟩
  | _, _, i + 1, a, .cons h r, e => by
    simp at e
    obtain ⟨b, e2, r2⟩ := pair_get r e
    exact ⟨b, by simpa using e2, r2⟩
theorem pair_mono {α β : Type} {R S : α → β → Prop} (k : ∀ a b, R a b → S a b) : ∀ {as : List α} {bs : List β}, PySem.Paired R as bs → PySem.Paired S as bs
  | _, _, .nil => .nil
  | _, _, .cons h r => .cons (k _ _ h) (pair_mono k r)
theorem pair_app {α β : Type} {R : α → β → Prop} : ∀ {as : List α} {bs : List β} {cs : List α} {ds : List β}, PySem.Paired R as bs → PySem.Paired R cs ds → PySem.Paired R (as ++ cs) (bs ++ ds)
  | _, _, _, _, .nil, k => k
  | _, _, _, _, .cons h r, k => .cons h (pair_app r k)
theorem same_upd {p : Addr} {H : Hp} {o : HO} (hp : H p = none) : Same H (upd H p o) := fun b u e => by rw [upd_ne (ne_of_none e hp)]; exact e
theorem asg_seq {te : TE} {g : TG} {u : TS} {D : Ends} {σ : L2.St} {H : Hp} (h : te σ H fun x H1 => g x σ H1 (u D)) : tSeq (tAsg te g) u D σ H := h
theorem asg_one {te : TE} {g : TG} {D : Ends} {σ : L2.St} {H : Hp} (h : te σ H fun x H1 => g x σ H1 D.nx) : tAsg te g D σ H := h
theorem cons_of {te : TE} {ta : L2.TA} {σ : L2.St} {H : Hp} {Q : List V → Hp → Prop} (h : te σ H fun v H1 => ta σ H1 fun vs H2 => Q (v :: vs) H2) : tCons te ta σ H Q := h
theorem name_of {i : Nat} {v : V} {σ : L2.St} {H : Hp} {N : L2.St → Hp → Prop} {r : VK} {b c : L2.St → Hp → Prop} (h : N (σ.set i (some v)) H) : gName i v σ H (L2.Ends.nx { nx := N, rt := r, bk := b, ct := c }) := h
theorem name_at {i : Nat} {v : V} {σ : L2.St} {H : Hp} {N : L2.St → Hp → Prop} (h : N (σ.set i (some v)) H) : gName i v σ H N := h
theorem lst_of {t : L2.TA} {σ : L2.St} {H : Hp} {Q : VK} (h : t σ H fun xs H1 => xs.length ≤ sizeLine ∧ ∀ p, H1 p = none → Q (.ref p) (upd H1 p (.lst xs))) : tLst t σ H Q := h
theorem nx_of {N : L2.St → Hp → Prop} {r : VK} {b c : L2.St → Hp → Prop} {σ : L2.St} {H : Hp} (h : N σ H) : L2.Ends.nx { nx := N, rt := r, bk := b, ct := c } σ H := h
theorem asg_val {te : TE} {g : TG} {u : TS} {D : Ends} {σ : L2.St} {H : Hp} (v : V) (h1 : ∀ R : VK, (∀ H', Same H H' → R v H') → te σ H R) (h2 : ∀ H', Same H H' → g v σ H' (u D)) : tSeq (tAsg te g) u D σ H := h1 _ h2
theorem asg_rel {te : TE} {g : TG} {u : TS} {D : Ends} {σ : L2.St} {H : Hp} (P : V → Hp → Prop) (h1 : ∀ R : VK, (∀ v H', P v H' → R v H') → te σ H R) (h2 : ∀ v H', P v H' → g v σ H' (u D)) : tSeq (tAsg te g) u D σ H := h1 _ h2
theorem if_rel {c : TT} {A u : TS} {D : Ends} {σ : L2.St} {H : Hp} (P : Hp → Prop) (h1 : ∀ R : Bool → Hp → Prop, (∀ H', P H' → R false H') → c σ H R) (h2 : ∀ H', P H' → u D σ H') : tSeq (tIfS c A tNext) u D σ H :=
  h1 _ fun H' p => iteF (h2 H' p)
theorem if_rel1 {c : TT} {A : TS} {D : Ends} {σ : L2.St} {H : Hp} (P : Hp → Prop) (h1 : ∀ R : Bool → Hp → Prop, (∀ H', P H' → R false H') → c σ H R) (h2 : ∀ H', P H' → D.nx σ H') : tIfS c A tNext D σ H :=
  h1 _ fun H' p => iteF (h2 H' p)
theorem ok_no {P : Program} {w : World} {K : PySem.W.Frag} {mg : Str → Option Value} {base : Heap} {CX : CXT} {k : Nat} {f : Addr} {fd : FuncData} {ps : List Str} : FnOk P w K mg base CX k f fd ps (fun _ _ _ _ => False) :=
  ⟨fun _ _ _ _ h => h.elim, fun _ _ _ _ _ _ _ _ _ _ _ _ _ h => h.elim⟩
theorem free_by {sn os : List (Str × NameKind)} (h : (sn.all fun y => !decide (y.2 = .free) || (decide (os.lookup y.1 = some .cell) || decide (os.lookup y.1 = some .free))) = true) :
    ∀ y ∈ sn, y.2 = .free → os.lookup y.1 = some .cell ∨ os.lookup y.1 = some .free := fun y hy e => by
  have q := List.all_eq_true.mp h y hy
  rw [decide_eq_true e] at q
  simpa using q
abbrev scL (l : List (Str × NameKind)) : Scope := { kind := .function, names := l, isGenerator := false, isCoroutine := false }
theorem ne_lst {L b : Addr} {H : Hp} {xs : List V} {o : HO} (hL : H L = some (.lst xs)) (e : H b = some o) (n : ∀ ys, o ≠ .lst ys) : b ≠ L := fun z => by
  rw [z, hL] at e
  exact n xs (Option.some.inj e).symm
theorem seq_nat {j n : Nat} (h : j < n) : seqIndex? (j : Int) n = some j := by
  have e0 : (if (j : Int) < 0 then (j : Int) + n else (j : Int)) = (j : Int) := if_neg (by omega)
  show (if (decide (0 ≤ (if (j : Int) < 0 then (j : Int) + n else (j : Int))) && decide ((if (j : Int) < 0 then (j : Int) + n else (j : Int)) < (n : Int))) = true then some (if (j : Int) < 0 then (j : Int) + n else (j : Int)).toNat else none) = some j
  rw [e0]
  have e : (decide (0 ≤ (j : Int)) && decide ((j : Int) < (n : Int))) = true := by simp; omega
  rw [if_pos e]
  simp
theorem ixN_nat {n j : Nat} (hj : j < n) : ixN n (j : Int) = some j := by
  unfold ixN
  rw [if_pos (by omega), if_pos (by omega)]
  simp
theorem gather_filter {α : Type} (xs : List α) (p : α → Bool) (f : α → V) : gather (fun i => (xs[i]?).bind fun x => if p x = true then some (f x) else none) xs.length = (xs.filter p).map f := by
  rw [gather_list]
  induction xs with
  | nil => rfl
  | cons x xs ih =>
    rw [List.filterMap_cons, List.filter_cons]
    cases h : p x with
    | true =>
      simp only [if_true, List.map_cons, ih]
    | false =>
      simp only [Bool.false_eq_true, if_false, ih]
/-- an expression read in one of two ways -/
theorem pe_either {X : Cx} {e : Expr} {t1 t2 : TE} (h1 : PE X e t1) (h2 : PE X e t2) : PE X e (fun σ H Q => t1 σ H Q ∨ t2 σ H Q) :=
  ⟨fun pins s σ H Q I h => h.elim (h1.run pins s σ H Q I) (h2.run pins s σ H Q I)⟩
/-- the builtins that the text calls -/
structure Blt (mg : Str → Option Value) : Prop where
  len : mg "len" = none
  all : mg "all" = none
  isi : mg "isinstance" = none
  bool : mg "bool" = none
  tuple : mg "tuple" = none
  list : mg "list" = none
  range : mg "range" = none
  enum : mg "enumerate" = none
  int : mg "int" = none
  sup : mg "super" = none
  sorted : mg "sorted" = none
  dict : mg "dict" = none
  str : mg "str" = none
  min : mg "min" = none
  max : mg "max" = none
  ve : mg "ValueError" = none
  set : mg "set" = none
  sum : mg "sum" = none
  any : mg "any" = none
/-- all but two objects stay -/
def But2 (l S : Addr) (H H' : Hp) : Prop := ∀ b o, H b = some o → b ≠ l → b ≠ S → H' b = some o
theorem But2.refl {l S : Addr} (H : Hp) : But2 l S H H := fun _ _ e _ _ => e
theorem But2.trans {l S : Addr} {H H1 H2 : Hp} (a : But2 l S H H1) (b : But2 l S H1 H2) : But2 l S H H2 := fun c o e n m => b c o (a c o e n m) n m
theorem But2.of {l S : Addr} {H H' : Hp} (s : Same H H') : But2 l S H H' := fun b o e _ _ => s b o e
theorem But2.upd1 {l S : Addr} {H : Hp} {o : HO} : But2 l S H (upd H l o) := fun b u e nb _ => by rw [upd_ne nb]; exact e
theorem But2.upd2 {l S : Addr} {H : Hp} {o : HO} : But2 l S H (upd H S o) := fun b u e _ nb => by rw [upd_ne nb]; exact e
/-- all but two objects and the tables stay -/
def Keep2 (l S : Addr) (H H' : Hp) : Prop := ∀ b o, H b = some o → b ≠ l → b ≠ S → (∀ ps, o ≠ .tbl ps) → H' b = some o
theorem Keep2.trans {l S : Addr} {H H1 H2 : Hp} (a : Keep2 l S H H1) (b : Keep2 l S H1 H2) : Keep2 l S H H2 := fun c o e n m t => b c o (a c o e n m t) n m t
theorem Keep2.of {l S : Addr} {H H' : Hp} (s : Same H H') : Keep2 l S H H' := fun b o e _ _ _ => s b o e
theorem Keep2.but {l S : Addr} {H H' : Hp} (s : But2 l S H H') : Keep2 l S H H' := fun b o e n m _ => s b o e n m
theorem Keep2.ext {l S : Addr} {H H' : Hp} (s : LamX.ExtN H H') : Keep2 l S H H' := fun b o e _ _ t => s b o e t
/-- a def whose code object is known -/
structure FunL (K : PySem.W.Frag) (x qual : Str) (st : Stmt) (f c : Addr) (fd : FuncData) : Prop where
  ex : ∃ (oc : Value) (od : Option Addr) (kV doc pm : Value) (an : Option Addr) (ct : Value) (osl : Array (Option Value)),
    fd = PySem.W.fnOf x qual (defArgs st) (defBody st) (defScope st) .none kV doc pm an (.ref c) ct ∧ K.lookup f = some ⟨oc, od, .func (PySem.W.fnOf x qual (defArgs st) (defBody st) (defScope st) .none kV doc pm an (.ref c) ct), osl⟩ ∧ PySem.W.codeIn K (.ref c) qual = true
theorem FunL.okX {P : Program} {w : World} {K : PySem.W.Frag} {mg : Str → Option Value} {base : Heap} {x qual : Str} {st : Stmt} {f c : Addr} {fd : FuncData} {N ps : List Str} {k : Nat} {sp : Sp} (F : FunL K x qual st f c fd) (S : FnScope N ps (defScope st)) (len : ∀ vs H Q E, sp vs H Q E → vs.length = ps.length)
    (hbody : ∀ (A : Around) (outer : List Env) (s : Shared) (H : Hp) (vs : List V) (Q : VK) (E : XK), Room k (A.deeper (PyProof.Rows.envOfC qual (defScope st) s.heap.objs.size f (.ref c))) → sp vs H Q E →
      ∃ t, PSs (cxOf (L2.CX P w) P w K mg base N qual (defScope st) f (.ref c) A outer s H E) (defBody st) t ∧ t { nx := fun _ H' => Q .non H', rt := Q } (L2.start N vs) H) : FnOk P w K mg base (L2.CX P w) (k + 1) f fd ps sp := by
  obtain ⟨oc, od, kV, doc, pm, an, ct, osl, rfl, lk, hcd⟩ := F.ex
  exact fn_of lk hcd S len fun A outer s H vs Q E hr hsp => hbody A outer s H vs Q E hr hsp
theorem FunL.ok0 {P : Program} {w : World} {K : PySem.W.Frag} {mg : Str → Option Value} {base : Heap} {x qual : Str} {st : Stmt} {f c : Addr} {fd : FuncData} {N ps : List Str} {k : Nat} {sp : Sp} (F : FunL K x qual st f c fd) (S : FnScope N ps (defScope st)) (len : ∀ vs H Q E, sp vs H Q E → vs.length = ps.length)
    (hbody : ∀ (A : Around) (outer : List Env) (s : Shared) (H : Hp) (vs : List V) (Q : VK) (E : XK), Room k (A.deeper (PyProof.Rows.envOfC qual (defScope st) s.heap.objs.size f (.ref c))) → sp vs H Q E →
      ∃ t, PSs (cxOf CX0 P w K mg base N qual (defScope st) f (.ref c) A outer s H E).nox (defBody st) t ∧ t { nx := fun _ H' => Q .non H', rt := Q } (L2.start N vs) H) : FnOk P w K mg base CX0 (k + 1) f fd ps sp := by
  obtain ⟨oc, od, kV, doc, pm, an, ct, osl, rfl, lk, hcd⟩ := F.ex
  refine fn_of lk hcd S len fun A outer s H vs Q E hr hsp => ?_
  obtain ⟨t, h, q⟩ := hbody A outer s H vs Q E hr hsp
  exact ⟨t, h.nox, q⟩
end Shg
set_option Elab.async false
set_option linter.all false
set_option maxRecDepth 100000
set_option maxHeartbeats 2000000
/-! Operators of own classes by a promise; instances made with a star. -/
namespace Sho
open PySem PySem.Spec PyProof.Rows L2 StX

section
variable {P : Program} {w : World} {K : PySem.W.Frag} {mg : Str → Option Value} {base : Heap} {CX : CXT} {k : Nat} {f : Addr} {fd : FuncData} {ps : List Str} {sp : Sp}
/-- a def's promise by its values alone -/
theorem fnr_of (F : FnOk P w K mg base CX k f fd ps sp) (hb : Binds K fd ps []) : FnR P w K mg base CX k f sp := by
  intro A outer s H us vs Q E hr e0 r h
  have hl := F.len _ _ _ _ h
  have hk : K.In s.heap := e0.mod.kin.keeps fun b o e => (e0.bs b o e).1
  have b := hb s us hk (by rw [List.append_nil, ← r.length]; exact hl)
  rw [List.append_nil] at b
  exact F.run A outer s H ⟨us, []⟩ us vs Q E hr e0 b r h
end

section
variable {X : Cx} {CX : CXT} {k : Nat} {f C : Addr} {sp : Sp} {E : XK}
theorem run_r {pins : List (Addr × Obj)} {σ : L2.St} {H : Hp} {s : Shared} {Q : VK} {us : List Value} {vs : List V} (F : FnR X.prog X.w X.K X.mg X.base CX k f sp) (hr : Room k X.A) (hx : Passes CX X E)
    (I : Inv X pins σ H s) (r : Vals vs us) (h : sp vs H Q E) : wpAny (model X.prog X.w) X.A (call (.ref f) us) (EP X pins σ Q) X.xe s := by
  refine wpAny_call (codeAny_mono (F X.A X.stack s H us vs Q E hr I.env0 r h) fun r s' hq => ?_)
  cases r with
  | error e => exact hx pins σ H s e s' I hq
  | ok fl =>
    cases fl with
    | ret u => exact I.after hq
    | next => exact False.elim hq
    | brk => exact False.elim hq
    | cont => exact False.elim hq

theorem back_of {pins : List (Addr × Obj)} {σ : L2.St} {Q : VK} {u : Value} {s' : Shared} (h : EP X pins σ Q u s') : PySem.W.CmpBack (EP X pins σ Q) u s' := by
  obtain ⟨v, H', I, r, q⟩ := h
  cases u with
  | notImplemented => exact nomatch (show absV Value.notImplemented = some v from RelV.abs r)
  | _ => exact ⟨v, H', I, r, q⟩

/-- an own instance, the instance's own place in the heap -/
def InsAt (H : Hp) (a C : Addr) : Prop := ∃ dx fs, H a = some (.ins C dx fs)

/-- a op b, both of the class at C, C's own method -/
def rOwn2 (C : Addr) (sp : Sp) (E : XK) : R2 := fun x y H Q => ∃ a b, x = .ref a ∧ y = .ref b ∧ InsAt H a C ∧ InsAt H b C ∧ sp [.ref a, .ref b] H Q E
theorem op_own2 {op : Operator} (F : FnR X.prog X.w X.K X.mg X.base CX k f sp) (hr : Room k X.A) (hx : Passes CX X E) (hc : PySem.W.selfFirst X.K C = true)
    (hs : PySem.W.findIn X.K (.ref C) (PySem.dunder op.info.2) = some (some (.ref f))) (hf : PySem.W.isFn X.K (.ref f) = true) : OpR X (binaryOp op) (rOwn2 C sp E) := by
  rintro pins s σ H x y u v Q I rx ry ⟨a, b, rfl, rfl, ⟨dx, fs, ha⟩, ⟨dy, gs, hb⟩, h⟩
  cases rx
  cases ry
  obtain ⟨mA, J, _⟩ := ins_get I.hok ha
  obtain ⟨mB, J', _⟩ := ins_get I.hok hb
  obtain ⟨od, J, _⟩ := J.look
  obtain ⟨od', J', _⟩ := J'.look
  obtain ⟨m, hF⟩ := I.fr
  exact PySem.W.binop_K hF I.ok.mod.kin J J'.type hc hs hf (thn (run_r (vs := [.ref a, .ref b]) F hr hx I (.cons rfl (.cons rfl .nil)) h) fun u s' q => back_of q)

/-- a op b, a of the class at C, b of the built-in type T -/
def rOwnT (C : Addr) (sp : Sp) (E : XK) (isT : V → Prop) : R2 := fun x y H Q => ∃ a, x = .ref a ∧ isT y ∧ InsAt H a C ∧ sp [.ref a, y] H Q E
theorem op_ownT {op : Operator} {T : String} {isT : V → Prop} {fo ro rc : Option Value} (F : FnR X.prog X.w X.K X.mg X.base CX k f sp) (hr : Room k X.A) (hx : Passes CX X E) (hc : PySem.W.selfFirst X.K C = true)
    (hT : ∀ y v, isT y → RelV y v → typeOf v = pure (.type T))
    (hs : PySem.W.findIn X.K (.ref C) (PySem.dunder op.info.2) = some (some (.ref f))) (hf : PySem.W.isFn X.K (.ref f) = true)
    (hr2 : PySem.W.findIn X.K (.ref C) (dunderR op.info.2) = some rc) (hp : rc = none ∨ ∃ g : Addr, rc = some (.ref g))
    (h1 : PySem.W.findIn X.K (.type T) (PySem.dunder op.info.2) = some fo) (h2 : PySem.W.findIn X.K (.type T) (dunderR op.info.2) = some ro) (hsub : PySem.W.subIn X.K (.type T) (.ref C) = some false) :
    OpR X (binaryOp op) (rOwnT C sp E isT) := by
  rintro pins s σ H x y u v Q I rx ry ⟨a, rfl, ht, ⟨dx, fs, ha⟩, h⟩
  cases rx
  obtain ⟨mA, J, _⟩ := ins_get I.hok ha
  obtain ⟨od, J, _⟩ := J.look
  obtain ⟨m, hF⟩ := I.fr
  exact PySem.W.ksp_binT hF I.ok.mod.kin J (hT _ _ ht ry) hc hs hf hr2 hp h1 h2 hsub (thn (run_r (vs := [.ref a, y]) F hr hx I (.cons rfl (.cons ry .nil)) h) fun u s' q => back_of q)
def isInt : V → Prop := fun y => ∃ i, y = .int i
def isStr : V → Prop := fun y => ∃ i, y = .str i
theorem ty_int : ∀ y v, isInt y → RelV y v → typeOf v = pure (.type "int") := by
  rintro y v ⟨i, rfl⟩ ⟨t, rfl⟩
  rfl
theorem ty_str : ∀ y v, isStr y → RelV y v → typeOf v = pure (.type "str") := by
  rintro y v ⟨i, rfl⟩ ⟨t, rfl⟩
  rfl

/-- x in a, not in: a's own __contains__, which hands back a bool -/
def rOwnIn (C : Addr) (neg : Bool) (sp : Sp) (E : XK) : R2 := fun x y H Q => ∃ a, y = .ref a ∧ InsAt H a C ∧ sp [.ref a, x] H (fun r H' => ∃ c, r = .bl c ∧ Q (.bl (if neg then !c else c)) H') E
theorem op_ownIn (F : FnR X.prog X.w X.K X.mg X.base CX k f sp) (hr : Room k X.A) (hx : Passes CX X E)
    (hs : PySem.W.findIn X.K (.ref C) "__contains__" = some (some (.ref f))) (hf : PySem.W.isFn X.K (.ref f) = true) : OpR X (compareOp .In) (rOwnIn C false sp E) := by
  rintro pins s σ H x y u v Q I rx ry ⟨a, rfl, ⟨dx, fs, ha⟩, h⟩
  cases ry
  obtain ⟨mA, J, _⟩ := ins_get I.hok ha
  obtain ⟨od, J, _⟩ := J.look
  obtain ⟨m, hF⟩ := I.fr
  refine PySem.W.in_K hF I.ok.mod.kin J hs hf (thn (run_r (vs := [.ref a, x]) F hr hx I (.cons rfl (.cons rx .nil)) h) fun r s' q => ?_)
  obtain ⟨v2, H2, I2, r2, c, rfl, q2⟩ := q
  cases r2
  exact wpAny_truthy_bool ⟨.bl _, H2, I2, rfl, q2⟩
theorem op_ownNotIn (F : FnR X.prog X.w X.K X.mg X.base CX k f sp) (hr : Room k X.A) (hx : Passes CX X E)
    (hs : PySem.W.findIn X.K (.ref C) "__contains__" = some (some (.ref f))) (hf : PySem.W.isFn X.K (.ref f) = true) : OpR X (compareOp .NotIn) (rOwnIn C true sp E) := by
  rintro pins s σ H x y u v Q I rx ry ⟨a, rfl, ⟨dx, fs, ha⟩, h⟩
  cases ry
  obtain ⟨mA, J, _⟩ := ins_get I.hok ha
  obtain ⟨od, J, _⟩ := J.look
  obtain ⟨m, hF⟩ := I.fr
  refine PySem.W.notIn_K hF I.ok.mod.kin J hs hf (thn (run_r (vs := [.ref a, x]) F hr hx I (.cons rfl (.cons rx .nil)) h) fun r s' q => ?_)
  obtain ⟨v2, H2, I2, r2, c, rfl, q2⟩ := q
  cases r2
  exact wpAny_truthy_bool ⟨.bl _, H2, I2, rfl, q2⟩

/-- a[i]: a's own __getitem__ -/
def rOwnIx (C : Addr) (sp : Sp) (E : XK) : R2 := fun x y H Q => ∃ a, x = .ref a ∧ InsAt H a C ∧ sp [.ref a, y] H Q E
/-- C(*y), y a list or a tuple -/
def tMakeS (K : PySem.W.Frag) (C : Addr) (sp : Sp) (E : XK) (te : TE) : TE := fun σ H Q => te σ H fun y H1 => ∃ a xs, y = V.ref a ∧ (SqT K H1 a xs ∨ SqL K H1 a xs) ∧ ∀ x dx, H1 x = Option.none → H1 dx = Option.none → dx ≠ x →
  sp (V.ref x :: xs) (upd (upd H1 dx (.own x)) x (.ins C dx [])) (fun v H2 => v = .non ∧ Q (.ref x) H2) E
theorem pe_makeS {x : Str} {e : Expr} {te : TE} {p sp_ pos : Pos} (M : Mk X.K C f) (F : FnR X.prog X.w X.K X.mg X.base CX k f sp) (hr : Room (k + 1) X.A) (hg : Gl X x) (hm : X.mg x = some (.ref C)) (hx : Passes CX X E) (he : PE X e te) (hd : (x == ("__debug__" : Str)) = false := by decide)
    (hst : starEach [.Starred e sp_] X.env = [(true, eval e X.env)] := by rfl) : PE X (.Call (.Name x p) [.Starred e sp_] [] pos) (tMakeS X.K C sp E te) := by
  refine ⟨fun pins s σ H Q I h => ?_⟩
  refine wpAny_Call_Name_kw (ld_glob I hg hm ?_ hd)
  refine PySem.W.callWith_S (h₀ := X.base) I.ok.mod.kin M.kp (thn (he.run pins s σ H _ I h) fun v s1 ⟨y, H1, I1, ry, a, xs, ey, hxs, q⟩ => ?_) hst
  subst ey
  obtain rfl : v = Value.ref a := ry
  exact star_any I1 hxs fun us s2 I2 rv => ⟨I2.kIn, run_makeR M F hr hx I2 rv q⟩
/-- C() -/
theorem pe_makeR0 {x : Str} {p pos : Pos} (M : Mk X.K C f) (F : FnR X.prog X.w X.K X.mg X.base CX k f sp) (hr : Room (k + 1) X.A) (hg : Gl X x) (hm : X.mg x = some (.ref C)) (hx : Passes CX X E) (hdb : (x == ("__debug__" : Str)) = false := by decide) :
    PE X (.Call (.Name x p) [] [] pos) (tMakeR C sp E tNil) := by
  refine ⟨fun pins s σ H Q I h => ?_⟩
  refine wpAny_Call_Name_kw (ld_glob I hg hm ?_ hdb)
  exact PySem.W.callWith_K0 I.kIn M.kp (run_makeR (us := []) M F hr hx I .nil h)
end
end Sho
set_option Elab.async false
set_option linter.all false
namespace Sh1
open PySem L2
abbrev pw : Program := PySem.Challenge.pw_shoepile_k41_whole_habits
def top (i : Nat) : Stmt := PySem.Challenge.pw_shoepile_k41_whole_habits.main.body.getD i (.Pass ⟨0, 0, 0, 0⟩)
abbrev cPartyError : Stmt := top 1
abbrev cInvalidStay : Stmt := top 2
abbrev sInvInit : Stmt := inClass (top 2) 0
abbrev cUnknownGuest : Stmt := top 3
abbrev sUnkInit : Stmt := inClass (top 3) 0
abbrev cInvalidNumber : Stmt := top 4
abbrev cInvalidName : Stmt := top 5
abbrev cTooEarly : Stmt := top 6
abbrev cInvalidOperation : Stmt := top 7
abbrev sInvalidOperation_Init : Stmt := inClass (top 7) 0
abbrev cInvalidText : Stmt := top 8
abbrev sInvalidText_Init : Stmt := inClass (top 8) 0
abbrev cTooWide : Stmt := top 9
abbrev cDaybookError : Stmt := top 10
abbrev sDaybookError_Init : Stmt := inClass (top 10) 0
abbrev cDecodeError : Stmt := top 11
abbrev sDecodeError_Init : Stmt := inClass (top 11) 0
abbrev sIsWithin : Stmt := top 13
abbrev sCheckPileCount : Stmt := top 16
abbrev sFirstLeast : Stmt := top 17
abbrev cHabit : Stmt := top 18
abbrev sHabit_Init : Stmt := inClass (top 18) 1
abbrev sHabit_PileCount : Stmt := inClass (top 18) 2
abbrev sHabit_Call : Stmt := inClass (top 18) 3
abbrev cTurnHabit : Stmt := top 19
abbrev sTurnHabit_Call : Stmt := inClass (top 19) 1
abbrev cLowHabit : Stmt := top 20
abbrev sLowHabit_Call : Stmt := inClass (top 20) 1
abbrev cPlanHabit : Stmt := top 21
abbrev sPlanHabit_Call : Stmt := inClass (top 21) 1
abbrev sLawMix : Stmt := top 23
abbrev sLawNext : Stmt := top 24
abbrev sLawAlike : Stmt := top 25
abbrev sOut : Stmt := top 26
abbrev sLawHabit : Stmt := top 27
abbrev sLawChoice : Stmt := top 28
abbrev sLaw : Stmt := top 29
end Sh1
set_option Elab.async false
set_option linter.all false
set_option maxRecDepth 100000
set_option maxHeartbeats 2000000
/-! _law_mix, _law_next: draws; the state is the list at l, its cells stand in the list at S. -/
namespace Sh4
open PySem L2 Sho NdefX Shg Sh1
structure NextSt (H : Hp) (l S : Addr) : Prop where
  ex : ∃ (m p : Int) (cells : List Int), H l = some (.lst [.int m, .ref S, .int p]) ∧ H S = some (.lst (cells.map V.int)) ∧ cells.length ≤ 63
  ne : S ≠ l
theorem NextSt.same {H H' : Hp} {l S : Addr} (d : NextSt H l S) (s : Same H H') : NextSt H' l S := by
  obtain ⟨⟨m, p, cells, h1, h2, h3⟩, n⟩ := d
  exact ⟨⟨m, p, cells, s _ _ h1, s _ _ h2, h3⟩, n⟩
section
variable {P : Program} {w : World} {K : PySem.W.Frag} {mg : Str → Option Value} {base : Heap}
def spMix (K : PySem.W.Frag) : Sp := fun vs H Q _ => ∃ (a : Addr) (ns : List Int) (z : Int), vs = [.ref a, .int z] ∧ SqL K H a (ns.map V.int) ∧ ns.length ≤ 63 ∧ ∀ H' l S, Same H H' → H l = none → H S = none → NextSt H' l S → Q (.ref l) H'
theorem scMix : FnScope ["_law_script", "_law_seed", "_law_mixed", "_law_cell"] ["_law_script", "_law_seed"] (defScope sLawMix) := ⟨rfl, rfl, rfl, by decide +kernel, rfl, by decide +kernel, by decide +kernel⟩
theorem ok_mix {f : Addr} {fd : FuncData} (F : Fun K "_law_mix" "_law_mix" sLawMix f fd) (B : Blt mg) : FnOk P w K mg base CX0 1 f fd ["_law_script", "_law_seed"] (spMix K) := by
  refine F.ok scMix (fun vs H Q E h => ?_) (fun cdv A outer s H vs Q E hr h => ?_)
  · obtain ⟨a, ns, z, rfl, _⟩ := h
    rfl
  · obtain ⟨a, ns, z, rfl, ha, hlen, k⟩ := h
    have nd := scMix.nd
    refine ⟨_, pss_cons (ps_set (i := 2) nd rfl (Or.inl rfl) (pv 1)) (pss_cons (ps_for PassesOwn.never rfl (pi_list (pv 0)) (pg_name (i := 3) nd rfl (Or.inl rfl))
        (pss_one (ps_set (i := 2) nd rfl (Or.inl rfl) (pe_op op_mod (pe_op op_add (pe_op op_add (pe_op op_mul (pv 2) pe_int) (pe_op op_mod (pv 3) pe_int)) pe_int) pe_int))))
      (pss_one (ps_ret (pe_lst (pa_cons (pv 2) (pa_cons (pe_callTy call_list_of (by rfl) B.list (by decide +kernel) (pa_cons (pv 0) pa_nil)) (pa_cons pe_int pa_nil))))))), ?_⟩
    refine ⟨_, rfl, _, rfl, a, rfl, ⟨_, ha⟩, for_it walk_list (fun i σ H2 => ∃ (m : Int) (o : Option V), σ = [some (.ref a), some (.int z), some (.int m), o] ∧ H2 = H) ⟨z, none, rfl, rfl⟩
      (fun i σ H2 _ ⟨_, _, _, e⟩ => by rw [e]; exact ha) ?_ ?_⟩
    · rintro i y σ H2 H3 hi ⟨m, o, rfl, rfl⟩ ⟨rfl, e2⟩
      obtain ⟨c, rfl⟩ : ∃ c, y = V.int c := by
        rw [List.getElem?_map] at e2
        cases e : ns[i]? with
        | none =>
          rw [e] at e2
          cases e2
        | some c =>
          rw [e] at e2
          exact ⟨c, (Option.some.inj e2).symm⟩
      refine ⟨_, rfl, _, _, rfl, rfl, .inr ⟨by decide, by decide⟩, _, rfl, _, _, rfl, rfl, (by show (0 : Int) < 2147483629; decide), _, _, rfl, rfl, _, _, rfl, rfl, _, _, rfl, rfl, (by show (0 : Int) < 2147483647; decide), ?_⟩
      exact ⟨_, _, rfl, rfl⟩
    · rintro σ H2 ⟨m, o, rfl, rfl⟩
      refine ⟨_, rfl, _, rfl, a, _, rfl, .inl ha, fun S hS => ⟨by show 3 ≤ sizeLine; decide, fun l hl => ?_⟩⟩
      have s1 : Same H2 (upd H2 S (.lst (ns.map V.int))) := same_upd hS
      have s2 := s1.trans (same_upd (o := .lst [.int m, .ref S, .int 0]) hl)
      have nl : S ≠ l := fun e => by
        rw [← e, upd_same] at hl
        cases hl
      have hl0 : H2 l = none := by
        rw [upd_ne (Ne.symm nl)] at hl
        exact hl
      exact k _ l S s2 hl0 hS ⟨⟨m, 0, ns, upd_same, by rw [upd_ne nl]; exact upd_same, hlen⟩, nl⟩
def spNext : Sp := fun vs H Q _ => ∃ (l S : Addr) (n : Int), vs = [.ref l, .int n] ∧ NextSt H l S ∧ 0 < n ∧ n < 1073741824 ∧ ∀ (r : Int) H', 0 ≤ r → r < n → But2 l S H H' → NextSt H' l S → Q (.int r) H'
theorem scNext : FnScope ["_law_h", "_law_limit", "_law_cell"] ["_law_h", "_law_limit"] (defScope sLawNext) := ⟨rfl, rfl, rfl, by decide +kernel, rfl, by decide +kernel, by decide +kernel⟩
theorem set_cells {ns : List Int} {j : Nat} {c : Int} : (ns.map V.int).set j (.int c) = (ns.set j c).map V.int := by
  rw [List.map_set]
theorem ok_next {f : Addr} {fd : FuncData} (F : Fun K "_law_next" "_law_next" sLawNext f fd) (B : Blt mg) : FnOk P w K mg base CX0 1 f fd ["_law_h", "_law_limit"] spNext := by
  refine F.ok scNext (fun vs H Q E h => ?_) (fun cdv A outer s H vs Q E hr h => ?_)
  · obtain ⟨l, S, n, rfl, _⟩ := h
    rfl
  · obtain ⟨l, S, n, rfl, ⟨⟨m, p, cells, hl, hS, hlen⟩, ne⟩, n0, n1, k⟩ := h
    have nd := scNext.nd
    refine ⟨_, pss_cons (ps_set (i := 2) nd rfl (Or.inl rfl) (pe_ix ix_list (pe_op op_cat (pe_ix ix_list (pv 0) pe_int (fun _ _ => rfl)) (pe_lst (pa_cons pe_int pa_nil)))
          (pe_op op_mod (pe_ix ix_list (pv 0) pe_int (fun _ _ => rfl)) (pe_callB (call_max2 rfl) (by rfl) B.max (by decide +kernel) (pa_cons pe_int (pa_cons (pe_callB call_len_seq (by rfl) B.len PySem.boot_len (pa_cons (pe_ix ix_list (pv 0) pe_int (fun _ _ => rfl)) pa_nil)) pa_nil)))) (fun _ _ => rfl)))
      (pss_cons (ps_if (pt_cmpR op_ge (pv 2) (pe_op op_pow pe_int pe_int) (nomark _))
        (pss_cons (ps_asg (pe_op op_fdiv (pv 2) (pv 1)) (pg_sub (pe_ix ix_list (pv 0) pe_int (fun _ _ => rfl)) (pe_op op_mod (pe_ix ix_list (pv 0) pe_int (fun _ _ => rfl)) (pe_callB call_len_seq (by rfl) B.len PySem.boot_len (pa_cons (pe_ix ix_list (pv 0) pe_int (fun _ _ => rfl)) pa_nil))) set_list))
          (pss_one (ps_ret (pe_op op_mod (pv 2) (pv 1))))) pss_nil)
      (pss_cons (ps_asg (pe_op op_mod (pe_op op_add (pe_op op_add (pe_op op_mul (pe_ix ix_list (pv 0) pe_int (fun _ _ => rfl)) pe_int) (pe_op op_mul (pv 2) pe_int)) pe_int) pe_int) (pg_sub (pv 0) pe_int set_list))
      (pss_cons (ps_asg (pe_op op_add (pe_ix ix_list (pv 0) pe_int (fun _ _ => rfl)) pe_int) (pg_sub (pv 0) pe_int set_list))
      (pss_one (ps_ret (pe_op op_mod (pe_op op_fdiv (pe_ix ix_list (pv 0) pe_int (fun _ _ => rfl)) pe_int) (pv 1))))))), ?_⟩
    have fin : ∀ (r m' p' : Int) (cs : List Int) (H1 : Hp), 0 ≤ r → r < n → But2 l S H H1 → H1 l = some (.lst [.int m', .ref S, .int p']) → H1 S = some (.lst (cs.map V.int)) → cs.length ≤ 63 → Q (.int r) H1 := fun r m' p' cs H1 a1 a2 bu e1 e2 e3 =>
      k r H1 a1 a2 bu ⟨⟨m', p', cs, e1, e2, e3⟩, ne⟩
    have lm : (cells.map V.int).length = cells.length := List.length_map ..
    refine ⟨_, rfl, l, _, 1, .ref S, rfl, rfl, SqL.of hl, atI_nat (j := 1) rfl, by show 1 ≤ sizeLine; decide, fun L1 hL1 => ?_⟩
    have s1 : Same H (upd H L1 (.lst [.int 0])) := same_upd hL1
    refine ⟨S, L1, _, _, rfl, rfl, s1 _ _ hS, upd_same, by rw [lm]; show cells.length + 1 ≤ sizeLine; exact Nat.le_trans (Nat.succ_le_succ hlen) (by decide), fun C hC => ?_⟩
    have s2 := s1.trans (same_upd (o := .lst (cells.map V.int ++ [.int 0])) hC)
    generalize hH2 : upd (upd H L1 (.lst [.int 0])) C (.lst (cells.map V.int ++ [.int 0])) = H2 at s2
    have eC : H2 C = some (.lst (cells.map V.int ++ [.int 0])) := by rw [← hH2]; exact upd_same
    have hl2 := s2 _ _ hl
    have hS2 := s2 _ _ hS
    -- the number of cells, at least one
    have mx : ∀ {M : Int}, M = (if (cells.length : Int) > 1 then (cells.length : Int) else 1) → 0 < M ∧ M ≤ 63 ∧ (0 < cells.length → M = cells.length) := fun {M} e => by
      rw [e]
      split <;> omega
    generalize hM : (if (cells.length : Int) > 1 then (cells.length : Int) else 1) = M at *
    obtain ⟨M0, M1, M2⟩ := mx (M := M) rfl
    have q0 := Int.emod_nonneg p (b := M) (by omega)
    have q1 := Int.emod_lt_of_pos p M0
    obtain ⟨j, hj⟩ : ∃ j : Nat, p % M = (j : Int) := ⟨(p % M).toNat, by omega⟩
    -- the cell
    obtain ⟨c, hc, hcc⟩ : ∃ c : Int, (cells.map V.int ++ [V.int 0])[j]? = some (V.int c) ∧ (cells[j]? = some c ∨ c = 0) := by
      by_cases hjl : j < cells.length
      · refine ⟨cells[j], ?_, .inl (List.getElem?_eq_getElem hjl)⟩
        rw [List.getElem?_append_left (by rw [lm]; exact hjl), List.getElem?_map, List.getElem?_eq_getElem hjl]
        rfl
      · have : j = cells.length := by omega
        refine ⟨0, ?_, .inr rfl⟩
        rw [List.getElem?_append_right (by rw [lm]; omega), lm, this, Nat.sub_self]
        rfl
    refine ⟨_, rfl, l, _, 2, .int p, rfl, rfl, SqL.of hl2, atI_nat (j := 2) rfl, _, rfl, l, _, 1, .ref S, rfl, rfl, SqL.of hl2, atI_nat (j := 1) rfl, S, _, rfl, .inl (SqL.of hS2), 1, (cells.length : Int), by rw [lm], ?_⟩
    rw [hM]
    refine ⟨p, M, rfl, rfl, M0, C, _, p % M, .int c, rfl, rfl, SqL.of eC, by rw [hj]; exact atI_nat hc, ?_⟩
    refine ⟨_, rfl, _, _, rfl, rfl, ⟨by decide, by decide, by decide⟩, _, _, rfl, rfl, _, rfl, ?_⟩
    refine ite2 (fun h1 => ?_) (fun h1 => ?_)
    · have c0 : (10 : Int) ^ (18 : Int).toNat ≤ c := of_decide_eq_true h1
      have c1 : (0 : Int) < 10 ^ (18 : Int).toNat := by decide
      have hcl : cells[j]? = some c := hcc.resolve_right (by omega)
      have jl : j < cells.length := (List.getElem?_eq_some_iff.mp hcl).1
      have eM : M = cells.length := M2 (by omega)
      refine ⟨_, rfl, _, rfl, _, _, rfl, rfl, ⟨n0, n1⟩, _, rfl, l, _, 1, .ref S, rfl, rfl, SqL.of hl2, atI_nat (j := 1) rfl, _, rfl, l, _, 2, .int p, rfl, rfl, SqL.of hl2, atI_nat (j := 2) rfl,
        _, rfl, l, _, 1, .ref S, rfl, rfl, SqL.of hl2, atI_nat (j := 1) rfl, S, _, rfl, .inl (SqL.of hS2), p, (cells.length : Int), rfl, by rw [lm], by omega, S, _, p % (cells.length : Int), j, rfl, rfl, hS2, ?_, ?_⟩
      · rw [← eM, hj, lm]
        exact ixN_nat jl
      · refine ⟨_, rfl, _, rfl, _, _, rfl, rfl, n0, ?_⟩
        rw [set_cells]
        exact fin _ m p (cells.set j (c / n)) _ (Int.emod_nonneg _ (by omega)) (Int.emod_lt_of_pos _ n0) ((But2.of s2).trans .upd2) (by rw [upd_ne (Ne.symm ne)]; exact hl2) upd_same (by rw [List.length_set]; exact hlen)
    · refine ⟨_, rfl, l, _, 0, .int m, rfl, rfl, SqL.of hl2, atI_nat (j := 0) rfl, _, _, rfl, rfl, .inr ⟨by decide, by decide⟩, _, rfl, _, _, rfl, rfl, .inr ⟨by decide, by decide⟩, _, _, rfl, rfl, _, _, rfl, rfl, _, _, rfl, rfl, (by show (0 : Int) < 2147483647; decide), _, rfl, l, _, 0, 0, rfl, rfl, hl2, rfl, ?_⟩
      refine ⟨_, rfl, l, _, 2, .int p, rfl, rfl, SqL.of upd_same, atI_nat (j := 2) rfl, _, _, rfl, rfl, _, rfl, l, _, 2, 2, rfl, rfl, upd_same, rfl, ?_⟩
      refine ⟨_, rfl, l, _, 0, .int ((m * 48271 + c * 69621 + 11) % 2147483647), rfl, rfl, SqL.of upd_same, atI_nat (j := 0) rfl, _, _, rfl, rfl, ⟨by decide, by decide⟩, _, rfl, _, _, rfl, rfl, n0, ?_⟩
      exact fin _ ((m * 48271 + c * 69621 + 11) % 2147483647) (p + 1) cells _ (Int.emod_nonneg _ (by omega)) (Int.emod_lt_of_pos _ n0) (((But2.of s2).trans .upd1).trans .upd1) upd_same (by rw [upd_ne ne, upd_ne ne]; exact hS2) hlen
end
end Sh4
set_option Elab.async false
set_option linter.all false
set_option maxRecDepth 100000
set_option maxHeartbeats 2000000
/-! _law_alike on ints, texts, bools, None, lists and tuples of them. -/
namespace Sh4
open PySem L2 Sho NdefX Shg Sh1
def LeafV : V → Prop
  | .int _ => True
  | .str _ => True
  | .bl _ => True
  | .non => True
  | _ => False
def Alike (H : Hp) : Nat → V → V → Prop
  | 0, x, y => LeafV x ∧ x = y
  | n + 1, x, y => (LeafV x ∧ x = y) ∨ ∃ (a b : Addr) (xs ys : List V), x = .ref a ∧ y = .ref b ∧ ((H a = some (.lst xs) ∧ H b = some (.lst ys)) ∨ (H a = some (.tup xs) ∧ H b = some (.tup ys))) ∧ xs.length ≤ 1000 ∧ PySem.Paired (fun u v => Alike H n u v) xs ys
theorem Alike.same {H H' : Hp} (s : Same H H') : ∀ {n : Nat} {x y : V}, Alike H n x y → Alike H' n x y
  | 0, _, _, h => h
  | n + 1, x, y, h => by
    rcases h with h | ⟨a, b, xs, ys, e1, e2, e3, e4, e5⟩
    · exact .inl h
    · exact .inr ⟨a, b, xs, ys, e1, e2, e3.imp (fun z => ⟨s _ _ z.1, s _ _ z.2⟩) (fun z => ⟨s _ _ z.1, s _ _ z.2⟩), e4, pair_mono (fun u v q => Alike.same s q) e5⟩
section
variable {P : Program} {w : World} {K : PySem.W.Frag} {mg : Str → Option Value} {base : Heap}
def spAlike (n : Nat) : Sp := fun vs H Q _ => ∃ (x y : V), vs = [x, y] ∧ Alike H n x y ∧ ∀ H', Same H H' → Q (.bl true) H'
theorem scAlike : FnScope ["_law_found", "_law_due", "_law_k"] ["_law_found", "_law_due"] (defScope sLawAlike) := ⟨rfl, rfl, rfl, by decide +kernel, rfl, by decide +kernel, by decide +kernel⟩
theorem kA {K : PySem.W.Frag} {t : String} (h1 : kitB t "tuple" = some false) (h2 : kitB t "list" = some false) : PySem.W.kitAny K (.type t) [.type "tuple", .type "list"] = some false :=
  kitAny_cons (b := false) h1 (fun _ => kitAny_cons (b := false) h2 (fun _ => rfl) fun z => nomatch z) fun z => nomatch z
theorem kT {K : PySem.W.Frag} : PySem.W.kitAny K (.type "tuple") [.type "tuple", .type "list"] = some true :=
  kitAny_cons (b := true) (show kitB "tuple" "tuple" = some true by decide +kernel) (fun z => nomatch z) fun _ => rfl
theorem kL {K : PySem.W.Frag} : PySem.W.kitAny K (.type "list") [.type "tuple", .type "list"] = some true :=
  kitAny_cons (b := false) (show kitB "list" "tuple" = some false by decide +kernel) (fun _ => kitAny_cons (b := true) (show kitB "list" "list" = some true by decide +kernel) (fun z => nomatch z) fun _ => rfl) fun z => nomatch z
/-- what the tests ask of a leaf's class -/
structure LeafTy (K : PySem.W.Frag) (x : V) (t : String) (isNon isStr isInt isBool : Bool) : Prop where
  ty : ∀ H, TyX K H x (.type t)
  kd : kitB t "dict" = some false
  ka : PySem.W.kitAny K (.type t) [.type "tuple", .type "list"] = some false
  non : decide (x = .non) = isNon
  str : kitB t "str" = some isStr
  int : kitB t "int" = some isInt
  bool : kitB t "bool" = some isBool
  sc : scal x x = true
theorem leaf_ty {x : V} (h : LeafV x) : ∃ t isNon isStr isInt isBool, LeafTy K x t isNon isStr isInt isBool ∧ ((isNon || isStr) = false → isInt = true) := by
  cases x with
  | int i => exact ⟨"int", false, false, true, false, ⟨fun _ => .base (.int i), by decide +kernel, kA (by decide +kernel) (by decide +kernel), rfl, by decide +kernel, by decide +kernel, by decide +kernel, rfl⟩, fun _ => rfl⟩
  | str z => exact ⟨"str", false, true, false, false, ⟨fun _ => .base (.str z), by decide +kernel, kA (by decide +kernel) (by decide +kernel), rfl, by decide +kernel, by decide +kernel, by decide +kernel, rfl⟩, fun z => nomatch z⟩
  | bl b => exact ⟨"bool", false, false, true, true, ⟨fun _ => .base (.bl b), by decide +kernel, kA (by decide +kernel) (by decide +kernel), rfl, by decide +kernel, by decide +kernel, by decide +kernel, rfl⟩, fun _ => rfl⟩
  | non => exact ⟨"NoneType", true, false, false, false, ⟨fun _ => .base .non, by decide +kernel, kA (by decide +kernel) (by decide +kernel), rfl, by decide +kernel, by decide +kernel, by decide +kernel, rfl⟩, fun z => nomatch z⟩
  | _ => exact h.elim
theorem alike_split {H : Hp} {n : Nat} {sp' : Sp} {x y : V} (hn : n = 0 ∨ ∃ m, n = m + 1 ∧ sp' = spAlike m) (h : Alike H n x y) :
    (LeafV x ∧ x = y) ∨ ∃ (m : Nat) (a b : Addr) (xs ys : List V), sp' = spAlike m ∧ x = .ref a ∧ y = .ref b ∧ ((H a = some (.lst xs) ∧ H b = some (.lst ys)) ∨ (H a = some (.tup xs) ∧ H b = some (.tup ys))) ∧ xs.length ≤ 1000 ∧ PySem.Paired (fun u v => Alike H m u v) xs ys := by
  rcases hn with rfl | ⟨m, rfl, e⟩
  · exact .inl h
  · rcases h with h | ⟨a, b, xs, ys, e1, e2, e3, e4, e5⟩
    · exact .inl h
    · exact .inr ⟨m, a, b, xs, ys, e, e1, e2, e3, e4, e5⟩
/-- both readings of a subscript -/
theorem ix_seq {X : Cx} {o i : Expr} {to ti : TE} {pos : Pos} (h1 : PE X (.Subscript o i pos) (tOp (rIxL X.K) to ti)) (h2 : PE X (.Subscript o i pos) (tOp (rIxT X.K) to ti)) : PE X (.Subscript o i pos) (fun σ H Q => tOp (rIxL X.K) to ti σ H Q ∨ tOp (rIxT X.K) to ti σ H Q) := pe_either h1 h2
theorem alike_step {k n : Nat} {sp' : Sp} {f : Addr} {fd : FuncData} (F : Fun K "_law_alike" "_law_alike" sLawAlike f fd) (B : Blt mg) (mF : mg "_law_alike" = some (.ref f)) (bF : Binds K fd ["_law_found", "_law_due"] [])
    (ih : FnOk P w K mg base CX0 k f fd ["_law_found", "_law_due"] sp') (hn : n = 0 ∨ ∃ m, n = m + 1 ∧ sp' = spAlike m) : FnOk P w K mg base CX0 (k + 1) f fd ["_law_found", "_law_due"] (spAlike n) := by
  refine F.ok scAlike (fun vs H Q E h => ?_) (fun cdv A outer s H vs Q E hr h => ?_)
  · obtain ⟨x, y, rfl, _⟩ := h
    rfl
  · obtain ⟨x, y, rfl, hx, kk⟩ := h
    have nd := scAlike.nd
    refine ⟨_, pss_cons (ps_if (pt_val (pe_callB call_isi (by rfl) B.isi (by decide +kernel) (pa_cons (pv 1) (pa_cons (pe_bltn (v := .ty "dict") (by rfl) B.dict (by decide +kernel) rfl) pa_nil)))) (pss_one ps_never) pss_nil)
      (pss_cons (ps_if (pt_val (pe_callB call_isiT (by rfl) B.isi (by decide +kernel) (pa_cons (pv 1) (pa_cons (pe_tup (pa_cons (pe_bltn (v := .ty "tuple") (by rfl) B.tuple (by decide +kernel) rfl) (pa_cons (pe_bltn (v := .ty "list") (by rfl) B.list (by decide +kernel) rfl) pa_nil))) pa_nil))))
        (pss_cons (ps_if (PW.pt (pw_or (pt_not (pt_val (pe_callB call_isiT (by rfl) B.isi (by decide +kernel) (pa_cons (pv 0) (pa_cons (pe_tup (pa_cons (pe_bltn (v := .ty "tuple") (by rfl) B.tuple (by decide +kernel) rfl) (pa_cons (pe_bltn (v := .ty "list") (by rfl) B.list (by decide +kernel) rfl) pa_nil))) pa_nil)))))
            (pw_or1 (pt_cmpR op_ne (pe_callB call_isi (by rfl) B.isi (by decide +kernel) (pa_cons (pv 0) (pa_cons (pe_bltn (v := .ty "list") (by rfl) B.list (by decide +kernel) rfl) pa_nil))) (pe_callB call_isi (by rfl) B.isi (by decide +kernel) (pa_cons (pv 1) (pa_cons (pe_bltn (v := .ty "list") (by rfl) B.list (by decide +kernel) rfl) pa_nil))) (nomark _)))))
            (pss_one (ps_ret pe_bl)) pss_nil)
        (pss_cons (ps_if (pt_cmpR op_ne (pe_callB call_len_seq (by rfl) B.len PySem.boot_len (pa_cons (pv 0) pa_nil)) (pe_callB call_len_seq (by rfl) B.len PySem.boot_len (pa_cons (pv 1) pa_nil)) (nomark _)) (pss_one (ps_ret pe_bl)) pss_nil)
        (pss_one (ps_ret (pe_cmpR (op_eqD (hr.mono (Nat.zero_le _)).units) (pe_lc (own := [("_law_k", 2)]) (g := gName 2) (tt := tNot (tB (tCall sp' [] E0 (tCons (fun σ H Q => tOp (rIxL K) (tVar 0) (tVar 2) σ H Q ∨ tOp (rIxT K) (tVar 0) (tVar 2) σ H Q) (tCons (fun σ H Q => tOp (rIxL K) (tVar 1) (tVar 2) σ H Q ∨ tOp (rIxT K) (tVar 1) (tVar 2) σ H Q) tNil))))) rfl nd
            (pi_range1 (by rfl) B.range (pa_cons (pe_callB call_len_seq (by rfl) B.len PySem.boot_len (pa_cons (pv 1) pa_nil)) pa_nil)) (blkOk_by (own := [("_law_k", 2)]) (N := ["_law_found", "_law_due", "_law_k"]) (sc := defScope sLawAlike) (by decide +kernel))
            (fun _ _ _ _ _ => pg_name (i := 2) nd rfl (Or.inl rfl))
            (fun _ _ _ _ _ => pts_one (pt_not (pt_val (pe_call ih hr rfl mF F.kp bF .nil pass0 (pa_cons (pe_either (pe_ix ix_list (pv 0) (pv 2) (fun _ _ => rfl)) (pe_ix ix_tup (pv 0) (pv 2) (fun _ _ => rfl))) (pa_cons (pe_either (pe_ix ix_list (pv 1) (pv 2) (fun _ _ => rfl)) (pe_ix ix_tup (pv 1) (pv 2) (fun _ _ => rfl))) pa_nil))))))
            (fun _ _ _ _ _ => pv 2)) (pe_lst pa_nil) (nomark _)))))) pss_nil)
      (pss_cons (ps_if (PW.pt (pw_or (pt_cmpR op_isN (pv 1) pe_non (nomark _)) (pw_or1 (pt_val (pe_callB call_isi (by rfl) B.isi (by decide +kernel) (pa_cons (pv 1) (pa_cons (pe_bltn (v := .ty "str") (by rfl) B.str (by decide +kernel) rfl) pa_nil)))))))
        (pss_one (ps_ret (pe_and (pe_cmpR op_eq (pv 0) (pv 1) (nomark _)) (pe_one (pe_cmpR op_eq (pe_callB call_isi (by rfl) B.isi (by decide +kernel) (pa_cons (pv 0) (pa_cons (pe_bltn (v := .ty "str") (by rfl) B.str (by decide +kernel) rfl) pa_nil))) (pe_callB call_isi (by rfl) B.isi (by decide +kernel) (pa_cons (pv 1) (pa_cons (pe_bltn (v := .ty "str") (by rfl) B.str (by decide +kernel) rfl) pa_nil))) (nomark _)))))) pss_nil)
      (pss_one (ps_ret (pe_and (pe_callB call_isi (by rfl) B.isi (by decide +kernel) (pa_cons (pv 0) (pa_cons (pe_bltn (v := .ty "int") (by rfl) B.int (by decide +kernel) rfl) pa_nil)))
        (pe_and (pe_cmpR op_eq (pe_callB call_isi (by rfl) B.isi (by decide +kernel) (pa_cons (pv 0) (pa_cons (pe_bltn (v := .ty "bool") (by rfl) B.bool (by decide +kernel) rfl) pa_nil))) (pe_callB call_isi (by rfl) B.isi (by decide +kernel) (pa_cons (pv 1) (pa_cons (pe_bltn (v := .ty "bool") (by rfl) B.bool (by decide +kernel) rfl) pa_nil))) (nomark _))
        (pe_one (pe_cmpR op_eq (pv 0) (pv 1) (nomark _))))))))), ?_⟩
    rcases alike_split hn hx with ⟨hl, e⟩ | ⟨m, a, b, xs, ys, e, rfl, rfl, h1, h2, h3⟩
    · subst e
      obtain ⟨t, bn, bs, bi, bb, T, imp⟩ := leaf_ty (K := K) hl
      refine ⟨_, rfl, x, _, .type t, .type "dict", false, rfl, .ty _, T.ty _, T.kd, _, rfl, iteF ?_⟩
      refine ⟨_, rfl, by decide, fun tp htp => ?_⟩
      have s1 : Same H (upd H tp (.tup [.ty "tuple", .ty "list"])) := same_upd htp
      refine ⟨x, tp, _, .type t, [.type "tuple", .type "list"], false, rfl, upd_same, .cons (.ty _) (.cons (.ty _) .nil), T.ty _, T.ka, _, rfl, iteF ?_⟩
      have str_end : ∀ H1, Same H H1 → Q (.bl (decide (V.bl bs = V.bl bs))) H1 := fun H1 s1 => by
        rw [decide_eq_true rfl]
        exact kk _ s1
      refine ⟨_, rfl, rfl, _, rfl, ?_⟩
      rw [T.non]
      cases hbn : bn with
      | true =>
        refine iteT (iteT ?_)
        exact ⟨_, rfl, _, rfl, T.sc, true, by rw [decide_eq_true rfl], iteT ⟨_, rfl, x, _, .type t, .type "str", bs, rfl, .ty _, T.ty _, T.str, _, rfl, x, _, .type t, .type "str", bs, rfl, .ty _, T.ty _, T.str, rfl, str_end _ s1⟩⟩
      | false =>
        refine iteF ⟨_, rfl, x, _, .type t, .type "str", bs, rfl, .ty _, T.ty _, T.str, _, rfl, ?_⟩
        cases hbs : bs with
        | true =>
          rw [hbs] at str_end
          have Ts := T.str
          rw [hbs] at Ts
          refine iteT ?_
          exact ⟨_, rfl, _, rfl, T.sc, true, by rw [decide_eq_true rfl], iteT ⟨_, rfl, x, _, .type t, .type "str", true, rfl, .ty _, T.ty _, Ts, _, rfl, x, _, .type t, .type "str", true, rfl, .ty _, T.ty _, Ts, rfl, str_end _ s1⟩⟩
        | false =>
          have ebi := imp (by rw [hbn, hbs]; rfl)
          have Ti := T.int
          rw [ebi] at Ti
          refine iteF ⟨_, rfl, x, _, .type t, .type "int", true, rfl, .ty _, T.ty _, Ti, true, rfl, iteT ⟨_, rfl, x, _, .type t, .type "bool", bb, rfl, .ty _, T.ty _, T.bool, _, rfl, x, _, .type t, .type "bool", bb, rfl, .ty _, T.ty _, T.bool, rfl,
            true, by rw [decide_eq_true rfl], iteT ⟨_, rfl, _, rfl, T.sc, ?_⟩⟩⟩
          rw [decide_eq_true rfl]
          exact kk _ s1
    · subst e
      have ll := pair_len h3
      obtain ⟨tn, tyA, tyB, kd, ka, bl, kl⟩ : ∃ tn : String, (∀ H', Same H H' → TyX K H' (.ref a) (.type tn)) ∧ (∀ H', Same H H' → TyX K H' (.ref b) (.type tn)) ∧ kitB tn "dict" = some false ∧ PySem.W.kitAny K (.type tn) [.type "tuple", .type "list"] = some true ∧ ∃ bl, kitB tn "list" = some bl := by
        rcases h1 with ⟨e1, e2⟩ | ⟨e1, e2⟩
        · exact ⟨"list", fun H' s' => .base (.lst (s' _ _ e1)), fun H' s' => .base (.lst (s' _ _ e2)), by decide +kernel, kL, true, by decide +kernel⟩
        · exact ⟨"tuple", fun H' s' => .base (.tup (s' _ _ e1)), fun H' s' => .base (.tup (s' _ _ e2)), by decide +kernel, kT, false, by decide +kernel⟩
      have seqs : ∀ H', Same H H' → (SqL K H' a xs ∨ SqT K H' a xs) ∧ (SqL K H' b ys ∨ SqT K H' b ys) := fun H' s' => by
        rcases h1 with ⟨e1, e2⟩ | ⟨e1, e2⟩
        · exact ⟨.inl (SqL.of (s' _ _ e1)), .inl (SqL.of (s' _ _ e2))⟩
        · exact ⟨.inr (SqT.of (s' _ _ e1)), .inr (SqT.of (s' _ _ e2))⟩
      refine ⟨_, rfl, .ref b, _, .type tn, .type "dict", false, rfl, .ty _, tyB _ (Same.refl _), kd, _, rfl, iteF ?_⟩
      refine ⟨_, rfl, by decide, fun tp htp => ?_⟩
      have s1 : Same H (upd H tp (.tup [.ty "tuple", .ty "list"])) := same_upd htp
      refine ⟨.ref b, tp, _, .type tn, [.type "tuple", .type "list"], true, rfl, upd_same, .cons (.ty _) (.cons (.ty _) .nil), tyB _ s1, ka, _, rfl, iteT ?_⟩
      refine ⟨_, rfl, by decide, fun tq htq => ?_⟩
      have s2 := s1.trans (same_upd (o := .tup [.ty "tuple", .ty "list"]) htq)
      refine ⟨.ref a, tq, _, .type tn, [.type "tuple", .type "list"], true, rfl, upd_same, .cons (.ty _) (.cons (.ty _) .nil), tyA _ s2, ka, _, rfl, iteF ?_⟩
      refine ⟨_, rfl, .ref a, _, .type tn, .type "list", bl, rfl, .ty _, tyA _ s2, kl, _, rfl, .ref b, _, .type tn, .type "list", bl, rfl, .ty _, tyB _ s2, kl, rfl, false, by rw [decide_eq_true rfl]; rfl, iteF ?_⟩
      generalize upd (upd H tp (.tup [.ty "tuple", .ty "list"])) tq (.tup [.ty "tuple", .ty "list"]) = H2 at s2
      refine ⟨_, rfl, a, xs, rfl, (seqs _ s2).1, _, rfl, b, ys, rfl, (seqs _ s2).2, rfl, false, ?_, iteF ?_⟩
      · have e : (xs.length : Int) = (ys.length : Int) := by rw [ll]
        rw [e, decide_eq_true rfl]
        rfl
      · have hlen : (ys.length : Int).toNat = ys.length := by simp
        have l1000 : ys.length ≤ 1000 := by omega
        refine ⟨_, rfl, b, ys, rfl, (seqs _ s2).2, (ys.length : Nat), rfl, by omega, by omega, fun D hD => ?_⟩
        refine lc_gather walk_range (fun _ => none) hD (by rw [hlen]; exact Nat.le_trans l1000 (by decide)) (fun _ _ => trivial) (fun i v H3 H4 hi s3 yv R k1 => ?_) fun H3 s3 e3 => ?_
        · obtain ⟨rfl, rfl⟩ := yv
          rw [hlen] at hi
          obtain ⟨x', hx'⟩ : ∃ x', xs[i]? = some x' := ⟨_, List.getElem?_eq_getElem (by omega)⟩
          obtain ⟨y', hy', st⟩ := pair_get h3 hx'
          have s23 := s2.trans s3
          have zi : (0 : Int) + (i : Nat) = (i : Nat) := by omega
          have at_ : ∀ {p : Addr} {zs : List V} {z : V} {sl : Nat} {σ : L2.St} {H5 : Hp} {Q' : VK}, σ[sl]? = some (some (.ref p)) → σ[2]? = some (some (.int ((0 : Int) + (i : Nat)))) → (SqL K H5 p zs ∨ SqT K H5 p zs) → zs[i]? = some z → Q' z H5 →
              tOp (rIxL K) (tVar sl) (tVar 2) σ H5 Q' ∨ tOp (rIxT K) (tVar sl) (tVar 2) σ H5 Q' := fun e1 e2 hs hz q => by
            rcases hs with hs | hs
            · exact .inl ⟨_, e1, _, e2, _, _, _, _, rfl, rfl, hs, by rw [zi]; exact atI_nat hz, q⟩
            · exact .inr ⟨_, e1, _, e2, _, _, _, _, rfl, rfl, hs, by rw [zi]; exact atI_nat hz, q⟩
          refine ⟨rfl, at_ rfl rfl (seqs _ s23).1 hx' (at_ rfl rfl (seqs _ s23).2 hy' ?_)⟩
          exact ⟨x', y', rfl, st.same s23, fun H5 s5 => ⟨_, rfl, iteF (k1 _ s5)⟩⟩
        · have g0 : gather (fun _ => none) ((ys.length : Int).toNat) = [] := by
            unfold gather
            simp
          rw [g0] at e3
          refine ⟨by decide, fun L hL => ?_⟩
          have s4 : Same H3 (upd H3 L (.lst [])) := same_upd hL
          exact ⟨.list [], .list [], .lst (SqL.of (s4 _ _ e3)) .nil, .lst (SqL.of upd_same) .nil, rfl, rfl, kk _ ((s2.trans s3).trans s4)⟩
theorem ok_alike {f : Addr} {fd : FuncData} (F : Fun K "_law_alike" "_law_alike" sLawAlike f fd) (B : Blt mg) (mF : mg "_law_alike" = some (.ref f)) (bF : Binds K fd ["_law_found", "_law_due"] []) : ∀ n, FnOk P w K mg base CX0 (n + 1) f fd ["_law_found", "_law_due"] (spAlike n)
  | 0 => alike_step F B mF bF ok_no (.inl rfl)
  | n + 1 => alike_step F B mF bF (ok_alike F B mF bF n) (.inr ⟨n, rfl, rfl⟩)
end
end Sh4
set_option Elab.async false
set_option linter.all false
set_option maxRecDepth 100000
set_option maxHeartbeats 4000000
/-! list.count of flat values; isinstance of a caught error of an own class, with or without fields. -/
namespace Sho
open PySem PySem.Spec PyProof.Rows L2
section
variable {X : Cx}
theorem count_flat {y : V} : ∀ {us : List Value} {ys : List V}, Vals ys us → ys.all flatV = true → us.countP (eqU y) = ys.countP fun z => eqV z y
  | _, _, .nil, _ => rfl
  | u :: us, z :: ys, .cons r t, f => by
    rw [List.all_cons, Bool.and_eq_true] at f
    rw [List.countP_cons, List.countP_cons, count_flat t f.2, eqU_of r f.1]
def rCntF (K : PySem.W.Frag) : V → List V → Hp → VK → Prop := fun x xs H Q => ∃ (p : Addr) (ys : List V) (y : V), x = .ref p ∧ xs = [y] ∧ SqL K H p ys ∧ flatV y = true ∧ ys.all flatV = true ∧ Q (.int (ys.countP (fun z => eqV z y) : Nat)) H
theorem mt_countF : MtR X "list.count" (rCntF X.K) := by
  intro pins s σ H x xs v us Q I rx rxs h
  obtain ⟨p, ys, y, rfl, rfl, hs, fy, fys, q⟩ := h
  cases rx
  obtain ⟨u, rfl, ru⟩ := rxs.one
  obtain ⟨its, rv, ⟨⟨cls, dd, data, sl⟩, n, ho, hc, hdn, hd⟩, hlen⟩ := I.list hs
  simp only at hc hd
  subst hc hd
  refine call_meets PySem.F.slot_list_count ⟨_, ho, rfl⟩ PySem.F.entry_list_count (PySem.F.args_list_count_2 _ _)
    (SeqAt.list_countAt p its.toArray n dd sl u (eqU y)) ⟨ho, fun z hz => mem_eqAt ru fy rv fys z (by simpa using hz), ?_⟩
  have ec : its.toArray.toList.countP (eqU y) = ys.countP fun z => eqV z y := count_flat rv fys
  refine ⟨.int (ys.countP (fun z => eqV z y) : Nat), H, I.tok _, ⟨s.toks, ?_⟩, q⟩
  show Value.int ((its.toArray.toList.countP (eqU y) : Nat) : Int) s.toks = Value.int ((ys.countP (fun z => eqV z y) : Nat) : Int) s.toks
  rw [ec]
/-- isinstance(e, c), e the exception that the suite holds: its class and its dict are told when it is read -/
def rIsX (K : PySem.W.Frag) (cls : Value) (d : Option Addr) (a : Addr) : List V → Hp → VK → Prop := fun xs H Q => ∃ (D : Addr) (c : V) (cv : Value) (b : Bool), cls = .ref D ∧ ExcC K D ∧ (∀ dd, d = some dd → ∃ fs, H dd = some (.xd fs)) ∧
  xs = [.ref a, c] ∧ (∀ u, RelV c u → u = cv) ∧ PySem.W.kitOne K (.ref D) cv = some b ∧ Q (.bl b) H
theorem call_isX {a : Addr} {oe : Obj} {cls : Value} {d : Option Addr} {pn : List (Addr × Obj)} (hz : Zc cls d oe) (hf : ∃ vs, oe.data = .fields vs) : CallR (X.suite a ((a, oe) :: pn)) (.builtin "isinstance") (rIsX X.K cls d a) := by
  intro pins s σ H xs us Q I r h
  obtain ⟨D, c, cv, b, hc, C, hd, rfl, hcv, e, q⟩ := h
  subst hc
  cases r with
  | cons rx rr =>
    cases rr with
    | cons rt rr =>
      cases rr
      cases rx
      have ec := hcv _ rt
      subst ec
      obtain ⟨hget, _⟩ := I.pin (a, oe) (List.mem_append.mpr (.inl List.mem_cons_self))
      obtain ⟨vs, hv⟩ := hf
      obtain ⟨od, J⟩ : ∃ od, PySem.W.InstAt s.heap a oe D od := by
        obtain ⟨oc, od, oda, osl⟩ := oe
        obtain ⟨h1, h2⟩ := hz
        dsimp only at h1 h2 hv
        subst h1 h2 hv
        cases od with
        | none => exact ⟨none, hget, rfl, rfl, trivial⟩
        | some dd =>
          obtain ⟨fs, hfs⟩ := hd dd rfl
          obtain ⟨mA, n, _⟩ : ObjOk (X.suite a _).prog (X.suite a _).w H s.heap dd (.xd fs) := I.hok dd _ hfs
          obtain ⟨o, es, ep, ho, _⟩ := n
          exact ⟨some o, hget, rfl, rfl, ho⟩
      have cl : (PySem.W.clsIn X.K D).isSome = true := by
        obtain ⟨cd, hc, _⟩ := PySem.W.any_some C.hd
        rw [hc]
        rfl
      exact PySem.W.kia_one (PySem.W.kitx_exc cl C.hg C.hk C.hs C.ha C.hn C.ht C.hm) I.kIn J e (fun z => nomatch z) fun tk => ⟨.bl b, H, I.kept (t' := tk) fun _ _ z => z, rfl, q⟩
/-! ### the same rules within an except suite: their readings speak of the outer context -/
variable {a : Addr} {l : List (Addr × Obj)}
theorem ixs_list : IxR (X.suite a l) (rIxL X.K) := ix_list
theorem mts_index : MtR (X.suite a l) "list.index" (rIndex X.K) := mt_index
theorem mts_countF : MtR (X.suite a l) "list.count" (rCntF X.K) := mt_countF
theorem ops_in_seq : OpR (X.suite a l) (compareOp .In) (rIn X.K false) := op_in_seq
theorem pes_bm {o e : Expr} {es : List Expr} {to : TE} {t : TA} {name : Str} {apos cpos : Pos} {T id : String} {r : V → List V → Hp → VK → Prop} (pa : PlainAttrs T) (slot : Slot T name id) (hty : typeOf (.builtin id) = pure (.type "method_descriptor")) (hm : MtR (X.suite a l) id r) (ho : PE (X.suite a l) o to) (ha : PA (X.suite a l) (e :: es) t)
    (hbase : attributeBase o name X.env (eval o X.env) = eval o X.env := by rfl)
    (hfew : ((backTo cpos (starEach (e :: es) X.env)).all (fun x => !x.1) && (backToKw cpos (keywordEach [] X.env)).all (fun x => x.1.isSome)
      && decide ((e :: es).length + ([] : List Keyword).length + (if ([] : List Keyword).isEmpty then 0 else 1) < 30)) = true := by rfl)
    (hline : (apos.endLine == cpos.line) = true := by rfl) (hs : starEach (e :: es) X.env = (false, eval e X.env) :: starEach es X.env := by rfl) (hplain : (backTo cpos (starEach es X.env)).any (·.1) = false := by rfl) :
    PE (X.suite a l) (.Call (.Attribute o name apos) (e :: es) [] cpos) (tBM X.K T r to t) := pe_bm pa slot hty hm ho ha hbase hfew hline hs hplain
end
end Sho
set_option Elab.async false
set_option linter.all false
set_option maxRecDepth 100000
set_option maxHeartbeats 4000000
/-! _law_outcome: what a call gives, or the word of its error. -/
namespace Sh4
open PySem L2 Sho NdefX Shg Sh1
/-- the errors' names, words and fields, in the order of the tests -/
def eNm : Fin 10 → Str := fun j => (["DaybookError", "DecodeError", "InvalidName", "InvalidNumber", "InvalidOperation", "InvalidStay", "InvalidText", "TooEarly", "TooWide", "UnknownGuest"] : List Str).getD j.1 "UnknownGuest"
def eWd : Fin 10 → Str := fun j => (["daybook", "code", "name", "number", "operation", "stay", "text", "early", "wide", "guest"] : List Str).getD j.1 "guest"
def eFl : Fin 10 → Option Str := fun j => ([some "row", some "offset", none, none, some "index", some "index", some "row", none, none, some "name"] : List (Option Str)).getD j.1 none
/-- what the written part says of the errors: C j the class -/
structure Ten (K : PySem.W.Frag) (mg : Str → Option Value) (P0 : Addr) (C : Fin 10 → Addr) : Prop where
  base : mg "PartyError" = some (.ref P0)
  g : ∀ j, mg (eNm j) = some (.ref (C j))
  up : ∀ j, PySem.W.exmOne K (.ref (C j)) (.ref P0) = some true
  is : ∀ i j, PySem.W.kitOne K (.ref (C i)) (.ref (C j)) = some (decide (i = j))
  ve : ∀ j, PySem.W.kitOne K (.ref (C j)) (.type "ValueError") = some true
  ex : ∀ j, ExcC K (C j)
  xf : ∀ j, XfC K (C j)
  no : ∀ j f, eFl j = some f → PySem.W.findIn K (.ref (C j)) f = some none
def hdBody : Stmt → List Stmt
  | .FunctionDef (body := [.Try _ [.ExceptHandler _ _ b _] _ _ _]) .. => b
  | _ => []
/-- what is wanted of the error j -/
def Out10 (C : Fin 10 → Addr) (Q : VK) : XK := fun cls d H1 => ∃ j : Fin 10, cls = .ref (C j) ∧
  ((eFl j = none ∧ d = none ∧ ∀ p H2, Same H1 H2 → H2 p = some (.tup [.str (eWd j)]) → Q (.ref p) H2) ∨
   ∃ (f : Str) (dd : Addr) (v : V), eFl j = some f ∧ d = some dd ∧ H1 dd = some (.xd [(f, v)]) ∧ ∀ p H2, Same H1 H2 → H2 p = some (.tup [.str (eWd j), v]) → Q (.ref p) H2)
/-- the value behind its word -/
def OutV (Q : VK) : VK := fun v H1 => ∀ p H2, Same H1 H2 → H2 p = some (.tup [.str "value", v]) → Q (.ref p) H2
abbrev kinds10 (j : Fin 10) : List V := [.bl (decide (j = 0)), .bl (decide (j = 1)), .bl (decide (j = 2)), .bl (decide (j = 3)), .bl (decide (j = 4)), .bl (decide (j = 5)), .bl (decide (j = 6)), .bl (decide (j = 7)), .bl (decide (j = 8)), .bl (decide (j = 9))]
abbrev words10 : List V := [.str "daybook", .str "code", .str "name", .str "number", .str "operation", .str "stay", .str "text", .str "early", .str "wide", .str "guest"]
theorem kinds_one : ∀ j : Fin 10, (kinds10 j).countP (fun z => eqV z (.bl true)) = 1 := by decide
theorem kinds_at : ∀ j : Fin 10, (kinds10 j)[j.1]? = some (V.bl true) := fun j => match j with
  | 0 => rfl | 1 => rfl | 2 => rfl | 3 => rfl | 4 => rfl | 5 => rfl | 6 => rfl | 7 => rfl | 8 => rfl | 9 => rfl
theorem kinds_no : ∀ j : Fin 10, ∀ m, m < j.1 → ((kinds10 j)[m]?).all (fun z => !eqV z (.bl true)) = true := by decide
theorem words_at : ∀ j : Fin 10, words10[j.1]? = some (V.str (eWd j)) := fun j => match j with
  | 0 => rfl | 1 => rfl | 2 => rfl | 3 => rfl | 4 => rfl | 5 => rfl | 6 => rfl | 7 => rfl | 8 => rfl | 9 => rfl
theorem ten_cases : ∀ j : Fin 10, j = 0 ∨ j = 1 ∨ j = 2 ∨ j = 3 ∨ j = 4 ∨ j = 5 ∨ j = 6 ∨ j = 7 ∨ j = 8 ∨ j = 9 := by decide
theorem word_row : ∀ j : Fin 10, inV (.str (eWd j)) [.str "daybook", .str "text"] = (decide (j = 0) || decide (j = 6)) := by decide +kernel
theorem word_index : ∀ j : Fin 10, inV (.str (eWd j)) [.str "operation", .str "stay"] = (decide (j = 4) || decide (j = 5)) := by decide +kernel
theorem word_name : ∀ j : Fin 10, decide (V.str (eWd j) = V.str "guest") = decide (j = 9) := by decide +kernel
theorem word_code : ∀ j : Fin 10, decide (V.str (eWd j) = V.str "code") = decide (j = 1) := by decide +kernel
section
variable {P : Program} {w : World} {K : PySem.W.Frag} {mg : Str → Option Value} {base : Heap}
theorem scOut : FnScope ["_law_call", "e", "_law_kinds", "_law_words", "_law_word"] ["_law_call"] (defScope sOut) := ⟨rfl, rfl, rfl, by decide +kernel, rfl, by decide +kernel, by decide +kernel⟩
theorem outcome_run {g P0 : Addr} {C : Fin 10 → Addr} {fd : FuncData} (F : Fun K "_law_outcome" "_law_outcome" sOut g fd) (bF : Binds K fd ["_law_call"] []) (B : Blt mg) (EE : Ten K mg P0 C)
    {cl : List (Str × Addr)} {fr : List Str} {ws : List (Option V)} {sp : SpL} {k : Nat} {A : Around} {outer : List Env} {s : Shared} {H : Hp} {f : Addr} {Q : VK} {E : XK} (hr : Room (k + 1) A) (e0 : Env0 P w K mg base A outer s H)
    (Cs : CellsAt cl fr ws s.heap H) (hact : Act P w K mg base (L2.CX P w) k cl fr sp f H) (q : ∀ (R : VK) (E' : XK), (∀ v H1, OutV Q v H1 → R v H1) → (∀ cls d H1, Out10 C Q cls d H1 → E' cls d H1) → sp ws H R E') :
    codeAny (model P w) A (.call (.ref g) ⟨[.ref f], []⟩) (CR (L2.CX P w) outer P w H s Q E) s := by
  obtain ⟨oc, od, kV, doc, pm, an, cdv, ct, osl, rfl, lk, hcd⟩ := F.ex
  have KX : K.In s.heap := e0.mod.kin.keeps fun b o e => (e0.bs b o e).1
  refine LamX.run_ofS (N := ["_law_call", "e", "_law_kinds", "_law_words", "_law_word"]) (ps := ["_law_call"]) (us := [.ref f]) (vs := [.ref f]) lk hcd scOut hr e0 (bF s [.ref f] KX rfl) (.cons rfl .nil) rfl fun hr' => ?_
  have nd := scOut.nd
  refine' ⟨_, pss_one (ps_try (Wout := fun cls d _ H' => E cls d H') (tb := fun W => tRet (tTup (tCons (tC (.str "value")) (tCons (tAct P w K mg base (L2.CX P w) k 0 cl fr ws fun σ => WE W σ) tNil)))) rfl rfl nd (takes_of rfl rfl rfl rfl)
      (fun W pn xe tk po => pss_one (ps_ret (pe_tup (pa_cons pe_str (pa_cons (pe_act (i := 0) (CX := L2.CX P w) (k := k) (E := fun σ => WE W σ) hr' Cs (fun _ _ _ => List.not_mem_nil) (fun σ => passAt tk σ) rfl (.inl rfl)) pa_nil))))) (l := [⟨.ref P0, some 1, _⟩])
    (.cons ⟨rfl, by decide, .inl EE.base⟩ ⟨rfl, rfl⟩ (fun a oe cls d pn hz hf => ?su) .nil)), ?rd⟩
  case su =>
    have key : PSs ((cxOf (L2.CX P w) P w K mg base ["_law_call", "e", "_law_kinds", "_law_words", "_law_word"] "_law_outcome" (defScope sOut) g cdv A outer s H E).suite a ((a, oe) :: pn)) (hdBody sOut) _ := pss_cons (ps_set (i := 2) nd rfl (Or.inl rfl) (pe_lst (pa_cons (pe_callB (call_isX hz hf) (by rfl) B.isi (by decide +kernel) (pa_cons (pv 1) (pa_cons (pe_glob (v := .ref (C 0)) (by rfl) (by exact EE.g 0) (by rfl)) pa_nil)))
        (pa_cons (pe_callB (call_isX hz hf) (by rfl) B.isi (by decide +kernel) (pa_cons (pv 1) (pa_cons (pe_glob (v := .ref (C 1)) (by rfl) (by exact EE.g 1) (by rfl)) pa_nil)))
        (pa_cons (pe_callB (call_isX hz hf) (by rfl) B.isi (by decide +kernel) (pa_cons (pv 1) (pa_cons (pe_glob (v := .ref (C 2)) (by rfl) (by exact EE.g 2) (by rfl)) pa_nil))) pa_nil)))))
      (pss_cons (ps_expr (pes_bm PySem.F.plainAttrs_list PySem.F.slot_list_extend PySem.F.type_list_extend mt_extend (pv 2) (pa_cons (pe_lst (pa_cons (pe_callB (call_isX hz hf) (by rfl) B.isi (by decide +kernel) (pa_cons (pv 1) (pa_cons (pe_glob (v := .ref (C 3)) (by rfl) (by exact EE.g 3) (by rfl)) pa_nil)))
        (pa_cons (pe_callB (call_isX hz hf) (by rfl) B.isi (by decide +kernel) (pa_cons (pv 1) (pa_cons (pe_glob (v := .ref (C 4)) (by rfl) (by exact EE.g 4) (by rfl)) pa_nil)))
        (pa_cons (pe_callB (call_isX hz hf) (by rfl) B.isi (by decide +kernel) (pa_cons (pv 1) (pa_cons (pe_glob (v := .ref (C 5)) (by rfl) (by exact EE.g 5) (by rfl)) pa_nil))) pa_nil)))) pa_nil)))
      (pss_cons (ps_expr (pes_bm PySem.F.plainAttrs_list PySem.F.slot_list_extend PySem.F.type_list_extend mt_extend (pv 2) (pa_cons (pe_lst (pa_cons (pe_callB (call_isX hz hf) (by rfl) B.isi (by decide +kernel) (pa_cons (pv 1) (pa_cons (pe_glob (v := .ref (C 6)) (by rfl) (by exact EE.g 6) (by rfl)) pa_nil)))
        (pa_cons (pe_callB (call_isX hz hf) (by rfl) B.isi (by decide +kernel) (pa_cons (pv 1) (pa_cons (pe_glob (v := .ref (C 7)) (by rfl) (by exact EE.g 7) (by rfl)) pa_nil)))
        (pa_cons (pe_callB (call_isX hz hf) (by rfl) B.isi (by decide +kernel) (pa_cons (pv 1) (pa_cons (pe_glob (v := .ref (C 8)) (by rfl) (by exact EE.g 8) (by rfl)) pa_nil))) pa_nil)))) pa_nil)))
      (pss_cons (ps_expr (pes_bm PySem.F.plainAttrs_list PySem.F.slot_list_append PySem.F.type_list_append mt_append (pv 2) (pa_cons (pe_callB (call_isX hz hf) (by rfl) B.isi (by decide +kernel) (pa_cons (pv 1) (pa_cons (pe_glob (v := .ref (C 9)) (by rfl) (by exact EE.g 9) (by rfl)) pa_nil))) pa_nil)))
      (pss_cons (ps_if (PW.pt (pw_or (pt_cmpR op_ne (pes_bm PySem.F.plainAttrs_list PySem.F.slot_list_count PySem.F.type_list_count mts_countF (pv 2) (pa_cons pe_bl pa_nil)) pe_int (nomark _))
          (pw_or1 (pt_not (pt_val (pe_callB (call_isX hz hf) (by rfl) B.isi (by decide +kernel) (pa_cons (pv 1) (pa_cons (pe_bltn (v := .ty "ValueError") (by rfl) B.ve (by decide +kernel) rfl) pa_nil)))))))) (pss_one ps_never) pss_nil)
      (pss_cons (ps_set (i := 3) nd rfl (Or.inl rfl) (pe_lst (pa_cons pe_str (pa_cons pe_str (pa_cons pe_str (pa_cons pe_str (pa_cons pe_str (pa_cons pe_str (pa_cons pe_str (pa_cons pe_str (pa_cons pe_str (pa_cons pe_str pa_nil))))))))))))
      (pss_cons (ps_set (i := 4) nd rfl (Or.inl rfl) (pe_ix ixs_list (pv 3) (pes_bm PySem.F.plainAttrs_list PySem.F.slot_list_index PySem.F.type_list_index mts_index (pv 2) (pa_cons pe_bl pa_nil)) (fun _ _ => rfl)))
      (pss_cons (ps_if (pt_cmpR ops_in_seq (pv 4) (pe_tup (pa_cons pe_str (pa_cons pe_str pa_nil))) rfl) (pss_one (ps_ret (pe_tup (pa_cons (pv 4) (pa_cons (pe_either (pe_xf (EE.xf 0) (EE.no 0 "row" rfl) hz hf (pv 1)) (pe_xf (EE.xf 6) (EE.no 6 "row" rfl) hz hf (pv 1))) pa_nil))))) pss_nil)
      (pss_cons (ps_if (pt_cmpR ops_in_seq (pv 4) (pe_tup (pa_cons pe_str (pa_cons pe_str pa_nil))) rfl) (pss_one (ps_ret (pe_tup (pa_cons (pv 4) (pa_cons (pe_either (pe_xf (EE.xf 4) (EE.no 4 "index" rfl) hz hf (pv 1)) (pe_xf (EE.xf 5) (EE.no 5 "index" rfl) hz hf (pv 1))) pa_nil))))) pss_nil)
      (pss_cons (ps_if (pt_cmpR op_eq (pv 4) pe_str (nomark _)) (pss_one (ps_ret (pe_tup (pa_cons (pv 4) (pa_cons (pe_xf (EE.xf 9) (EE.no 9 "name" rfl) hz hf (pv 1)) pa_nil))))) pss_nil)
      (pss_one (ps_ret (pe_ifExp (pt_cmpR op_eq (pv 4) pe_str (nomark _)) (pe_tup (pa_cons (pv 4) (pa_cons (pe_xf (EE.xf 1) (EE.no 1 "offset" rfl) hz hf (pv 1)) pa_nil))) (pe_tup (pa_cons (pv 4) pa_nil))))))))))))))
    exact key
  case rd =>
  refine ⟨f, sp, rfl, hact, q _ _ (fun v H1 o => ?_) fun cls d H1 o => ?_⟩
  · exact ⟨by show 2 ≤ sizeLine; decide, fun p hp => o p _ (same_upd hp) upd_same⟩
  · obtain ⟨j, rfl, o⟩ := o
    refine ⟨true, EE.up j, fun _ a ha => ?_, fun z => nomatch z⟩
    have hd1 : ∀ H', Same H1 H' → ∀ dd, d = some dd → ∃ fs, H' dd = some (.xd fs) := fun H' s' dd e => by
      rcases o with ⟨_, e2, _⟩ | ⟨f, dd', v, _, e2, e3, _⟩
      · rw [e2] at e
        cases e
      · rw [e2] at e
        cases e
        exact ⟨_, s' _ _ e3⟩
    have r0 := Same.refl H1
    refine ⟨_, rfl, C j, .ref (C 0), _, _, rfl, EE.ex j, hd1 _ r0, rfl, fun u r => r, EE.is j 0, _, rfl, C j, .ref (C 1), _, _, rfl, EE.ex j, hd1 _ r0, rfl, fun u r => r, EE.is j 1, _, rfl, C j, .ref (C 2), _, _, rfl, EE.ex j, hd1 _ r0, rfl, fun u r => r, EE.is j 2, by show 3 ≤ sizeLine; decide, fun L hL => ?_⟩
    have sL : ∀ {H' : Hp} {u : HO}, Same H1 H' → Same H1 (upd H' L u) := fun s' b u e => by
      rw [upd_ne (ne_of_none e hL)]
      exact s' b u e
    have s1 : Same H1 (upd H1 L (.lst [.bl (decide (j = 0)), .bl (decide (j = 1)), .bl (decide (j = 2))])) := sL r0
    have l1 : (upd H1 L (.lst [.bl (decide (j = 0)), .bl (decide (j = 1)), .bl (decide (j = 2))])) L = some (.lst [.bl (decide (j = 0)), .bl (decide (j = 1)), .bl (decide (j = 2))]) := upd_same
    generalize upd H1 L (.lst [.bl (decide (j = 0)), .bl (decide (j = 1)), .bl (decide (j = 2))]) = H2 at s1 l1
    show _
    refine ⟨_, rfl, .inl ⟨rfl, _, SqL.of l1⟩, _, rfl, C j, .ref (C 3), _, _, rfl, EE.ex j, hd1 _ s1, rfl, fun u r => r, EE.is j 3, _, rfl, C j, .ref (C 4), _, _, rfl, EE.ex j, hd1 _ s1, rfl, fun u r => r, EE.is j 4, _, rfl, C j, .ref (C 5), _, _, rfl, EE.ex j, hd1 _ s1, rfl, fun u r => r, EE.is j 5, by show 3 ≤ sizeLine; decide, fun M hM => ?_⟩
    have s2 : Same H1 (upd H2 M (.lst [.bl (decide (j = 3)), .bl (decide (j = 4)), .bl (decide (j = 5))])) := s1.trans (same_upd hM)
    have l2 : (upd H2 M (.lst [.bl (decide (j = 3)), .bl (decide (j = 4)), .bl (decide (j = 5))])) L = some (.lst [.bl (decide (j = 0)), .bl (decide (j = 1)), .bl (decide (j = 2))]) := same_upd hM _ _ l1
    have m2 : (upd H2 M (.lst [.bl (decide (j = 3)), .bl (decide (j = 4)), .bl (decide (j = 5))])) M = some (.lst [.bl (decide (j = 3)), .bl (decide (j = 4)), .bl (decide (j = 5))]) := upd_same
    generalize upd H2 M (.lst [.bl (decide (j = 3)), .bl (decide (j = 4)), .bl (decide (j = 5))]) = H3 at s2 l2 m2
    refine ⟨L, M, _, _, rfl, rfl, l2, m2, by show 6 ≤ sizeLine; decide, ?_⟩
    have s3 : Same H1 (upd H3 L (.lst ([.bl (decide (j = 0)), .bl (decide (j = 1)), .bl (decide (j = 2))] ++ [.bl (decide (j = 3)), .bl (decide (j = 4)), .bl (decide (j = 5))]))) := sL s2
    have l3 : (upd H3 L (.lst ([.bl (decide (j = 0)), .bl (decide (j = 1)), .bl (decide (j = 2))] ++ [.bl (decide (j = 3)), .bl (decide (j = 4)), .bl (decide (j = 5))]))) L = some (.lst [.bl (decide (j = 0)), .bl (decide (j = 1)), .bl (decide (j = 2)), .bl (decide (j = 3)), .bl (decide (j = 4)), .bl (decide (j = 5))]) := upd_same
    generalize upd H3 L (.lst ([.bl (decide (j = 0)), .bl (decide (j = 1)), .bl (decide (j = 2))] ++ [.bl (decide (j = 3)), .bl (decide (j = 4)), .bl (decide (j = 5))])) = H4 at s3 l3
    refine ⟨_, rfl, .inl ⟨rfl, _, SqL.of l3⟩, _, rfl, C j, .ref (C 6), _, _, rfl, EE.ex j, hd1 _ s3, rfl, fun u r => r, EE.is j 6, _, rfl, C j, .ref (C 7), _, _, rfl, EE.ex j, hd1 _ s3, rfl, fun u r => r, EE.is j 7, _, rfl, C j, .ref (C 8), _, _, rfl, EE.ex j, hd1 _ s3, rfl, fun u r => r, EE.is j 8, by show 3 ≤ sizeLine; decide, fun N hN => ?_⟩
    have s4 : Same H1 (upd H4 N (.lst [.bl (decide (j = 6)), .bl (decide (j = 7)), .bl (decide (j = 8))])) := s3.trans (same_upd hN)
    have l4 : (upd H4 N (.lst [.bl (decide (j = 6)), .bl (decide (j = 7)), .bl (decide (j = 8))])) L = some (.lst [.bl (decide (j = 0)), .bl (decide (j = 1)), .bl (decide (j = 2)), .bl (decide (j = 3)), .bl (decide (j = 4)), .bl (decide (j = 5))]) := same_upd hN _ _ l3
    have m4 : (upd H4 N (.lst [.bl (decide (j = 6)), .bl (decide (j = 7)), .bl (decide (j = 8))])) N = some (.lst [.bl (decide (j = 6)), .bl (decide (j = 7)), .bl (decide (j = 8))]) := upd_same
    generalize upd H4 N (.lst [.bl (decide (j = 6)), .bl (decide (j = 7)), .bl (decide (j = 8))]) = H5 at s4 l4 m4
    refine ⟨L, N, _, _, rfl, rfl, l4, m4, by show 9 ≤ sizeLine; decide, ?_⟩
    have s5 : Same H1 (upd H5 L (.lst ([.bl (decide (j = 0)), .bl (decide (j = 1)), .bl (decide (j = 2)), .bl (decide (j = 3)), .bl (decide (j = 4)), .bl (decide (j = 5))] ++ [.bl (decide (j = 6)), .bl (decide (j = 7)), .bl (decide (j = 8))]))) := sL s4
    have l5 : (upd H5 L (.lst ([.bl (decide (j = 0)), .bl (decide (j = 1)), .bl (decide (j = 2)), .bl (decide (j = 3)), .bl (decide (j = 4)), .bl (decide (j = 5))] ++ [.bl (decide (j = 6)), .bl (decide (j = 7)), .bl (decide (j = 8))]))) L = some (.lst [.bl (decide (j = 0)), .bl (decide (j = 1)), .bl (decide (j = 2)), .bl (decide (j = 3)), .bl (decide (j = 4)), .bl (decide (j = 5)), .bl (decide (j = 6)), .bl (decide (j = 7)), .bl (decide (j = 8))]) := upd_same
    generalize upd H5 L (.lst ([.bl (decide (j = 0)), .bl (decide (j = 1)), .bl (decide (j = 2)), .bl (decide (j = 3)), .bl (decide (j = 4)), .bl (decide (j = 5))] ++ [.bl (decide (j = 6)), .bl (decide (j = 7)), .bl (decide (j = 8))])) = H6 at s5 l5
    refine ⟨_, rfl, .inl ⟨rfl, _, SqL.of l5⟩, _, rfl, C j, .ref (C 9), _, _, rfl, EE.ex j, hd1 _ s5, rfl, fun u r => r, EE.is j 9, L, _, _, rfl, rfl, l5, by show 9 < sizeLine; decide, ?_⟩
    have s6 : Same H1 (upd H6 L (.lst ([.bl (decide (j = 0)), .bl (decide (j = 1)), .bl (decide (j = 2)), .bl (decide (j = 3)), .bl (decide (j = 4)), .bl (decide (j = 5)), .bl (decide (j = 6)), .bl (decide (j = 7)), .bl (decide (j = 8))] ++ [.bl (decide (j = 9))]))) := sL s5
    have l6 : (upd H6 L (.lst ([.bl (decide (j = 0)), .bl (decide (j = 1)), .bl (decide (j = 2)), .bl (decide (j = 3)), .bl (decide (j = 4)), .bl (decide (j = 5)), .bl (decide (j = 6)), .bl (decide (j = 7)), .bl (decide (j = 8))] ++ [.bl (decide (j = 9))]))) L = some (.lst (kinds10 j)) := upd_same
    generalize upd H6 L (.lst ([.bl (decide (j = 0)), .bl (decide (j = 1)), .bl (decide (j = 2)), .bl (decide (j = 3)), .bl (decide (j = 4)), .bl (decide (j = 5)), .bl (decide (j = 6)), .bl (decide (j = 7)), .bl (decide (j = 8))] ++ [.bl (decide (j = 9))])) = H7 at s6 l6
    have fl : (kinds10 j).all flatV = true := rfl
    refine ⟨_, rfl, .inl ⟨rfl, _, SqL.of l6⟩, L, _, .bl true, rfl, rfl, SqL.of l6, rfl, fl, rfl, false, ?_, iteF ?_⟩
    · rw [kinds_one j]
      rfl
    refine ⟨_, rfl, C j, .ty "ValueError", .type "ValueError", true, rfl, EE.ex j, hd1 _ s6, rfl, fun u r => r, EE.ve j, _, rfl, iteF ?_⟩
    refine ⟨by show 10 ≤ sizeLine; decide, fun W hW => ?_⟩
    have s7 : Same H1 (upd H7 W (.lst words10)) := s6.trans (same_upd hW)
    have l7 : (upd H7 W (.lst words10)) L = some (.lst (kinds10 j)) := same_upd hW _ _ l6
    have w7 : (upd H7 W (.lst words10)) W = some (.lst words10) := upd_same
    generalize upd H7 W (.lst words10) = H8 at s7 l7 w7
    refine ⟨_, rfl, _, rfl, .inl ⟨rfl, _, SqL.of l7⟩, L, _, .bl true, j.1, .bl true, rfl, rfl, SqL.of l7, rfl, fl, kinds_at j, rfl, fun m z hm hz => ?_, W, _, _, .str (eWd j), rfl, rfl, SqL.of w7, atI_nat (words_at j), ?_⟩
    · have q := kinds_no j m hm
      rw [hz] at q
      simpa using q
    -- the word's four tests
    refine ⟨_, rfl, by show 2 ≤ sizeLine; decide, fun t1 ht1 => ⟨t1, _, rfl, .inr (SqT.of upd_same), rfl, rfl, _, rfl, ?_⟩⟩
    have s8 : Same H1 (upd H8 t1 (.tup [.str "daybook", .str "text"])) := s7.trans (same_upd ht1)
    generalize upd H8 t1 (.tup [.str "daybook", .str "text"]) = H9 at s8
    have fin1 : ∀ {H' : Hp} (p : Addr), Same H1 H' → H' p = none → eFl j = none → Q (.ref p) (upd H' p (.tup [.str (eWd j)])) := fun {H'} p s' hp e => by
      rcases o with ⟨_, _, k⟩ | ⟨f, dd, v, e1, _⟩
      · exact k p _ (s'.trans (same_upd hp)) upd_same
      · rw [e] at e1
        cases e1
    have fin2 : ∀ f, eFl j = some f → ∃ (dd : Addr) (v : V), d = some dd ∧ ∀ H' : Hp, Same H1 H' → H' dd = some (.xd [(f, v)]) ∧ ∀ p, H' p = none → Q (.ref p) (upd H' p (.tup [.str (eWd j), v])) := fun f e => by
      rcases o with ⟨e1, _⟩ | ⟨f', dd, v, e1, e2, e3, k⟩
      · rw [e] at e1
        cases e1
      · rw [e] at e1
        cases e1
        exact ⟨dd, v, e2, fun H' s' => ⟨s' _ _ e3, fun p hp => k p _ (s'.trans (same_upd hp)) upd_same⟩⟩
    have lk : ∀ (f : Str) (v : V), List.lookup f [(f, v)] = some v := fun f v => by simp [List.lookup]
    refine ite2 (fun h => ?_) (fun h => ?_)
    · have hj : j = 0 ∨ j = 6 := by
        rw [word_row j] at h
        simpa using h
      rcases hj with rfl | rfl
      · obtain ⟨dd, v, e2, k⟩ := fin2 "row" rfl
        obtain ⟨k1, k2⟩ := k _ s8
        exact ⟨_, rfl, .inl ⟨_, rfl, rfl, rfl, dd, _, v, e2, k1, lk _ _, by show 2 ≤ sizeLine; decide, fun p hp => k2 p hp⟩⟩
      · obtain ⟨dd, v, e2, k⟩ := fin2 "row" rfl
        obtain ⟨k1, k2⟩ := k _ s8
        exact ⟨_, rfl, .inr ⟨_, rfl, rfl, rfl, dd, _, v, e2, k1, lk _ _, by show 2 ≤ sizeLine; decide, fun p hp => k2 p hp⟩⟩
    have n1 : j ≠ 0 ∧ j ≠ 6 := by
      rw [word_row j] at h
      simpa using h
    refine ⟨_, rfl, by show 2 ≤ sizeLine; decide, fun t2 ht2 => ⟨t2, _, rfl, .inr (SqT.of upd_same), rfl, rfl, _, rfl, ?_⟩⟩
    have s9 : Same H1 (upd H9 t2 (.tup [.str "operation", .str "stay"])) := s8.trans (same_upd ht2)
    generalize upd H9 t2 (.tup [.str "operation", .str "stay"]) = Ha at s9
    refine ite2 (fun h => ?_) (fun h => ?_)
    · have hj : j = 4 ∨ j = 5 := by
        rw [word_index j] at h
        simpa using h
      rcases hj with rfl | rfl
      · obtain ⟨dd, v, e2, k⟩ := fin2 "index" rfl
        obtain ⟨k1, k2⟩ := k _ s9
        exact ⟨_, rfl, .inl ⟨_, rfl, rfl, rfl, dd, _, v, e2, k1, lk _ _, by show 2 ≤ sizeLine; decide, fun p hp => k2 p hp⟩⟩
      · obtain ⟨dd, v, e2, k⟩ := fin2 "index" rfl
        obtain ⟨k1, k2⟩ := k _ s9
        exact ⟨_, rfl, .inr ⟨_, rfl, rfl, rfl, dd, _, v, e2, k1, lk _ _, by show 2 ≤ sizeLine; decide, fun p hp => k2 p hp⟩⟩
    have n2 : j ≠ 4 ∧ j ≠ 5 := by
      rw [word_index j] at h
      simpa using h
    refine ⟨_, rfl, rfl, _, rfl, ite2 (fun h => ?_) (fun h => ?_)⟩
    · have hj : j = 9 := by
        rw [word_name j] at h
        simpa using h
      subst hj
      obtain ⟨dd, v, e2, k⟩ := fin2 "name" rfl
      obtain ⟨k1, k2⟩ := k _ s9
      exact ⟨_, rfl, _, rfl, rfl, rfl, dd, _, v, e2, k1, lk _ _, by show 2 ≤ sizeLine; decide, fun p hp => k2 p hp⟩
    have n3 : j ≠ 9 := by
      rw [word_name j] at h
      simpa using h
    refine ⟨_, rfl, rfl, _, rfl, ite2 (fun h => ?_) (fun h => ?_)⟩
    · have hj : j = 1 := by
        rw [word_code j] at h
        simpa using h
      subst hj
      obtain ⟨dd, v, e2, k⟩ := fin2 "offset" rfl
      obtain ⟨k1, k2⟩ := k _ s9
      exact ⟨_, rfl, _, rfl, rfl, rfl, dd, _, v, e2, k1, lk _ _, by show 2 ≤ sizeLine; decide, fun p hp => k2 p hp⟩
    · have n4 : j ≠ 1 := by
        rw [word_code j] at h
        simpa using h
      have ef : eFl j = none := by
        rcases ten_cases j with e | e | e | e | e | e | e | e | e | e
        · exact absurd e n1.1
        · exact absurd e n4
        · rw [e]; rfl
        · rw [e]; rfl
        · exact absurd e n2.1
        · exact absurd e n2.2
        · exact absurd e n1.2
        · rw [e]; rfl
        · rw [e]; rfl
        · exact absurd e n3
      exact ⟨_, rfl, by show 1 ≤ sizeLine; decide, fun p hp => fin1 p s9 hp ef⟩
end
end Sh4
set_option Elab.async false
set_option linter.all false
set_option maxRecDepth 100000
set_option maxHeartbeats 4000000
/-! An own error without a field; shared by the laws with ten errors. -/
namespace Sh4
open PySem L2 Sho NdefX Shg Sh1
/-- an own error without a field -/
structure ErrN4 (K : PySem.W.Frag) (mg : Str → Option Value) (x : Str) (C : Addr) : Prop where
  ex : PySem.W.excIn K C [.type "ValueError", .type "Exception", .type "BaseException", .type "object"] "ValueError.__new__" = true
  gm : mg x = some (.ref C)
  kp : PySem.W.keepIn K (.ref C) = true
  be : PySem.W.subIn K (.ref C) (.type "BaseException") = some true
  ty : PySem.W.typeIn K (.ref C) = some (.type "type")
theorem small_cat {a b : Str} {n m : Nat} (ha : a.length ≤ n) (hb : b.length ≤ m) : (a ++ b).length ≤ n + m := by
  rw [PySem.Str.length_append]
  omega
end Sh4
set_option Elab.async false
set_option linter.all false
set_option maxRecDepth 100000
set_option maxHeartbeats 2000000
/-! Facts of the head that the laws with ten errors share. -/
namespace Sh4
open PySem L2 Sho NdefX He Shh Shg Sh1
section
variable {K : Shh.Fr} {h : Heap} {mg : Str → Option Value}
abbrev bltNames : List Str := ["len", "all", "isinstance", "bool", "tuple", "list", "range", "enumerate", "int", "super", "sorted", "dict", "str", "min", "max", "ValueError", "set", "sum", "any"]
theorem blt_ok (X : K.In h) (G : h.Ns mainGlobals mg) (c : freeB K bltNames = true) : Shg.Blt mg := by
  have k : ∀ x, x ∈ bltNames → mg x = none := fun x hx => freeB_ok X G c hx
  exact ⟨k _ (by simp), k _ (by simp), k _ (by simp), k _ (by simp), k _ (by simp), k _ (by simp), k _ (by simp), k _ (by simp), k _ (by simp), k _ (by simp), k _ (by simp), k _ (by simp), k _ (by simp), k _ (by simp), k _ (by simp), k _ (by simp), k _ (by simp), k _ (by simp), k _ (by simp)⟩
theorem ernB_ok {x : Str} (gm : mg x = some (.ref (ga K x))) (c : ernB K x = true) : ErrN4 K mg x (ga K x) := by
  obtain ⟨c1, c⟩ := ba c
  obtain ⟨c2, c⟩ := ba c
  obtain ⟨c3, c⟩ := ba c
  obtain ⟨c4, c5⟩ := ba c
  exact ⟨c1, gm, c2, of_decide_eq_true c3, of_decide_eq_true c4⟩
def excB (K : Shh.Fr) (D : Addr) : Bool := eqO (PySem.W.findIn K (.ref D) "__getattribute__") (some (some (.builtin "BaseException.__getattribute__"))) && (eqO (PySem.W.findIn K (.ref D) "__getattr__") (some none) && (decide (PySem.W.subIn K (.ref D) (.type "BaseException") = some true) &&
  (PySem.W.hasDictIn K D && (eqO (PySem.W.findIn K (.ref D) "__class__") (some (some (.builtin "object.__class__"))) && (eqO (PySem.W.specialIn K (.builtin "object.__class__") "__get__") (some (some (.builtin "getset_descriptor.__get__"))) && (decide (PySem.W.takesIn K (.builtin "object.__class__") = some true) &&
  decide (PySem.W.mroIn K D (.type "object") = some true)))))))
theorem excB_ok {D : Addr} (c : excB K D = true) : ExcC K D ∧ XfC K D := by
  obtain ⟨c1, c⟩ := ba c
  obtain ⟨c2, c⟩ := ba c
  obtain ⟨c3, c⟩ := ba c
  obtain ⟨c4, c⟩ := ba c
  obtain ⟨c5, c⟩ := ba c
  obtain ⟨c6, c⟩ := ba c
  obtain ⟨c7, c8⟩ := ba c
  exact ⟨⟨eqO_ok c1, eqO_ok c2, of_decide_eq_true c3, c4, eqO_ok c5, eqO_ok c6, of_decide_eq_true c7, of_decide_eq_true c8⟩, ⟨eqO_ok c1, eqO_ok c2, of_decide_eq_true c3, c4⟩⟩
/-- the class of the error j -/
abbrev eA (K : Shh.Fr) (j : Fin 10) : Addr := ga K (eNm j)
def all10 : List (Fin 10) := [0, 1, 2, 3, 4, 5, 6, 7, 8, 9]
theorem all10_mem : ∀ j : Fin 10, j ∈ all10 := by decide
def tenB (K : Shh.Fr) : Bool := all10.all fun j => decide (PySem.W.exmOne K (.ref (eA K j)) (.ref (ga K "PartyError")) = some true) && ((all10.all fun i => decide (PySem.W.kitOne K (.ref (eA K j)) (.ref (eA K i)) = some (decide (j = i)))) &&
  (decide (PySem.W.kitOne K (.ref (eA K j)) (.type "ValueError") = some true) && (excB K (eA K j) && (match eFl j with
    | some f => eqO (PySem.W.findIn K (.ref (eA K j)) f) (some none)
    | none => true))))
theorem tenB_ok (g : ∀ x, x ∈ (["PartyError", "DaybookError", "DecodeError", "InvalidName", "InvalidNumber", "InvalidOperation", "InvalidStay", "InvalidText", "TooEarly", "TooWide", "UnknownGuest"] : List Str) → mg x = some (.ref (ga K x))) (c : tenB K = true) : Ten K mg (ga K "PartyError") (eA K) := by
  have one : ∀ j : Fin 10, _ := fun j => List.all_eq_true.mp c j (all10_mem j)
  refine ⟨g _ (by simp), fun j => ?_, fun j => ?_, fun i j => ?_, fun j => ?_, fun j => ?_, fun j => ?_, fun j f e => ?_⟩
  · rcases ten_cases j with rfl | rfl | rfl | rfl | rfl | rfl | rfl | rfl | rfl | rfl <;> exact g _ (by simp [eNm])
  · obtain ⟨c1, _⟩ := ba (one j)
    exact of_decide_eq_true c1
  · obtain ⟨_, c⟩ := ba (one i)
    obtain ⟨c2, _⟩ := ba c
    exact of_decide_eq_true (List.all_eq_true.mp c2 j (all10_mem j))
  · obtain ⟨_, c⟩ := ba (one j)
    obtain ⟨_, c⟩ := ba c
    obtain ⟨c3, _⟩ := ba c
    exact of_decide_eq_true c3
  · obtain ⟨_, c⟩ := ba (one j)
    obtain ⟨_, c⟩ := ba c
    obtain ⟨_, c⟩ := ba c
    obtain ⟨c4, _⟩ := ba c
    exact (excB_ok c4).1
  · obtain ⟨_, c⟩ := ba (one j)
    obtain ⟨_, c⟩ := ba c
    obtain ⟨_, c⟩ := ba c
    obtain ⟨c4, _⟩ := ba c
    exact (excB_ok c4).2
  · obtain ⟨_, c⟩ := ba (one j)
    obtain ⟨_, c⟩ := ba c
    obtain ⟨_, c⟩ := ba c
    obtain ⟨_, c5⟩ := ba c
    rw [e] at c5
    exact eqO_ok c5
end
theorem _root_.Shh.FunF.funL {K : Shh.Fr} {x qual : Str} {st : Stmt} {f : Addr} (F : FunF K x qual st [] f) : ∃ fd, Shg.FunL K x qual st f (codeA K f) fd ∧
    (∀ ps : List Str, (∀ (kV doc pm : Value) (an : Option Addr) (cdv ct : Value) (us : List Value), us.length = ps.length → bindArgs (PySem.W.fnOf x qual (defArgs st) (defBody st) (defScope st) .none kV doc pm an cdv ct) ⟨us, []⟩ = pure (ps.zip us)) → Binds K fd ps []) ∧
    ∀ ps : List Str, (∀ (kV doc pm : Value) (an : Option Addr) (cdv ct : Value) (us : List Value), us.length = ps.length → bindArgs (PySem.W.fnOf x qual (defArgs st) (defBody st) (defScope st) .none kV doc pm an cdv ct) ⟨us, []⟩ = pure (ps.zip us)) → ∀ (s : Shared) (us : List Value), us.length = ps.length → BindsTo s fd ⟨us, []⟩ (ps.zip us) := by
  obtain ⟨oc, od, doc, pm, an, ct, osl, lk, hcd⟩ := F.ex
  exact ⟨_, ⟨oc, od, .none, doc, pm, an, ct, osl, rfl, lk, hcd⟩, fun ps h => .all (h .none doc pm an _ ct), fun ps h s us hl => .of_eq (h .none doc pm an _ ct us hl)⟩
abbrev dn (x : Str) (st : Stmt) : Dn := ⟨fun K => ga K x, x, x, st, fun _ => []⟩
def tabA (K : Shh.Fr) (x : Str) : Addr := tabOf K (codeA K (ga K x))
end Sh4
set_option Elab.async false
set_option linter.all false
set_option maxRecDepth 100000
set_option maxHeartbeats 4000000
/-! Habits: is_within, _first_least, Habit and its kinds. -/
namespace Sh4
open PySem L2 Sho NdefX Shg Sh1
/-- j is the first place of a least number -/
def IsLeast (ns : List Int) (j : Nat) : Prop := ∃ m, ns[j]? = some m ∧ (∀ y ∈ ns, m ≤ y) ∧ ∀ i z, i < j → ns[i]? = some z → m < z
theorem least_ex : ∀ {ns : List Int}, 0 < ns.length → ∃ m, m ∈ ns ∧ ∀ y ∈ ns, m ≤ y
  | [n], _ => ⟨n, by simp, fun y hy => by simp at hy; omega⟩
  | n :: k :: ns, _ => by
    obtain ⟨m, hm, hl⟩ := least_ex (ns := k :: ns) (by simp)
    by_cases h : n ≤ m
    · refine ⟨n, by simp, fun y hy => ?_⟩
      rcases List.mem_cons.mp hy with rfl | hy
      · exact Int.le_refl _
      · exact Int.le_trans h (hl y hy)
    · refine ⟨m, List.mem_cons_of_mem _ hm, fun y hy => ?_⟩
      rcases List.mem_cons.mp hy with rfl | hy
      · omega
      · exact hl y hy
theorem first_at : ∀ {ns : List Int} {m : Int}, m ∈ ns → ∃ j : Nat, ns[j]? = some m ∧ ∀ (i : Nat) (z : Int), i < j → ns[i]? = some z → z ≠ m
  | n :: ns, m, h => by
    by_cases e : n = m
    · exact ⟨0, by simp [e], fun i z hi => by omega⟩
    · have h' : m ∈ ns := by
        rcases List.mem_cons.mp h with q | q
        · exact absurd q.symm e
        · exact q
      obtain ⟨j, h1, h2⟩ := first_at h'
      refine ⟨j + 1, by simpa using h1, fun i z hi hz => ?_⟩
      cases i with
      | zero =>
        have : n = z := by simpa using hz
        rw [← this]
        exact e
      | succ i => exact h2 i z (by omega) (by simpa using hz)
theorem IsLeast.uniq {ns : List Int} {i j : Nat} (a : IsLeast ns i) (b : IsLeast ns j) : i = j := by
  obtain ⟨m, a1, a2, a3⟩ := a
  obtain ⟨k, b1, b2, b3⟩ := b
  have e1 := a2 k (List.mem_of_getElem? b1)
  have e2 := b2 m (List.mem_of_getElem? a1)
  rcases Nat.lt_trichotomy i j with h | h | h
  · have := b3 i m h a1
    omega
  · exact h
  · have := a3 j k h b1
    omega
theorem IsLeast.lt {ns : List Int} {j : Nat} (a : IsLeast ns j) : j < ns.length := by
  obtain ⟨m, a1, _⟩ := a
  exact (List.getElem?_eq_some_iff.mp a1).1
section
variable {P : Program} {w : World} {K : PySem.W.Frag} {mg : Str → Option Value} {base : Heap}
def spIsWithin : Sp := fun vs H Q _ => ∃ n a b : Int, vs = [.int n, .int a, .int b] ∧ Q (.bl (decide (a ≤ n) && decide (n ≤ b))) H
theorem scIsWithin : FnScope ["number", "low", "high"] ["number", "low", "high"] (defScope sIsWithin) := ⟨rfl, rfl, rfl, by decide +kernel, rfl, by decide +kernel, by decide +kernel⟩
theorem ok_isWithin {f : Addr} {fd : FuncData} (F : Fun K "is_within" "is_within" sIsWithin f fd) (B : Blt mg) : FnOk P w K mg base CX0 1 f fd ["number", "low", "high"] spIsWithin := by
  refine F.ok scIsWithin (fun vs H Q E h => ?_) (fun cdv A outer s H vs Q E hr h => ?_)
  · obtain ⟨n, a, b, rfl, _⟩ := h
    rfl
  · obtain ⟨n, a, b, rfl, k⟩ := h
    refine ⟨_, pss_one (ps_ret (pe_and (pe_not (pe_callB call_isi (by rfl) B.isi (by decide +kernel) (pa_cons (pv 0) (pa_cons (pe_bltn (v := .ty "bool") (by rfl) B.bool (by decide +kernel) rfl) pa_nil))))
      (pe_one (pe_chain op_le op_le (pv 1) (pv 0) (pv 2))))), ?_⟩
    refine ⟨_, rfl, .int n, .ty "bool", .type "int", .type "bool", false, rfl, .ty _, .base (.int n), kit_ty (by decide +kernel), _, rfl, _, rfl, iteT ⟨_, rfl, _, rfl, _, _, rfl, rfl, _, rfl, ?_⟩⟩
    refine ite2 (fun h1 => ?_) (fun h1 => ?_)
    · refine ⟨_, rfl, _, _, rfl, rfl, ?_⟩
      rw [h1] at k
      exact k
    · rw [Bool.eq_false_iff.mpr h1] at k
      exact k
def spLeast (K : PySem.W.Frag) : Sp := fun vs H Q _ => ∃ (a : Addr) (ns : List Int), vs = [.ref a] ∧ SqL K H a (ns.map V.int) ∧ 0 < ns.length ∧ ∀ j, IsLeast ns j → Q (.int (j : Nat)) H
theorem scLeast : FnScope ["numbers"] ["numbers"] (defScope sFirstLeast) := ⟨rfl, rfl, rfl, by decide +kernel, rfl, by decide +kernel, by decide +kernel⟩
theorem flat_ints (ns : List Int) : (ns.map V.int).all flatV = true := by
  rw [List.all_map]
  exact List.all_eq_true.mpr fun _ _ => rfl
theorem ok_least {f : Addr} {fd : FuncData} (F : Fun K "_first_least" "_first_least" sFirstLeast f fd) (B : Blt mg) : FnOk P w K mg base CX0 1 f fd ["numbers"] (spLeast K) := by
  refine F.ok scLeast (fun vs H Q E h => ?_) (fun cdv A outer s H vs Q E hr h => ?_)
  · obtain ⟨a, ns, rfl, _⟩ := h
    rfl
  · obtain ⟨a, ns, rfl, ha, h0, k⟩ := h
    refine ⟨_, pss_one (ps_ret (pe_bm PySem.F.plainAttrs_list PySem.F.slot_list_index PySem.F.type_list_index mt_index (pv 0) (pa_cons (pe_callB (cr_min rfl) (by rfl) B.min (by decide +kernel) (pa_cons (pv 0) pa_nil)) pa_nil))), ?_⟩
    refine ⟨_, rfl, .inl ⟨rfl, _, ha⟩, _, rfl, a, ns, rfl, ha, h0, fun m hm hl => ?_⟩
    obtain ⟨j, hj, hf⟩ := first_at hm
    refine ⟨a, _, .int m, j, .int m, rfl, rfl, ha, rfl, flat_ints ns, by rw [List.getElem?_map, hj]; rfl, by show (m == m) = true; simp, fun i z hi hz => ?_, k j ⟨m, hj, hl, fun i z hi hz => ?_⟩⟩
    · rw [List.getElem?_map] at hz
      cases e : ns[i]? with
      | none =>
        rw [e] at hz
        cases hz
      | some y =>
        rw [e] at hz
        cases hz
        have := hf i y hi e
        show (y == m) = false
        simpa using this
    · have a1 := hl z (List.mem_of_getElem? hz)
      have a2 := hf i z hi hz
      omega
/-! ### the class -/
/-- what the written part says of one of the four classes -/
structure HabC (K : PySem.W.Frag) (C : Addr) : Prop where
  cl : Cls K C
  nP : NoAttr K C "_pile_count"
/-- an instance of n piles -/
def HabAt (C : Addr) (H : Hp) (x : Addr) (n : Int) : Prop := ∃ dx, H x = some (.ins C dx [(("_pile_count" : Str), .int n)])
theorem HabAt.same {C x : Addr} {H H' : Hp} {n : Int} (s : Same H H') (h : HabAt C H x n) : HabAt C H' x n := by
  obtain ⟨dx, e⟩ := h
  exact ⟨dx, s _ _ e⟩
theorem lk_count (a : V) : List.lookup ("_pile_count" : Str) [(("_pile_count" : Str), a)] = some a := by simp [List.lookup]
def spCount (CN : Addr) : Sp := fun vs H Q E => ∃ n : Int, vs = [.int n] ∧ n.natAbs.log2 < 1920 ∧ (1 ≤ n ∧ n ≤ 9 → Q .non H) ∧ (¬ (1 ≤ n ∧ n ≤ 9) → E (.ref CN) none H)
theorem scCount : FnScope ["count"] ["count"] (defScope sCheckPileCount) := ⟨rfl, rfl, rfl, by decide +kernel, rfl, by decide +kernel, by decide +kernel⟩
theorem ok_count {f CN fW : Addr} {fd fdW : FuncData} {t9 : Tok} (F : Fun K "check_pile_count" "check_pile_count" sCheckPileCount f fd) (EC : ErrN4 K mg "InvalidNumber" CN) (g9 : mg "MOST_PILES" = some (.int 9 t9))
    (GW : FnOk P w K mg base CX0 1 fW fdW ["number", "low", "high"] spIsWithin) (mW : mg "is_within" = some (.ref fW)) (kW : PySem.W.keepIn K (.ref fW) = true) (bW : Binds K fdW ["number", "low", "high"] []) :
    FnOk P w K mg base (L2.CX P w) 2 f fd ["count"] (spCount CN) := by
  refine F.okX scCount (fun vs H Q E h => ?_) (fun cdv A outer s H vs Q E hr h => ?_)
  · obtain ⟨n, rfl, _⟩ := h
    rfl
  · obtain ⟨n, rfl, hl, kOk, kBad⟩ := h
    refine ⟨_, pss_one (ps_if (pt_not (pt_val (pe_call GW (hr.mono (by decide)) rfl mW kW bW .nil pass0 (pa_cons (pv 0) (pa_cons pe_int (pa_cons (pe_glob (v := .int 9) rfl g9 ⟨_, rfl⟩) pa_nil))))))
        (pss_one (ps_raise rfl (takes_of rfl rfl rfl rfl) (SkE.pmk_own1 PySem.F.excBase_ValueError EC.ex EC.gm EC.kp (raises_own EC.be EC.ty) (by rfl) (pe_joined (.cons (pe_fmt (pv 0)) (.cons pe_str .nil)))))) pss_nil), ?_⟩
    refine ⟨_, rfl, n, 1, 9, rfl, _, rfl, ?_⟩
    refine ite2 (fun h1 => ?_) (fun h1 => ?_)
    · have h1' : ¬ (1 ≤ n ∧ n ≤ 9) := fun q => by
        rw [decide_eq_true q.1, decide_eq_true q.2] at h1
        cases h1
      refine ⟨_, rfl, .inr ⟨n, rfl, hl, _, rfl, ?_, _, rfl, ?_, kBad h1'⟩⟩
      · exact Nat.le_trans (small_cat (n := 0) (m := 1921) (by decide) (PyProof.Rows.int_text_len_1921 hl)) (by decide)
      · exact Nat.le_trans (small_cat (n := 1921) (m := 100) (small_cat (n := 0) (m := 1921) (by decide) (PyProof.Rows.int_text_len_1921 hl)) (by decide +kernel)) (by decide)
    · have h2 : 1 ≤ n ∧ n ≤ 9 := by simpa using h1
      exact kOk h2
def spHInit (C CN : Addr) : Sp := fun vs H Q E => ∃ (x dx : Addr) (n : Int), vs = [.ref x, .int n] ∧ HabC K C ∧ H x = some (.ins C dx []) ∧ n.natAbs.log2 < 1920 ∧
  (1 ≤ n ∧ n ≤ 9 → ∀ H', H' x = some (.ins C dx [(("_pile_count" : Str), .int n)]) → (∀ b o, H b = some o → b ≠ x → H' b = some o) → Q .non H') ∧ (¬ (1 ≤ n ∧ n ≤ 9) → E (.ref CN) none H)
theorem scHInit : FnScope ["self", "count"] ["self", "count"] (defScope sHabit_Init) := ⟨rfl, rfl, rfl, by decide +kernel, rfl, by decide +kernel, by decide +kernel⟩
theorem ok_hinit {f C CN fK : Addr} {fd fdK : FuncData} (F : Fun K "__init__" "Habit.__init__" sHabit_Init f fd)
    (GK : FnOk P w K mg base (L2.CX P w) 2 fK fdK ["count"] (spCount CN)) (mK : mg "check_pile_count" = some (.ref fK)) (kK : PySem.W.keepIn K (.ref fK) = true) (bK : Binds K fdK ["count"] []) :
    FnOk P w K mg base (L2.CX P w) 3 f fd ["self", "count"] (spHInit (K := K) C CN) := by
  refine F.okX scHInit (fun vs H Q E h => ?_) (fun cdv A outer s H vs Q E hr h => ?_)
  · obtain ⟨x, dx, n, rfl, _⟩ := h
    rfl
  · obtain ⟨x, dx, n, rfl, HC, hx, hl, kOk, kBad⟩ := h
    refine ⟨_, pss_cons (ps_expr (pe_call GK (hr.mono (by decide)) rfl mK kK bK .nil (passes_call (takes_of rfl rfl rfl rfl) fun _ _ _ _ z => z) (pa_cons (pv 1) pa_nil))) (pss_one (ps_fld (pv 0) (pv 1) rfl)), ?_⟩
    exact ⟨_, rfl, n, rfl, hl, fun h2 => ⟨_, rfl, _, rfl, x, C, dx, [], rfl, hx, HC.cl, HC.nP, by decide, kOk h2 _ upd_same fun b o e hb => by rw [upd_ne hb]; exact e⟩, kBad⟩
theorem scHCount : FnScope ["self"] ["self"] (defScope sHabit_PileCount) := ⟨rfl, rfl, rfl, by decide +kernel, rfl, by decide +kernel, by decide +kernel⟩
def spHCount : Sp := fun vs H Q _ => ∃ (x C : Addr) (n : Int), vs = [.ref x] ∧ HabC K C ∧ HabAt C H x n ∧ Q (.int n) H
theorem ok_hcount {f : Addr} {fd : FuncData} (F : Fun K "pile_count" "Habit.pile_count" sHabit_PileCount f fd) : FnOk P w K mg base CX0 1 f fd ["self"] (spHCount (K := K)) := by
  refine F.ok scHCount (fun vs H Q E h => ?_) (fun cdv A outer s H vs Q E hr h => ?_)
  · obtain ⟨x, C, n, rfl, _⟩ := h
    rfl
  · obtain ⟨x, C, n, rfl, HC, ⟨dx, hx⟩, k⟩ := h
    exact ⟨_, pss_one (ps_ret (pe_fld (pv 0) rfl)), _, rfl, x, C, dx, _, .int n, rfl, hx, HC.cl, HC.nP, lk_count _, k⟩
end
end Sh4
set_option Elab.async false
set_option linter.all false
set_option maxRecDepth 100000
set_option maxHeartbeats 4000000
/-! The four calls of a habit. -/
namespace Sh4
open PySem L2 Sho NdefX Shg Sh1
def PileV (H : Hp) (v : V) (p : List Int) : Prop := ∃ t, v = .ref t ∧ H t = some (.tup (p.map V.int)) ∧ p.length ≤ 1000
theorem PileV.same {H H' : Hp} (s : Same H H') {v : V} {p : List Int} (h : PileV H v p) : PileV H' v p := by
  obtain ⟨t, e, ht, hl⟩ := h
  exact ⟨t, e, s _ _ ht, hl⟩
def PilesAt (K : PySem.W.Frag) (H : Hp) (pl : Addr) (ps : List (List Int)) : Prop := ∃ ts, SqL K H pl ts ∧ PySem.Paired (PileV H) ts ps ∧ ps.length ≤ 1000
theorem PilesAt.same {K : PySem.W.Frag} {H H' : Hp} {pl : Addr} {ps : List (List Int)} (s : Same H H') (h : PilesAt K H pl ps) : PilesAt K H' pl ps := by
  obtain ⟨ts, h1, h2, h3⟩ := h
  exact ⟨ts, s.seq h1, pair_mono (fun _ _ q => q.same s) h2, h3⟩
def heights (ps : List (List Int)) : List Int := ps.map fun p => (p.length : Int)
def fewer (go : Int) (ps : List (List Int)) : List Int := ps.map fun p => ((p.filter fun t => decide (t < go)).length : Int)
def Chosen (kind : Fin 4) (number : Int) (ps : List (List Int)) (go n j : Int) : Prop := match kind with
  | 0 => j = 0
  | 1 => j = number % n
  | 2 => ∃ i : Nat, IsLeast (heights ps) i ∧ j = i
  | 3 => ∃ i : Nat, IsLeast (fewer go ps) i ∧ j = i
section
variable {P : Program} {w : World} {K : PySem.W.Frag} {mg : Str → Option Value} {base : Heap}
def spHCall (K : PySem.W.Frag) (kind : Fin 4) (C : Addr) : Sp := fun vs H Q _ => ∃ (x pl : Addr) (number go n : Int) (ps : List (List Int)), vs = [.ref x, .int number, .ref pl, .int go] ∧ HabAt C H x n ∧ 1 ≤ n ∧ n ≤ 9 ∧ PilesAt K H pl ps ∧ 0 < ps.length ∧
  ∀ j H', Same H H' → Chosen kind number ps go n j → Q (.int j) H'
theorem len_vs {K : PySem.W.Frag} {kind : Fin 4} {C : Addr} {vs : List V} {H : Hp} {Q : VK} {E : XK} (h : spHCall K kind C vs H Q E) : vs.length = 4 := by
  obtain ⟨x, pl, number, go, n, ps, rfl, _⟩ := h
  rfl
theorem scCall0 : FnScope ["self", "number", "piles", "go"] ["self", "number", "piles", "go"] (defScope sHabit_Call) := ⟨rfl, rfl, rfl, by decide +kernel, rfl, by decide +kernel, by decide +kernel⟩
theorem ok_call0 {f C : Addr} {fd : FuncData} (F : Fun K "__call__" "Habit.__call__" sHabit_Call f fd) : FnOk P w K mg base CX0 1 f fd ["self", "number", "piles", "go"] (spHCall K 0 C) := by
  refine F.ok scCall0 (fun vs H Q E h => len_vs h) (fun cdv A outer s H vs Q E hr h => ?_)
  obtain ⟨x, pl, number, go, n, ps, rfl, _, _, _, _, _, k⟩ := h
  exact ⟨_, pss_one (ps_ret pe_int), k 0 H (Same.refl _) rfl⟩
theorem scCall1 : FnScope ["self", "number", "piles", "go"] ["self", "number", "piles", "go"] (defScope sTurnHabit_Call) := ⟨rfl, rfl, rfl, by decide +kernel, rfl, by decide +kernel, by decide +kernel⟩
theorem ok_call1 {f C p g : Addr} {fd fdg : FuncData} (F : Fun K "__call__" "TurnHabit.__call__" sTurnHabit_Call f fd) (HC : HabC K C) (GC : FnOk P w K mg base CX0 1 g fdg ["self"] (spHCount (K := K))) (pr : PropOf K C "pile_count" p g) (bC : Binds K fdg ["self"] []) :
    FnOk P w K mg base CX0 3 f fd ["self", "number", "piles", "go"] (spHCall K 1 C) := by
  refine F.ok scCall1 (fun vs H Q E h => len_vs h) (fun cdv A outer s H vs Q E hr h => ?_)
  obtain ⟨x, pl, number, go, n, ps, rfl, hx, n1, n9, _, _, k⟩ := h
  refine ⟨_, pss_one (ps_ret (pe_op op_mod (pv 1) (pe_prop (pv 0) HC.cl pr GC (hr.mono (by decide)) bC .nil pass0 rfl))), ?_⟩
  obtain ⟨dx, ex⟩ := id hx
  exact ⟨_, rfl, _, rfl, x, dx, _, rfl, ex, x, C, n, rfl, HC, hx, _, _, rfl, rfl, by omega, k _ H (Same.refl _) rfl⟩
abbrev rLen4 (K : PySem.W.Frag) : List V → Hp → VK → Prop := fun xs H Q => ∃ p ys, xs = [.ref p] ∧ (SqL K H p ys ∨ SqT K H p ys) ∧ Q (.int ys.length) H
theorem scCall2 : FnScope ["self", "number", "piles", "go", "pile"] ["self", "number", "piles", "go"] (defScope sLowHabit_Call) := ⟨rfl, rfl, rfl, by decide +kernel, rfl, by decide +kernel, by decide +kernel⟩
theorem ok_call2 {f C fL : Addr} {fd fdL : FuncData} (F : Fun K "__call__" "LowHabit.__call__" sLowHabit_Call f fd) (B : Blt mg) (GL : FnOk P w K mg base CX0 1 fL fdL ["numbers"] (spLeast K)) (mL : mg "_first_least" = some (.ref fL)) (kL : PySem.W.keepIn K (.ref fL) = true) (bL : Binds K fdL ["numbers"] []) :
    FnOk P w K mg base CX0 2 f fd ["self", "number", "piles", "go"] (spHCall K 2 C) := by
  refine F.ok scCall2 (fun vs H Q E h => len_vs h) (fun cdv A outer s H vs Q E hr h => ?_)
  obtain ⟨x, pl, number, go, n, ps, rfl, _, _, _, ⟨ts, hts, pair, hz⟩, h0, k⟩ := h
  have nd := scCall2.nd
  have lt := pair_len pair
  refine ⟨_, pss_one (ps_ret (pe_call GL hr rfl mL kL bL .nil pass0 (pa_cons (pe_lc (own := [("pile", 4)]) (g := gName 4) (tt := tYes) (te := tCB (rLen4 K) (tCons (tVar 4) tNil)) rfl nd (pi_list (pv 2)) (blkOk_by (own := [("pile", 4)]) (N := ["self", "number", "piles", "go", "pile"]) (sc := defScope sLowHabit_Call) (by decide +kernel))
      (fun _ _ _ _ _ => pg_name (i := 4) nd rfl (Or.inl rfl)) (fun _ _ _ _ _ => pts_nil) (fun _ _ _ _ _ => pe_callB call_len_seq (by rfl) B.len PySem.boot_len (pa_cons (pv 4) pa_nil))) pa_nil))), ?_⟩
  refine ⟨_, rfl, pl, rfl, ⟨_, hts⟩, fun D hD => ?_⟩
  refine lc_map walk_list (fun i => (ps[i]?).map fun p => .int (p.length : Int)) hD (by rw [lt]; exact Nat.le_trans hz (by decide)) (fun H1 s1 => s1.seq hts) (fun i v H1 H' hi s1 y R k1 => ?_) (fun i hi => ⟨_, by rw [List.getElem?_eq_getElem (by rw [← lt]; exact hi)]; rfl⟩) fun H1 s1 e1 => ?_
  · obtain ⟨rfl, e2⟩ := y
    obtain ⟨p, hp, t, rfl, ht, _⟩ := pair_get pair e2
    refine ⟨rfl, _, rfl, t, _, rfl, .inr (SqT.of (s1 _ _ ht)), k1 _ _ (Same.refl _) ?_⟩
    rw [hp, List.length_map]
    rfl
  · have e3 : gather (fun i => (ps[i]?).map fun p => V.int (p.length : Int)) ts.length = (heights ps).map V.int := by
      have := gather_map ps fun p => V.int (p.length : Int)
      rw [lt, this]
      unfold heights
      rw [List.map_map]
      rfl
    rw [e3] at e1
    exact ⟨D, heights ps, rfl, SqL.of e1, by unfold heights; rw [List.length_map]; exact h0, fun j hj => k _ _ s1 ⟨j, hj, rfl⟩⟩
theorem scCall3 : FnScope ["self", "number", "piles", "go", "pile", "tick"] ["self", "number", "piles", "go"] (defScope sPlanHabit_Call) := ⟨rfl, rfl, rfl, by decide +kernel, rfl, by decide +kernel, by decide +kernel⟩
theorem ok_call3 {f C fL : Addr} {fd fdL : FuncData} (F : Fun K "__call__" "PlanHabit.__call__" sPlanHabit_Call f fd) (B : Blt mg) (GL : FnOk P w K mg base CX0 1 fL fdL ["numbers"] (spLeast K)) (mL : mg "_first_least" = some (.ref fL)) (kL : PySem.W.keepIn K (.ref fL) = true) (bL : Binds K fdL ["numbers"] []) :
    FnOk P w K mg base CX0 2 f fd ["self", "number", "piles", "go"] (spHCall K 3 C) := by
  refine F.ok scCall3 (fun vs H Q E h => len_vs h) (fun cdv A outer s H vs Q E hr h => ?_)
  obtain ⟨x, pl, number, go, n, ps, rfl, _, _, _, ⟨ts, hts, pair, hz⟩, h0, k⟩ := h
  have nd := scCall3.nd
  have lt := pair_len pair
  refine ⟨_, pss_one (ps_ret (pe_call GL hr rfl mL kL bL .nil pass0 (pa_cons (pe_lc (own := [("pile", 4)]) (g := gName 4) (tt := tYes) (te := tCB (rLen4 K) (tCons (tLc (iTup K (tVar 4)) (gName 5) (tTest (tOp (rI0 fun i j => .bl (decide (i < j))) (tVar 5) (tVar 3))) (tVar 5) [5]) tNil)) rfl nd (pi_list (pv 2)) (blkOk_by (own := [("pile", 4)]) (N := ["self", "number", "piles", "go", "pile", "tick"]) (sc := defScope sPlanHabit_Call) (by decide +kernel))
      (fun _ _ _ _ _ => pg_name (i := 4) nd rfl (Or.inl rfl)) (fun _ _ _ _ _ => pts_nil) (fun _ _ _ _ _ => pe_callB call_len_seq (by rfl) B.len PySem.boot_len (pa_cons
        (pe_lc (own := [("tick", 5)]) (g := gName 5) (tt := tTest (tOp (rI0 fun i j => .bl (decide (i < j))) (tVar 5) (tVar 3))) rfl nd (pi_tup (pv 4)) (blkOk_by (by rfl)) (fun _ _ _ _ _ => pg_name (i := 5) nd rfl (Or.inl rfl)) (fun _ _ _ _ _ => pts_one (pt_cmpR op_lt (pv 5) (pv 3) (nomark _))) (fun _ _ _ _ _ => pv 5)) pa_nil))) pa_nil))), ?_⟩
  refine ⟨_, rfl, pl, rfl, ⟨_, hts⟩, fun D hD => ?_⟩
  refine lc_map walk_list (fun i => (ps[i]?).map fun p => .int ((p.filter fun t => decide (t < go)).length : Int)) hD (by rw [lt]; exact Nat.le_trans hz (by decide)) (fun H1 s1 => s1.seq hts) (fun i v H1 H' hi s1 y R k1 => ?_) (fun i hi => ⟨_, by rw [List.getElem?_eq_getElem (by rw [← lt]; exact hi)]; rfl⟩) fun H1 s1 e1 => ?_
  · obtain ⟨rfl, e2⟩ := y
    obtain ⟨p, hp, t, rfl, ht, hpz⟩ := pair_get pair e2
    refine ⟨rfl, _, rfl, t, rfl, ⟨_, SqT.of (s1 _ _ ht)⟩, fun D2 hD2 => ?_⟩
    have lp : (p.map V.int).length = p.length := List.length_map ..
    refine lc_gather walk_tup (fun i => (p[i]?).bind fun t => if decide (t < go) = true then some (.int t) else none) hD2 (by rw [lp]; exact Nat.le_trans hpz (by decide)) (fun H2 s2 => SqT.of (s2 _ _ (s1 _ _ ht))) (fun i v H2 H3 hi s2 y R k2 => ?_) fun H2 s2 e3 => ?_
    · obtain ⟨rfl, e4⟩ := y
      rw [List.getElem?_map] at e4
      cases e : p[i]? with
      | none =>
        rw [e] at e4
        cases e4
      | some t' =>
        rw [e] at e4
        cases e4
        refine ⟨rfl, _, rfl, _, rfl, _, _, rfl, rfl, _, rfl, ?_⟩
        have k3 := k2 _ (Same.refl _)
        rw [e] at k3
        have k4 : R (if decide (t' < go) = true then some (V.int t') else none) _ := k3
        refine ite2 (fun q => ?_) (fun q => ?_)
        · rw [if_pos q] at k4
          exact ⟨_, rfl, k4⟩
        · rw [if_neg q] at k4
          exact k4
    · refine ⟨D2, _, rfl, .inl (SqL.of e3), k1 _ _ s2 ?_⟩
      have e5 : gather (fun i => (p[i]?).bind fun t => if decide (t < go) = true then some (V.int t) else none) (p.map V.int).length = (p.filter fun t => decide (t < go)).map V.int := by
        rw [lp]
        exact gather_filter p (fun t => decide (t < go)) V.int
      rw [e5, hp, List.length_map]
      rfl
  · have e3 : gather (fun i => (ps[i]?).map fun p => V.int ((p.filter fun t => decide (t < go)).length : Int)) ts.length = (fewer go ps).map V.int := by
      have := gather_map ps fun p => V.int ((p.filter fun t => decide (t < go)).length : Int)
      rw [lt, this]
      unfold fewer
      rw [List.map_map]
      rfl
    rw [e3] at e1
    exact ⟨D, fewer go ps, rfl, SqL.of e1, by unfold fewer; rw [List.length_map]; exact h0, fun j hj => k _ _ s1 ⟨j, hj, rfl⟩⟩
end
end Sh4
set_option Elab.async false
set_option linter.all false
set_option maxRecDepth 100000
set_option maxHeartbeats 4000000
/-! _law_habit, _law_choice. -/
namespace Sh4
open PySem L2 Sho NdefX Shg Sh1
def kz (i : Fin 4) : Str := (["first", "turn", "low", "plan"] : List Str).getD i.1 "plan"
def cn (i : Fin 4) : Str := (["Habit", "TurnHabit", "LowHabit", "PlanHabit"] : List Str).getD i.1 "PlanHabit"
theorem kz_first : ∀ i, decide (V.str (kz i) = V.str "first") = decide (i = 0) := by decide +kernel
theorem kz_turn : ∀ i, decide (V.str (kz i) = V.str "turn") = decide (i = 1) := by decide +kernel
theorem kz_low : ∀ i, decide (V.str (kz i) = V.str "low") = decide (i = 2) := by decide +kernel
theorem kz_plan : ∀ i, decide (V.str (kz i) = V.str "plan") = decide (i = 3) := by decide +kernel
theorem four_cases : ∀ i : Fin 4, i = 0 ∨ i = 1 ∨ i = 2 ∨ i = 3 := by decide
structure HabK (K : PySem.W.Frag) (mg : Str → Option Value) (Ch : Fin 4 → Addr) (fI : Addr) : Prop where
  g : ∀ i, mg (cn i) = some (.ref (Ch i))
  mkr : ∀ i, Mk K (Ch i) fI
  hc : ∀ i, HabC K (Ch i)
section
variable {P : Program} {w : World} {K : PySem.W.Frag} {mg : Str → Option Value} {base : Heap}
def spLawHabit (Ch : Fin 4 → Addr) (CN : Addr) : Sp := fun vs H Q E => ∃ (i : Fin 4) (n : Int), vs = [.str (kz i), .int n] ∧ n.natAbs.log2 < 1920 ∧
  (1 ≤ n ∧ n ≤ 9 → ∀ x H', Same H H' → H x = none → HabAt (Ch i) H' x n → Q (.ref x) H') ∧ (¬ (1 ≤ n ∧ n ≤ 9) → ∀ H', Same H H' → E (.ref CN) none H')
theorem scLawHabit : FnScope ["_law_kind", "_law_count"] ["_law_kind", "_law_count"] (defScope sLawHabit) := ⟨rfl, rfl, rfl, by decide +kernel, rfl, by decide +kernel, by decide +kernel⟩
theorem new_hab {Ch : Fin 4 → Addr} {CN fI : Addr} (HK : HabK K mg Ch fI) {i : Fin 4} {n : Int} {H : Hp} {Q : VK} {E : XK} {σ : L2.St} {sl : Nat} (hs : σ[sl]? = some (some (.int n))) (hl : n.natAbs.log2 < 1920)
    (kOk : 1 ≤ n ∧ n ≤ 9 → ∀ x H', Same H H' → H x = none → HabAt (Ch i) H' x n → Q (.ref x) H') (kBad : ¬ (1 ≤ n ∧ n ≤ 9) → ∀ H', Same H H' → E (.ref CN) none H') : tMake (Ch i) (spHInit (K := K) (Ch i) CN) [] E (tCons (tVar sl) tNil) σ H Q := by
  refine ⟨_, hs, fun x dx hx hdx ne => ?_⟩
  have s1 : Same H (upd (upd H dx (.own x)) x (.ins (Ch i) dx [])) := fun b o e => by
    rw [upd_ne (ne_of_none e hx), upd_ne (ne_of_none e hdx)]
    exact e
  refine ⟨x, dx, n, rfl, HK.hc i, upd_same, hl, fun q H' e1 e2 => ⟨rfl, ?_⟩, fun q => kBad q _ s1⟩
  exact kOk q x H' (fun b o e => e2 b o (s1 b o e) (ne_of_none e hx)) hx ⟨dx, e1⟩
theorem ok_lawHabit {f fI CN : Addr} {fd fdI : FuncData} {Ch : Fin 4 → Addr} (F : Fun K "_law_habit" "_law_habit" sLawHabit f fd) (HK : HabK K mg Ch fI) (GI : ∀ C, FnOk P w K mg base (L2.CX P w) 3 fI fdI ["self", "count"] (spHInit (K := K) C CN)) (bI : Binds K fdI ["self", "count"] []) :
    FnOk P w K mg base (L2.CX P w) 5 f fd ["_law_kind", "_law_count"] (spLawHabit Ch CN) := by
  refine F.okX scLawHabit (fun vs H Q E h => ?_) (fun cdv A outer s H vs Q E hr h => ?_)
  · obtain ⟨i, n, rfl, _⟩ := h
    rfl
  · obtain ⟨i, n, rfl, hl, kOk, kBad⟩ := h
    have pass : Passes (L2.CX P w) (cxOf (L2.CX P w) P w K mg base ["_law_kind", "_law_count"] "_law_habit" (defScope sLawHabit) f cdv A outer s H E) E := passes_call (takes_of rfl rfl rfl rfl) fun _ _ _ _ z => z
    refine ⟨_, pss_cons (ps_if (pt_cmpR op_eq (pv 0) pe_str (nomark _)) (pss_one (ps_ret (pe_make (HK.mkr 1) (GI (Ch 1)) hr rfl (HK.g 1) bI .nil pass (pa_cons (pv 1) pa_nil)))) pss_nil)
      (pss_cons (ps_if (pt_cmpR op_eq (pv 0) pe_str (nomark _)) (pss_one (ps_ret (pe_make (HK.mkr 2) (GI (Ch 2)) hr rfl (HK.g 2) bI .nil pass (pa_cons (pv 1) pa_nil)))) pss_nil)
      (pss_one (ps_ret (pe_ifExp (pt_cmpR op_eq (pv 0) pe_str (nomark _)) (pe_make (HK.mkr 3) (GI (Ch 3)) hr rfl (HK.g 3) bI .nil pass (pa_cons (pv 1) pa_nil)) (pe_make (HK.mkr 0) (GI (Ch 0)) hr rfl (HK.g 0) bI .nil pass (pa_cons (pv 1) pa_nil)))))), ?_⟩
    refine ⟨_, rfl, rfl, _, rfl, ite2 (fun h => ?_) (fun h => ?_)⟩
    · have e : i = 1 := by
        rw [kz_turn] at h
        simpa using h
      subst e
      exact new_hab HK rfl hl kOk kBad
    have n1 : i ≠ 1 := by
      rw [kz_turn] at h
      simpa using h
    refine ⟨_, rfl, rfl, _, rfl, ite2 (fun h => ?_) (fun h => ?_)⟩
    · have e : i = 2 := by
        rw [kz_low] at h
        simpa using h
      subst e
      exact new_hab HK rfl hl kOk kBad
    have n2 : i ≠ 2 := by
      rw [kz_low] at h
      simpa using h
    refine ⟨_, rfl, rfl, _, rfl, ite2 (fun h => ?_) (fun h => ?_)⟩
    · have e : i = 3 := by
        rw [kz_plan] at h
        simpa using h
      subst e
      exact new_hab HK rfl hl kOk kBad
    · have n3 : i ≠ 3 := by
        rw [kz_plan] at h
        simpa using h
      have e : i = 0 := by
        rcases four_cases i with e | e | e | e
        · exact e
        · exact absurd e n1
        · exact absurd e n2
        · exact absurd e n3
      subst e
      exact new_hab HK rfl hl kOk kBad
/-! ### _law_choice -/
theorem gather_pre (f : Nat → Option V) (m : Nat) : ∀ d, ∃ t, gather f (m + d) = gather f m ++ t
  | 0 => ⟨[], by simp⟩
  | d + 1 => by
    obtain ⟨t, e⟩ := gather_pre f m d
    cases h : f (m + d) with
    | none => exact ⟨t, by rw [← Nat.add_assoc, gather_none h, e]⟩
    | some y => exact ⟨t ++ [y], by rw [← Nat.add_assoc, gather_some h, e, List.append_assoc]⟩
theorem gather_first {f : Nat → Option V} {n j : Nat} {y : V} (hj : j < n) (h : f j = some y) (hn : ∀ i, i < j → f i = none) : (gather f n)[0]? = some y := by
  have e0 : ∀ m, m ≤ j → gather f m = [] := fun m => by
    induction m with
    | zero => exact fun _ => rfl
    | succ m ih =>
      intro hm
      rw [gather_none (hn m (by omega)), ih (by omega)]
  obtain ⟨t, e⟩ := gather_pre f (j + 1) (n - (j + 1))
  have e2 : j + 1 + (n - (j + 1)) = n := by omega
  rw [e2, gather_some h, e0 j (Nat.le_refl _)] at e
  rw [e]
  rfl
def spChoice (K : PySem.W.Frag) : Sp := fun vs H Q _ => ∃ (i : Fin 4) (pl : Addr) (number go : Int) (ps : List (List Int)), vs = [.str (kz i), .int number, .ref pl, .int go] ∧ PilesAt K H pl ps ∧ 0 < ps.length ∧
  ∀ j H', Same H H' → Chosen i number ps go ps.length j → Q (.int j) H'
abbrev NC : List Str := ["_law_kind", "_law_number", "_law_piles", "_law_go", "_law_rows", "_law_pile", "_law_one", "_law_k"]
theorem scChoice : FnScope NC ["_law_kind", "_law_number", "_law_piles", "_law_go"] (defScope sLawChoice) := ⟨rfl, rfl, rfl, by decide +kernel, rfl, by decide +kernel, by decide +kernel⟩
theorem ok_choice {f : Addr} {fd : FuncData} (F : Fun K "_law_choice" "_law_choice" sLawChoice f fd) (B : Blt mg) : FnOk P w K mg base CX0 1 f fd ["_law_kind", "_law_number", "_law_piles", "_law_go"] (spChoice K) := by
  refine F.ok scChoice (fun vs H Q E h => ?_) (fun cdv A outer s H vs Q E hr h => ?_)
  · obtain ⟨i, pl, number, go, ps, rfl, _⟩ := h
    rfl
  · obtain ⟨i, pl, number, go, ps, rfl, ⟨ts, hts, pair, hz⟩, h0, k⟩ := h
    have nd := scChoice.nd
    have lt := pair_len pair
    refine ⟨_, pss_cons (ps_if (pt_cmpR op_eq (pv 0) pe_str (nomark _)) (pss_one (ps_ret pe_int)) pss_nil)
      (pss_cons (ps_if (pt_cmpR op_eq (pv 0) pe_str (nomark _)) (pss_one (ps_ret (pe_op op_mod (pv 1) (pe_callB call_len_seq (by rfl) B.len PySem.boot_len (pa_cons (pv 2) pa_nil))))) pss_nil)
      (pss_cons (ps_set (i := 4) nd rfl (Or.inr rfl) (pe_lc (own := [("_law_pile", 5)]) (g := gName 5) (tt := tYes)
          (te := tIf (tTest (tOp rEq (tVar 0) (tC (.str "low")))) (tCB (rLen4 K) (tCons (tVar 5) tNil)) (tCB (rLen4 K) (tCons (tLc (iTup K (tVar 5)) (gName 6) (tTest (tOp (rI0 fun i j => .bl (decide (i < j))) (tVar 6) (tVar 3))) (tVar 6) [6]) tNil))) rfl nd (pi_list (pv 2)) (blkOk_by (by rfl))
          (fun _ _ _ _ _ => pg_name (i := 5) nd rfl (Or.inl rfl)) (fun _ _ _ _ _ => pts_nil) (fun _ _ _ _ _ => pe_ifExp (pt_cmpR op_eq (pv 0) pe_str (nomark _)) (pe_callB call_len_seq (by rfl) B.len PySem.boot_len (pa_cons (pv 5) pa_nil))
            (pe_callB call_len_seq (by rfl) B.len PySem.boot_len (pa_cons (pe_lc (own := [("_law_one", 6)]) (g := gName 6) (tt := tTest (tOp (rI0 fun i j => .bl (decide (i < j))) (tVar 6) (tVar 3))) rfl nd (pi_tup (pv 5)) (blkOk_by (by rfl)) (fun _ _ _ _ _ => pg_name (i := 6) nd rfl (Or.inl rfl)) (fun _ _ _ _ _ => pts_one (pt_cmpR op_lt (pv 6) (pv 3) (nomark _))) (fun _ _ _ _ _ => pv 6)) pa_nil)))))
      (pss_one (ps_ret (pe_ix ix_list (pe_lc (own := [("_law_k", 7)]) (g := gName 7) (tt := tTest (tOp rEq (tOp (rIxL K) (tVar 4) (tVar 7)) (tCB (rMin K) (tCons (tVar 4) tNil)))) rfl nd (pi_range1 (by rfl) B.range (pa_cons (pe_callB call_len_seq (by rfl) B.len PySem.boot_len (pa_cons (pv 4) pa_nil)) pa_nil)) (blkOk_by (by rfl))
          (fun _ _ _ _ _ => pg_name (i := 7) nd rfl (Or.inl rfl)) (fun _ _ _ _ _ => pts_one (pt_cmpR op_eq (pe_ix ix_list (pv 4) (pv 7) (fun _ _ => rfl)) (pe_callB (cr_min rfl) (by rfl) B.min (by decide +kernel) (pa_cons (pv 4) pa_nil)) (nomark _))) (fun _ _ _ _ _ => pv 7)) pe_int (fun _ _ => rfl)))))), ?_⟩
    refine ⟨_, rfl, rfl, _, rfl, ite2 (fun h => ?_) (fun h => ?_)⟩
    · have e : i = 0 := by
        rw [kz_first] at h
        simpa using h
      subst e
      exact k 0 H (Same.refl _) rfl
    have n0 : i ≠ 0 := by
      rw [kz_first] at h
      simpa using h
    refine ⟨_, rfl, rfl, _, rfl, ite2 (fun h => ?_) (fun h => ?_)⟩
    · have e : i = 1 := by
        rw [kz_turn] at h
        simpa using h
      subst e
      exact ⟨_, rfl, _, rfl, pl, _, rfl, .inl hts, _, _, rfl, rfl, by rw [lt]; omega, by rw [lt]; exact k _ H (Same.refl _) rfl⟩
    have n1 : i ≠ 1 := by
      rw [kz_turn] at h
      simpa using h
    -- the rows
    obtain ⟨rs, hrs, hlen, hch⟩ : ∃ rs : List Int, rs = (if i = 2 then heights ps else fewer go ps) ∧ rs.length = ps.length ∧ ∀ j : Nat, IsLeast rs j → Chosen i number ps go ps.length j := by
      refine ⟨_, rfl, ?_, fun j hj => ?_⟩
      · split <;> simp [heights, fewer]
      · by_cases e : i = 2
        · rw [if_pos e] at hj
          subst e
          exact ⟨j, hj, rfl⟩
        · rw [if_neg e] at hj
          have e3 : i = 3 := by
            rcases four_cases i with q | q | q | q
            · exact absurd q n0
            · exact absurd q n1
            · exact absurd q e
            · exact q
          subst e3
          exact ⟨j, hj, rfl⟩
    have row : ∀ {i' : Nat} {p : List Int}, ps[i']? = some p → rs[i']? = some (if i = 2 then (p.length : Int) else ((p.filter fun t => decide (t < go)).length : Int)) := fun {i' p} e => by
      rw [hrs]
      by_cases q : i = 2
      · rw [if_pos q, if_pos q]
        unfold heights
        rw [List.getElem?_map, e]
        rfl
      · rw [if_neg q, if_neg q]
        unfold fewer
        rw [List.getElem?_map, e]
        rfl
    refine ⟨_, rfl, pl, rfl, ⟨_, hts⟩, fun D hD => ?_⟩
    refine lc_map walk_list (fun i => (rs[i]?).map V.int) hD (by rw [lt]; exact Nat.le_trans hz (by decide)) (fun H1 s1 => s1.seq hts) (fun i' v H1 H' hi s1 y R k1 => ?_) (fun i' hi => ⟨_, by rw [List.getElem?_eq_getElem (by rw [hlen, ← lt]; exact hi)]; rfl⟩) fun H1 s1 e1 => ?_
    · obtain ⟨rfl, e2⟩ := y
      obtain ⟨p, hp, t, rfl, ht, hpz⟩ := pair_get pair e2
      have hrow := row hp
      refine ⟨rfl, _, rfl, rfl, _, rfl, ite2 (fun h => ?_) (fun h => ?_)⟩
      · have e : i = 2 := by
          rw [kz_low] at h
          simpa using h
        rw [if_pos e] at hrow
        refine ⟨_, rfl, t, _, rfl, .inr (SqT.of (s1 _ _ ht)), k1 _ _ (Same.refl _) ?_⟩
        rw [hrow, List.length_map]
        rfl
      · have e : i ≠ 2 := by
          rw [kz_low] at h
          simpa using h
        rw [if_neg e] at hrow
        refine ⟨_, rfl, t, rfl, ⟨_, SqT.of (s1 _ _ ht)⟩, fun D2 hD2 => ?_⟩
        have lp : (p.map V.int).length = p.length := List.length_map ..
        refine lc_gather walk_tup (fun i => (p[i]?).bind fun t => if decide (t < go) = true then some (.int t) else none) hD2 (by rw [lp]; exact Nat.le_trans hpz (by decide)) (fun H2 s2 => SqT.of (s2 _ _ (s1 _ _ ht))) (fun i v H2 H3 hi s2 y R k2 => ?_) fun H2 s2 e3 => ?_
        · obtain ⟨rfl, e4⟩ := y
          rw [List.getElem?_map] at e4
          cases e : p[i]? with
          | none =>
            rw [e] at e4
            cases e4
          | some t' =>
            rw [e] at e4
            cases e4
            refine ⟨rfl, _, rfl, _, rfl, _, _, rfl, rfl, _, rfl, ?_⟩
            have k3 := k2 _ (Same.refl _)
            rw [e] at k3
            have k4 : R (if decide (t' < go) = true then some (V.int t') else none) _ := k3
            refine ite2 (fun q => ?_) (fun q => ?_)
            · rw [if_pos q] at k4
              exact ⟨_, rfl, k4⟩
            · rw [if_neg q] at k4
              exact k4
        · refine ⟨D2, _, rfl, .inl (SqL.of e3), k1 _ _ s2 ?_⟩
          have e5 : gather (fun i => (p[i]?).bind fun t => if decide (t < go) = true then some (V.int t) else none) (p.map V.int).length = (p.filter fun t => decide (t < go)).map V.int := by
            rw [lp]
            exact gather_filter p (fun t => decide (t < go)) V.int
          rw [e5, hrow, List.length_map]
          rfl
    · have e3 : gather (fun i => (rs[i]?).map V.int) ts.length = rs.map V.int := by
        have := gather_map rs V.int
        rw [lt, ← hlen, this]
      rw [e3] at e1
      have hr0 : 0 < rs.length := by omega
      have lm : (rs.map V.int).length = rs.length := List.length_map ..
      obtain ⟨m, hm, hl⟩ := least_ex hr0
      obtain ⟨j, hj, hf⟩ := first_at hm
      have least : IsLeast rs j := ⟨m, hj, hl, fun i z hi hz => by
        have a1 := hl z (List.mem_of_getElem? hz)
        have a2 := hf i z hi hz
        omega⟩
      have hlt : (((rs.map V.int).length : Int)).toNat = rs.length := by rw [lm]; simp
      refine ⟨_, rfl, D, _, rfl, .inl (SqL.of e1), _, rfl, by rw [lm]; omega, by rw [lm]; omega, fun D2 hD2 => ?_⟩
      refine lc_gather walk_range (fun k => if decide (rs[k]? = some m) = true then some (.int (k : Nat)) else none) hD2 (by rw [hlt, hlen]; exact Nat.le_trans hz (by decide)) (fun _ _ => trivial) (fun i' v H2 H3 hi s2 y R k2 => ?_) fun H2 s2 e4 => ?_
      · obtain ⟨rfl, rfl⟩ := y
        rw [hlt] at hi
        have zi : (0 : Int) + (i' : Nat) = (i' : Nat) := by omega
        have hri : rs[i']? = some rs[i'] := List.getElem?_eq_getElem hi
        refine ⟨rfl, _, rfl, _, rfl, D, _, _, .int rs[i'], rfl, rfl, SqL.of (s2 _ _ e1), by rw [zi]; exact atI_nat (by rw [List.getElem?_map, hri]; rfl), _, rfl, D, rs, rfl, SqL.of (s2 _ _ e1), hr0, fun m' hm' hl' => ?_⟩
        have em : m' = m := by
          have a1 := hl' m hm
          have a2 := hl m' hm'
          omega
        subst em
        refine ⟨rfl, _, rfl, ?_⟩
        have k3 : R (if decide (rs[i']? = some m') = true then some (V.int (i' : Nat)) else none) _ := k2 _ (Same.refl _)
        rw [hri] at k3
        refine ite2 (fun q => ?_) (fun q => ?_)
        · have q' : rs[i'] = m' := by
            have := of_decide_eq_true q
            injection this
          rw [if_pos (by rw [q']; exact decide_eq_true rfl)] at k3
          rw [← zi] at k3
          exact ⟨_, rfl, k3⟩
        · have q' : ¬ rs[i'] = m' := fun z => q (decide_eq_true (by rw [z]))
          rw [if_neg (by simpa using q')] at k3
          exact k3
      · have e5 : (gather (fun k => if decide (rs[k]? = some m) = true then some (V.int (k : Nat)) else none) ((((rs.map V.int).length : Int)).toNat))[0]? = some (V.int (j : Nat)) := by
          rw [hlt]
          refine gather_first (IsLeast.lt least) (if_pos (decide_eq_true hj)) fun i' hi => if_neg fun q => ?_
          exact hf i' m hi (of_decide_eq_true q) rfl
        exact ⟨D2, _, _, _, rfl, rfl, SqL.of e4, atI_nat (j := 0) e5, k _ _ (s1.trans s2) (hch j least)⟩
end
end Sh4
set_option Elab.async false
set_option linter.all false
set_option maxRecDepth 100000
set_option maxHeartbeats 4000000
/-! The law of habits. -/
namespace Sh4
open PySem L2 Sho NdefX Shg Sh1
abbrev qLaw : Str := "law.<locals>.<lambda>"
abbrev NL : List Str := ["_law_script", "_law_h", "_law_turn", "_law_count", "_law_habit_here", "_law_piles", "_law_k", "_law_number", "_law_go", "_law_kind", "_law_wrong", "_law_one"]
abbrev nnames : List (Str × NameKind) := [("_law_kind", .free), ("_law_wrong", .free)]
abbrev frL : List Str := ["_law_kind", "_law_wrong"]
abbrev clL (sc : Scope) (n : Nat) : List (Str × Addr) := cloFrom (cellsFrom (n + 1) sc.names []) nnames []
theorem NextSt.fresh {H : Hp} {l S p : Addr} (d : NextSt H l S) (h : H p = none) : p ≠ l ∧ p ≠ S := by
  obtain ⟨⟨m, q, cells, h1, h2, _⟩, _⟩ := d
  exact ⟨fun z => (by rw [z, h1] at h; cases h), fun z => (by rw [z, h2] at h; cases h)⟩
/-- an object that is no list is neither -/
theorem NextSt.other {H : Hp} {l S b : Addr} {o : HO} (d : NextSt H l S) (h : H b = some o) (n : ∀ ys, o ≠ .lst ys) : b ≠ l ∧ b ≠ S := by
  obtain ⟨⟨m, q, cells, h1, h2, _⟩, _⟩ := d
  exact ⟨fun z => (by rw [z, h1] at h; exact n _ (Option.some.inj h).symm), fun z => (by rw [z, h2] at h; exact n _ (Option.some.inj h).symm)⟩
theorem NextSt.keep {H H' : Hp} {l S : Addr} (d : NextSt H l S) (e : LamX.ExtN H H') : NextSt H' l S := by
  obtain ⟨⟨m, p, cells, h1, h2, h3⟩, n⟩ := d
  exact ⟨⟨m, p, cells, e _ _ h1 (fun _ z => nomatch z), e _ _ h2 (fun _ z => nomatch z), h3⟩, n⟩
theorem tabs_but2 {l S : Addr} {H H' : Hp} {T : List (Addr × Str)} (d : NextSt H l S) (e : But2 l S H H') (t : LamX.Tabs T H) : LamX.Tabs T H' := fun p hp => by
  obtain ⟨qs, q1, q2, q3⟩ := t p hp
  obtain ⟨n1, n2⟩ := d.other q1 fun ys z => nomatch z
  refine ⟨qs, e _ _ q1 n1 n2, q2, fun p' cv h => ?_⟩
  obtain ⟨c, e1, e2⟩ := q3 p' cv h
  obtain ⟨n3, n4⟩ := d.other e2 fun ys z => nomatch z
  exact ⟨c, e1, e _ _ e2 n3 n4⟩
/-- what stands within a turn -/
structure Turn (T : List (Addr × Str)) (C : Addr) (l S x M : Addr) (n : Int) (ps : List (List Int)) (H : Hp) : Prop where
  d : NextSt H l S
  t : LamX.Tabs T H
  hab : HabAt C H x n
  pl : ∃ ts, H M = some (.lst ts) ∧ PySem.Paired (PileV H) ts ps
  nl : M ≠ l
  nS : M ≠ S
section
variable {T : List (Addr × Str)} {C l S x M : Addr} {n : Int} {ps : List (List Int)} {H H' : Hp}
theorem hab_keep (d : NextSt H l S) (e : Keep2 l S H H') (h : HabAt C H x n) : HabAt C H' x n := by
  obtain ⟨dx, hx⟩ := h
  obtain ⟨n1, n2⟩ := d.other hx fun ys z => nomatch z
  exact ⟨dx, e _ _ hx n1 n2 fun _ z => nomatch z⟩
theorem pile_keep (d : NextSt H l S) (e : Keep2 l S H H') {v : V} {p : List Int} (h : PileV H v p) : PileV H' v p := by
  obtain ⟨t, rfl, ht, hl⟩ := h
  obtain ⟨n1, n2⟩ := d.other ht fun ys z => nomatch z
  exact ⟨t, rfl, e _ _ ht n1 n2 (fun _ z => nomatch z), hl⟩
theorem Turn.fwd (u : Turn T C l S x M n ps H) (e : Keep2 l S H H') (d : NextSt H' l S) (t : LamX.Tabs T H') : Turn T C l S x M n ps H' := by
  obtain ⟨ts, h1, h2⟩ := u.pl
  exact ⟨d, t, hab_keep u.d e u.hab, ⟨ts, e _ _ h1 u.nl u.nS (fun _ z => nomatch z), pair_mono (fun _ _ q => pile_keep u.d e q) h2⟩, u.nl, u.nS⟩
theorem Turn.same (u : Turn T C l S x M n ps H) (e : Same H H') : Turn T C l S x M n ps H' := u.fwd (.of e) (u.d.same e) (LamX.Tabs.ext u.t e)
theorem Turn.but (u : Turn T C l S x M n ps H) (e : But2 l S H H') (d : NextSt H' l S) : Turn T C l S x M n ps H' := u.fwd (.but e) d (tabs_but2 u.d e u.t)
theorem Turn.grows (u : Turn T C l S x M n ps H) (e : Grows T H H') : Turn T C l S x M n ps H' := u.fwd (.ext e.ext) (u.d.keep e.ext) (e.tab u.t)
theorem Turn.piles {K : PySem.W.Frag} (u : Turn T C l S x M n ps H) (hz : ps.length ≤ 1000) : PilesAt K H M ps := by
  obtain ⟨ts, h1, h2⟩ := u.pl
  exact ⟨ts, SqL.of h1, h2, hz⟩
end
section
variable {P : Program} {w : World} {K : PySem.W.Frag} {mg : Str → Option Value} {base : Heap}
def spLaw (K : PySem.W.Frag) (T : List (Addr × Str)) : Sp := fun vs H Q _ => ∃ (a : Addr) (ns : List Int), vs = [.ref a] ∧ SqL K H a (ns.map V.int) ∧ ns.length ≤ 63 ∧ LamX.Tabs T H ∧ ∀ H', Q (.bl true) H'
theorem scLaw : FnScope NL ["_law_script"] (defScope sLaw) := ⟨rfl, rfl, rfl, by decide +kernel, rfl, by decide +kernel, by decide +kernel⟩
/-- what the law's text asks of the written part -/
structure Defs (P : Program) (w : World) (K : PySem.W.Frag) (mg : Str → Option Value) (base : Heap) (Ch : Fin 4 → Addr) (E10 : Fin 10 → Addr) (P0 : Addr) : Prop where
  B : Blt mg
  EE : Ten K mg P0 E10
  hk : ∃ fI, HabK K mg Ch fI
  mix : ∃ f fd, FnOk P w K mg base CX0 1 f fd ["_law_script", "_law_seed"] (spMix K) ∧ mg "_law_mix" = some (.ref f) ∧ PySem.W.keepIn K (.ref f) = true ∧ Binds K fd ["_law_script", "_law_seed"] []
  next : ∃ f fd, FnOk P w K mg base CX0 1 f fd ["_law_h", "_law_limit"] spNext ∧ mg "_law_next" = some (.ref f) ∧ PySem.W.keepIn K (.ref f) = true ∧ Binds K fd ["_law_h", "_law_limit"] []
  alike : ∃ f fd, (∀ n, FnOk P w K mg base CX0 (n + 1) f fd ["_law_found", "_law_due"] (spAlike n)) ∧ mg "_law_alike" = some (.ref f) ∧ PySem.W.keepIn K (.ref f) = true ∧ Binds K fd ["_law_found", "_law_due"] []
  outcome : ∃ f fd, Fun K "_law_outcome" "_law_outcome" sOut f fd ∧ mg "_law_outcome" = some (.ref f) ∧ PySem.W.keepIn K (.ref f) = true ∧ Binds K fd ["_law_call"] []
  habit : ∃ f fd, FnOk P w K mg base (L2.CX P w) 5 f fd ["_law_kind", "_law_count"] (spLawHabit Ch (E10 3)) ∧ mg "_law_habit" = some (.ref f) ∧ PySem.W.keepIn K (.ref f) = true ∧ Binds K fd ["_law_kind", "_law_count"] []
  choice : ∃ f fd, FnOk P w K mg base CX0 1 f fd ["_law_kind", "_law_number", "_law_piles", "_law_go"] (spChoice K) ∧ mg "_law_choice" = some (.ref f) ∧ PySem.W.keepIn K (.ref f) = true ∧ Binds K fd ["_law_kind", "_law_number", "_law_piles", "_law_go"] []
  call : ∀ i, ∃ f fd, FnOk P w K mg base CX0 3 f fd ["self", "number", "piles", "go"] (spHCall K i (Ch i)) ∧ StX.CallO K (Ch i) f ∧ Binds K fd ["self", "number", "piles", "go"] []
  count : ∃ g fd, FnOk P w K mg base CX0 1 g fd ["self"] (spHCount (K := K)) ∧ Binds K fd ["self"] [] ∧ ∀ i, ∃ p, PropOf K (Ch i) "pile_count" p g
  kind : ∀ i, ∃ u, Con K (Ch i) "KIND" (.str (kz i)) u
  isH : ∀ i, PySem.W.kitOne K (.ref (Ch i)) (.ref (Ch 0)) = some true
  ca : ∀ i, PySem.W.findIn K (.ref (Ch i)) "__class__" = some (some (.builtin "object.__class__"))
  cn : PySem.W.specialIn K (.builtin "object.__class__") "__get__" = some (some (.builtin "getset_descriptor.__get__"))
  ct : PySem.W.takesIn K (.builtin "object.__class__") = some true
  mo : ∀ i, PySem.W.mroIn K (Ch i) (.type "object") = some true
  last : ∃ mc u, ClX.CRead K (Ch 0) mc ∧ ClX.CVal K (Ch 0) mc "KIND" (.str "first") u
def spLam (Ch : Fin 4 → Addr) (CN : Addr) : SpL := fun ws H _ E => ∃ (i : Fin 4) (n : Int), ws = [some (.str (kz i)), some (.int n)] ∧ n.natAbs.log2 < 1920 ∧ ¬ (1 ≤ n ∧ n ≤ 9) ∧ ∀ H', Same H H' → E (.ref CN) none H'
theorem no_kind (a : V) : List.lookup ("KIND" : Str) [(("_pile_count" : Str), a)] = none := by
  have e : (("KIND" : Str) == ("_pile_count" : Str)) = false := by decide +kernel
  simp [List.lookup, e]
theorem kinds_at4 : ∀ i : Fin 4, ([V.str "first", V.str "turn", V.str "low", V.str "plan"])[i.1]? = some (V.str (kz i)) := fun i => match i with
  | 0 => rfl | 1 => rfl | 2 => rfl | 3 => rfl
theorem pick4 {t : Fin 4 → Prop} (i : Fin 4) (h : t i) : t 0 ∨ t 1 ∨ t 2 ∨ t 3 := by
  rcases four_cases i with rfl | rfl | rfl | rfl
  · exact .inl h
  · exact .inr (.inl h)
  · exact .inr (.inr (.inl h))
  · exact .inr (.inr (.inr h))
theorem chosen_uniq {i : Fin 4} {a g n j j' : Int} {ps : List (List Int)} (h : Chosen i a ps g n j) (k : Chosen i a ps g n j') : j = j' := by
  rcases four_cases i with rfl | rfl | rfl | rfl
  · exact h.trans k.symm
  · exact h.trans k.symm
  · obtain ⟨x, h1, rfl⟩ := h
    obtain ⟨y, k1, rfl⟩ := k
    rw [h1.uniq k1]
  · obtain ⟨x, h1, rfl⟩ := h
    obtain ⟨y, k1, rfl⟩ := k
    rw [h1.uniq k1]
theorem log_small : ∀ n : Nat, n < 17 → n.log2 < 1920 := by decide +kernel
theorem NextSt.upd {H : Hp} {l S p : Addr} {o : HO} (d : NextSt H l S) (n1 : p ≠ l) (n2 : p ≠ S) : NextSt (upd H p o) l S := by
  obtain ⟨⟨m, q, cells, h1, h2, h3⟩, n⟩ := d
  exact ⟨⟨m, q, cells, by rw [upd_ne (Ne.symm n1)]; exact h1, by rw [upd_ne (Ne.symm n2)]; exact h2, h3⟩, n⟩
theorem shaped_word {z : Str} (h : z.cps.all (· < 0x110000) = true) : SeqAt.shaped (.tuple [.str z]) = true := by
  unfold SeqAt.shaped
  have h1 : PyData.canLay0 (.tuple [.str z]) = true := by
    show (PyData.canLay0 (.str z) && true) = true
    simp only [Bool.and_true]
    exact h
  rw [h1]
  rfl
theorem eqv_word (z : Str) : PyData.eqv (.tuple [.str z]) (.tuple [.str z]) = true := by
  show ((z == z) && true) = true
  simp
theorem ok_law {f c TP P0 : Addr} {Ch : Fin 4 → Addr} {E10 : Fin 10 → Addr} {fd : FuncData} {T : List (Addr × Str)} (F : FunL K "law" "law" sLaw f c fd) (D : Defs P w K mg base Ch E10 P0) (TB : LamX.TabB base mg c TP) (hm : (TP, qLaw) ∈ T) (hu : ∀ p ∈ T, p.1 = TP → p.2 = qLaw) :
    FnOk P w K mg base (L2.CX P w) 8 f fd ["_law_script"] (spLaw K T) := by
  obtain ⟨B, EE, ⟨fI, HK⟩, ⟨f1, fd1, G1, m1, k1, b1⟩, ⟨f2, fd2, G2, m2, k2, b2⟩, ⟨f3, fd3, G3, m3, k3, b3⟩, ⟨f4, fd4, F4, m4, k4, b4⟩, ⟨f5, fd5, G5, m5, k5, b5⟩, ⟨f6, fd6, G6, m6, k6, b6⟩, hcall, ⟨gC, fdC, GC, bC, hprop⟩, hkind, hisH, hca, hcn, hct, hmo, ⟨mcL, uL, rdL, cvL⟩⟩ := D
  obtain ⟨c0, cd0, GC0, oc0, bc0⟩ := hcall 0
  obtain ⟨c1, cd1, GC1, oc1, bc1⟩ := hcall 1
  obtain ⟨c2, cd2, GC2, oc2, bc2⟩ := hcall 2
  obtain ⟨c3, cd3, GC3, oc3, bc3⟩ := hcall 3
  obtain ⟨p0, pr0⟩ := hprop 0
  obtain ⟨p1, pr1⟩ := hprop 1
  obtain ⟨p2, pr2⟩ := hprop 2
  obtain ⟨p3, pr3⟩ := hprop 3
  refine F.okX scLaw (fun vs H Q E h => ?_) (fun A outer s H vs Q E hr h => ?_)
  · obtain ⟨a, ns, rfl, _⟩ := h
    rfl
  · obtain ⟨a, ns, rfl, ha, hl, hT, k⟩ := h
    have nd := scLaw.nd
    have pass : Passes (L2.CX P w) (cxOf (L2.CX P w) P w K mg base NL "law" (defScope sLaw) f (.ref c) A outer s H E) E := passes_call (takes_of rfl rfl rfl rfl) fun _ _ _ _ z => z
    refine ⟨_, pss_cons (ps_set (i := 1) nd rfl (Or.inr rfl) (pe_call G1 (hr.mono (by decide)) rfl m1 k1 b1 .nil pass0 (pa_cons (pv 0) (pa_cons pe_int pa_nil))))
      (pss_cons (ps_for (passes_of rfl) rfl (pi_range1 (by rfl) B.range (pa_cons pe_int pa_nil)) (pg_name (i := 2) nd rfl (Or.inl rfl))
        (pss_cons (ps_asg (pe_tup (pa_cons (pe_ix ix_list (pe_lst (pa_cons pe_str (pa_cons pe_str (pa_cons pe_str (pa_cons pe_str pa_nil))))) (pe_call G2 (hr.mono (by decide)) rfl m2 k2 b2 .nil pass0 (pa_cons (pv 1) (pa_cons pe_int pa_nil))) (fun _ _ => rfl))
            (pa_cons (pe_op op_add pe_int (pe_call G2 (hr.mono (by decide)) rfl m2 k2 b2 .nil pass0 (pa_cons (pv 1) (pa_cons pe_int pa_nil)))) pa_nil)))
            (pg_tup rfl (pgs_cons (pg_name (i := 9) nd rfl (Or.inr rfl)) (pgs_cons (pg_name (i := 3) nd rfl (Or.inl rfl)) pgs_nil))))
        (pss_cons (ps_set (i := 4) nd rfl (Or.inl rfl) (pe_call G5 (hr.mono (by decide)) rfl m5 k5 b5 .nil pass (pa_cons (pv 9) (pa_cons (pv 3) pa_nil))))
        (pss_cons (ps_set (i := 5) nd rfl (Or.inl rfl) (pe_lst pa_nil))
        (pss_cons (ps_for (passes_of rfl) rfl (pi_range1 (by rfl) B.range (pa_cons (pv 3) pa_nil)) (pg_name (i := 6) nd rfl (Or.inl rfl))
          (pss_one (ps_expr (pe_bm PySem.F.plainAttrs_list PySem.F.slot_list_append PySem.F.type_list_append mt_append (pv 5) (pa_cons (pe_callTy call_tuple_of (by rfl) B.tuple (by decide +kernel) (pa_cons
            (pe_lc (own := [("_law_one", 11)]) (g := gName 11) (tt := tYes) (te := tCall spNext [] E0 (tCons (tVar 1) (tCons (tC (.int 20)) tNil))) rfl nd (pi_range1 (by rfl) B.range (pa_cons (pe_call G2 (hr.mono (by decide)) rfl m2 k2 b2 .nil pass0 (pa_cons (pv 1) (pa_cons pe_int pa_nil))) pa_nil)) (blkOk_by (by rfl))
              (fun _ _ _ _ _ => pg_name (i := 11) nd rfl (Or.inl rfl)) (fun _ _ _ _ _ => pts_nil) (fun _ _ _ _ _ => pe_call G2 (hr.mono (by decide)) rfl m2 k2 b2 .nil pass0 (pa_cons (pv 1) (pa_cons pe_int pa_nil)))) pa_nil)) pa_nil)))))
        (pss_cons (ps_par (i := 7) (j := 8) rfl nd rfl rfl (by decide) rfl rfl (pa_cons (pe_call G2 (hr.mono (by decide)) rfl m2 k2 b2 .nil pass0 (pa_cons (pv 1) (pa_cons pe_int pa_nil))) (pa_cons (pe_call G2 (hr.mono (by decide)) rfl m2 k2 b2 .nil pass0 (pa_cons (pv 1) (pa_cons pe_int pa_nil))) pa_nil)) (by rfl))
        (pss_cons (ps_if (pt_not (pt_val (pe_call (G3 0) (hr.mono (by decide)) rfl m3 k3 b3 .nil pass0 (pa_cons
            (pe_either (StX.pe_callO (pv 4) oc0 (fnr_of GC0 bc0) (hr.mono (by decide)) pass0 (pa_cons (pv 7) (pa_cons (pv 5) (pa_cons (pv 8) pa_nil)))) (pe_either (StX.pe_callO (pv 4) oc1 (fnr_of GC1 bc1) (hr.mono (by decide)) pass0 (pa_cons (pv 7) (pa_cons (pv 5) (pa_cons (pv 8) pa_nil))))
              (pe_either (StX.pe_callO (pv 4) oc2 (fnr_of GC2 bc2) (hr.mono (by decide)) pass0 (pa_cons (pv 7) (pa_cons (pv 5) (pa_cons (pv 8) pa_nil)))) (StX.pe_callO (pv 4) oc3 (fnr_of GC3 bc3) (hr.mono (by decide)) pass0 (pa_cons (pv 7) (pa_cons (pv 5) (pa_cons (pv 8) pa_nil)))))))
            (pa_cons (pe_call G6 (hr.mono (by decide)) rfl m6 k6 b6 .nil pass0 (pa_cons (pv 9) (pa_cons (pv 7) (pa_cons (pv 5) (pa_cons (pv 8) pa_nil))))) pa_nil))))) (pss_one (ps_ret pe_bl)) pss_nil)
        (pss_cons (ps_if (PW.pt (pw_or (pt_not (pt_val (pe_call (G3 1) (hr.mono (by decide)) rfl m3 k3 b3 .nil pass0 (pa_cons (pe_lst (pa_cons (pe_con (pv 4) rfl) (pa_cons
              (pe_either (pe_prop (pv 4) (HK.hc 0).cl pr0 GC (hr.mono (by decide)) bC .nil pass0 rfl) (pe_either (pe_prop (pv 4) (HK.hc 1).cl pr1 GC (hr.mono (by decide)) bC .nil pass0 rfl) (pe_either (pe_prop (pv 4) (HK.hc 2).cl pr2 GC (hr.mono (by decide)) bC .nil pass0 rfl) (pe_prop (pv 4) (HK.hc 3).cl pr3 GC (hr.mono (by decide)) bC .nil pass0 rfl)))) pa_nil)))
              (pa_cons (pe_lst (pa_cons (pv 9) (pa_cons (pv 3) pa_nil))) pa_nil)))))
            (pw_or1 (pt_not (pt_val (pe_callB call_isi (by rfl) B.isi (by decide +kernel) (pa_cons (pv 4) (pa_cons (pe_glob (v := .ref (Ch 0)) rfl (HK.g 0) rfl) pa_nil)))))))) (pss_one (ps_ret pe_bl)) pss_nil)
        (pss_cons (ps_set (i := 10) nd rfl (Or.inr rfl) (pe_ix ix_list (pe_lst (pa_cons pe_int (pa_cons pe_int (pa_cons (pe_un un_neg pe_int) pa_nil)))) (pe_call G2 (hr.mono (by decide)) rfl m2 k2 b2 .nil pass0 (pa_cons (pv 1) (pa_cons pe_int pa_nil))) (fun _ _ => rfl)))
        (pss_one (ps_if (pt_cmpR (op_neD hr.units) (pe_callAt (CX := L2.CX P w) (E := fun _ _ _ => False) (know := fun σ s2 H2 => CellsAt (clL (defScope sLaw) s.heap.objs.size) frL [slotAt σ 9, slotAt σ 10] s2.heap H2)
            (sp := fun σ v H1 Q' => ∃ f sp, v = .ref f ∧ Sho.Act P w K mg base (L2.CX P w) 6 (clL (defScope sLaw) s.heap.objs.size) frL sp f H1 ∧ ∀ (R : VK) (E' : XK), (∀ v H2, OutV Q' v H2 → R v H2) → (∀ cls d H2, Out10 E10 Q' cls d H2 → E' cls d H2) → sp [slotAt σ 9, slotAt σ 10] H1 R E')
            (by rfl) m4 k4 passL (fun pins σ H' s' I => cells_of (js := [9, 10]) (fr := frL) I (Caps.made (scope := scL nnames) I.ok (free_by (os := (defScope sLaw).names) (by decide +kernel)) (by decide +kernel) rfl))
            (pa_cons (pe_lam TB rfl hm hu (free_by (os := (defScope sLaw).names) (by decide +kernel))) pa_nil) (fun σ2 s2 H2 u v Q2 e0 kn rv h => by
              obtain ⟨f2', sp2, rfl, ac, q⟩ := h
              cases rv
              exact outcome_run F4 b4 B EE (hr.mono (by decide)) e0 kn ac q)) (pe_tup (pa_cons pe_str pa_nil)) (nomark _)) (pss_one (ps_ret pe_bl)) pss_nil)))))))))))
      (pss_one (ps_ret (pe_cmpR op_eq (ClX.pe_cval (pe_glob (v := .ref (Ch 0)) rfl (HK.g 0) rfl)) pe_str (nomark _))))), ?_⟩
    refine ⟨_, rfl, a, ns, 41, rfl, ha, hl, fun H1 l S s1 _ _ D1 => ?_⟩
    refine ⟨6, rfl, by decide, by decide, for_it walk_range (fun i σ H2 => ∃ o2 o3 o4 o5 o6 o7 o8 o9 oa ob, σ = [some (.ref a), some (.ref l), o2, o3, o4, o5, o6, o7, o8, o9, oa, ob] ∧ NextSt H2 l S ∧ LamX.Tabs T H2)
      ⟨none, none, none, none, none, none, none, none, none, none, rfl, D1, LamX.Tabs.ext hT s1⟩ (fun _ _ _ _ _ => trivial) ?_ ?_⟩
    · rintro turn v σ H3 H2 hi ⟨o2, o3, o4, o5, o6, o7, o8, o9, oa, ob, rfl, D2, T2⟩ ⟨rfl, ev⟩
      -- the kind and the number of piles
      refine ⟨by show 4 ≤ sizeLine; decide, fun L hL => ⟨_, rfl, l, S, 4, rfl, D2.same (same_upd hL), by decide, by decide, fun r H4 r0 r1 b4 d4 => ?_⟩⟩
      obtain ⟨nLl, nLS⟩ := D2.fresh hL
      obtain ⟨i, hi4⟩ : ∃ i : Fin 4, r = (i.1 : Int) := ⟨⟨r.toNat, by omega⟩, by show r = ((r.toNat : Nat) : Int); omega⟩
      have T4 : LamX.Tabs T H4 := tabs_but2 (D2.same (same_upd hL)) b4 (LamX.Tabs.ext T2 (same_upd hL))
      have eL : H4 L = some (.lst [.str "first", .str "turn", .str "low", .str "plan"]) := b4 _ _ upd_same nLl nLS
      refine ⟨L, _, r, .str (kz i), rfl, rfl, SqL.of eL, by rw [hi4]; exact atI_nat (kinds_at4 i), _, rfl, l, S, 9, rfl, d4, by decide, by decide, fun r2 H5 q0 q1 b5 d5 => ?_⟩
      have T5 : LamX.Tabs T H5 := tabs_but2 d4 b5 T4
      refine ⟨_, _, rfl, rfl, by show 2 ≤ sizeLine; decide, fun t0 ht0 => ⟨t0, _, rfl, SqT.of upd_same, rfl, _, _, rfl, _, _, rfl, rfl, ?_⟩⟩
      have D6 := d5.same (same_upd (o := .tup [.str (kz i), .int (1 + r2)]) ht0)
      have T6 := LamX.Tabs.ext T5 (same_upd (o := .tup [.str (kz i), .int (1 + r2)]) ht0)
      generalize upd H5 t0 (.tup [.str (kz i), .int (1 + r2)]) = H6 at D6 T6
      clear b4 b5 d4 d5 T4 T5 eL hL D2 T2 ht0
      have n1 : 1 ≤ (1 + r2) := by omega
      have n9 : (1 + r2) ≤ 9 := by omega
      -- the habit
      refine ⟨_, rfl, _, rfl, i, (1 + r2), rfl, log_small _ (by omega), fun _ x H7 s7 nx hx => ?_, fun q => absurd ⟨n1, n9⟩ q⟩
      refine ⟨by show 0 ≤ sizeLine; decide, fun M hM => ?_⟩
      have D7 := D6.same s7
      have U0 : Turn T (Ch i) l S x M (1 + r2) [] (upd H7 M (.lst [])) := ⟨D7.same (same_upd hM), LamX.Tabs.ext (LamX.Tabs.ext T6 s7) (same_upd hM), hx.same (same_upd hM), ⟨[], upd_same, .nil⟩, (D7.fresh hM).1, (D7.fresh hM).2⟩
      -- the piles
      refine ⟨_, rfl, (1 + r2), rfl, by omega, by omega, for_it walk_range (fun k σ H => ∃ o6 o11 ps, σ = [some (.ref a), some (.ref l), some v, some (.int (1 + r2)), some (.ref x), some (.ref M), o6, o7, o8, some (.str (kz i)), oa, o11] ∧ ps.length = k ∧ Turn T (Ch i) l S x M (1 + r2) ps H)
        ⟨o6, ob, [], rfl, rfl, U0⟩ (fun _ _ _ _ _ => trivial) ?_ ?_⟩
      · rintro k' v' σ' H9' H9 hk ⟨o6', o11', ps, rfl, hps, U⟩ ⟨rfl, ev'⟩
        have hk9 : k' < 9 := by omega
        obtain ⟨ts, hts, pts⟩ := U.pl
        have lts := pair_len pts
        refine ⟨_, rfl, .inl ⟨rfl, _, SqL.of hts⟩, _, rfl, l, S, 4, rfl, U.d, by decide, by decide, fun m Ha m0 m1 ba da => ?_⟩
        have Ua := U.but ba da
        refine ⟨m, rfl, by omega, by omega, fun Dn hDn => ?_⟩
        obtain ⟨nDl, nDS⟩ := da.fresh hDn
        refine lc_it walk_range (fun j H => NextSt H l S ∧ But2 l S Ha H ∧ ∃ cs : List Int, H Dn = some (.lst (cs.map V.int)) ∧ cs.length = j) ⟨da.same (same_upd hDn), .of (same_upd hDn), [], upd_same, rfl⟩ (fun _ _ _ _ => trivial) (fun j y Hb Hc hj p yv => ?_) fun Hb p => ?_
        · obtain ⟨rfl, rfl⟩ := yv
          obtain ⟨db, bb, cs, hcs, hcl⟩ := p
          have hj' : j < 4 := by omega
          refine ⟨rfl, _, rfl, l, S, 20, rfl, db, by decide, by decide, fun r7 Hd _ _ bd dd => ⟨cs.map V.int, bd _ _ hcs nDl nDS, ?_, dd.upd nDl nDS, fun b o e nb1 nb2 => ?_, cs ++ [r7], ?_, ?_⟩⟩
          · rw [List.length_map, hcl]
            exact Nat.lt_trans hj' (by decide)
          · rw [upd_ne (ne_of_none e hDn)]
            exact bd b o (bb b o e nb1 nb2) nb1 nb2
          · rw [upd_same, List.map_append]
            rfl
          · rw [List.length_append, hcl]
            rfl
        · obtain ⟨db, bb, cs, hcs, hcl⟩ := p
          have Ub := Ua.but bb db
          refine ⟨Dn, _, rfl, .inl ⟨SqL.of hcs, fun t ht => ?_⟩⟩
          have Uc := Ub.same (same_upd (o := .tup (cs.map V.int)) ht)
          have ept : (upd Hb t (.tup (cs.map V.int))) t = some (.tup (cs.map V.int)) := upd_same
          generalize upd Hb t (.tup (cs.map V.int)) = Hc at Uc ept
          obtain ⟨ts2, hts2, pts2⟩ := Uc.pl
          have lts2 := pair_len pts2
          refine ⟨M, ts2, .ref t, rfl, rfl, hts2, by rw [lts2, hps]; exact Nat.lt_trans hk9 (by decide), ?_⟩
          have hc4 : cs.length ≤ 1000 := by rw [hcl]; omega
          have up : ∀ {b : Addr} {o : HO}, Hc b = some o → (∀ ys, o ≠ .lst ys) → (upd Hc M (.lst (ts2 ++ [V.ref t]))) b = some o := fun {b o} e nl => by
            rw [upd_ne (ne_lst hts2 e nl)]
            exact e
          refine ⟨_, _, ps ++ [cs], rfl, by rw [List.length_append, hps]; rfl, Uc.d.upd U.nl U.nS, fun q hq => ?_, ?_, ⟨ts2 ++ [.ref t], upd_same, pair_app (pair_mono (fun v p h => ?_) pts2) (.cons ⟨t, rfl, up ept (fun _ z => nomatch z), hc4⟩ .nil)⟩, U.nl, U.nS⟩
          · obtain ⟨qs, g1, g2, g3⟩ := Uc.t q hq
            refine ⟨qs, up g1 (fun _ z => nomatch z), g2, fun p' cv h => ?_⟩
            obtain ⟨c', e1, e2⟩ := g3 p' cv h
            exact ⟨c', e1, up e2 (fun _ z => nomatch z)⟩
          · obtain ⟨dx, hx⟩ := Uc.hab
            exact ⟨dx, up hx (fun _ z => nomatch z)⟩
          · obtain ⟨t', e1, e2, e3⟩ := h
            exact ⟨t', e1, up e2 (fun _ z => nomatch z), e3⟩
      · rintro σ' H9 ⟨o6', o11', ps, rfl, hps, U⟩
        have hpn : (ps.length : Int) = (1 + r2) := by rw [hps]; omega
        have hp0 : 0 < ps.length := by omega
        have hp9 : ps.length ≤ 1000 := by omega
        refine ⟨_, rfl, l, S, 25, rfl, U.d, by decide, by decide, fun r3 Ha _ _ ba da => ⟨_, rfl, l, S, 22, rfl, da, by decide, by decide, fun r4 Hb _ _ bb db => ⟨_, _, rfl, ?_⟩⟩⟩
        have Ub := (U.but ba da).but bb db
        -- the choices agree
        obtain ⟨dx, ex⟩ := Ub.hab
        refine pick4 (t := fun i => StX.tCallO _ (Ch i) (spHCall K i (Ch i)) _ _ _ _ _ _) i ⟨_, rfl, x, rfl, _, rfl, _, rfl, _, rfl, .inr ⟨dx, _, ex⟩, x, M, r3, r4, (1 + r2), ps, rfl, Ub.hab, n1, n9, Ub.piles hp9, hp0, fun j Hc sc ch => ?_⟩
        have Uc := Ub.same sc
        refine ⟨_, rfl, _, rfl, _, rfl, _, rfl, i, M, r3, r4, ps, rfl, Uc.piles hp9, hp0, fun j2 Hd sd ch2 => ?_⟩
        rw [hpn] at ch2
        have ej := chosen_uniq ch ch2
        subst ej
        refine ⟨.int j, .int j, rfl, ⟨trivial, rfl⟩, fun He se => ⟨_, rfl, iteF ?_⟩⟩
        have Ue := (Uc.same sd).same se
        obtain ⟨dx, ex⟩ := Ue.hab
        obtain ⟨ku, kc⟩ := hkind i
        -- its kind, its number
        refine ⟨_, rfl, x, Ch i, dx, _, .str (kz i), ku, rfl, ex, (HK.hc i).cl, kc, no_kind _, pick4 (t := fun i => tProp (Ch i) (spHCount (K := K)) _ _ _ _ _ _) i ⟨_, rfl, x, dx, _, rfl, ex, x, Ch i, (1 + r2), rfl, HK.hc i, Ue.hab, ?_⟩⟩
        refine ⟨by show 2 ≤ sizeLine; decide, fun A1 hA1 => ⟨_, rfl, _, rfl, by show 2 ≤ sizeLine; decide, fun A2 hA2 => ?_⟩⟩
        have s2 := (same_upd (o := .lst [.str (kz i), .int (1 + r2)]) hA1).trans (same_upd (o := .lst [.str (kz i), .int (1 + r2)]) hA2)
        refine ⟨.ref A1, .ref A2, rfl, .inr ⟨A1, A2, _, _, rfl, rfl, .inl ⟨same_upd hA2 _ _ upd_same, upd_same⟩, by show 2 ≤ 1000; decide, .cons ⟨trivial, rfl⟩ (.cons ⟨trivial, rfl⟩ .nil)⟩, fun Hf sf => ⟨_, rfl, iteF ?_⟩⟩
        have Uf := Ue.same (s2.trans sf)
        obtain ⟨dx, ex⟩ := Uf.hab
        refine ⟨_, rfl, .ref x, .ref (Ch 0), .ref (Ch i), .ref (Ch 0), true, rfl, .own _, .base (.ins ex (HK.hc i).cl (hca i) hcn hct (hmo i)), hisH i, _, rfl, iteF ?_⟩
        -- a wrong number
        refine ⟨_, rfl, by show 3 ≤ sizeLine; decide, fun L2 hL2 => ⟨_, rfl, l, S, 3, rfl, Uf.d.same (same_upd hL2), by decide, by decide, fun r5 Hg g0 g1 bg dg => ?_⟩⟩
        obtain ⟨n2l, n2S⟩ := Uf.d.fresh hL2
        have Ug := (Uf.same (same_upd hL2)).but bg dg
        have eL2 : Hg L2 = some (.lst [.int 0, .int 10, .int (-1)]) := bg _ _ upd_same n2l n2S
        obtain ⟨wv, hwv, hbad, hlog⟩ : ∃ wv : Int, atI [V.int 0, V.int 10, V.int (-1)] r5 = some (.int wv) ∧ ¬ (1 ≤ wv ∧ wv ≤ 9) ∧ wv.natAbs.log2 < 1920 := by
          have : r5 = 0 ∨ r5 = 1 ∨ r5 = 2 := by omega
          rcases this with rfl | rfl | rfl
          · exact ⟨0, atI_nat (j := 0) rfl, by omega, log_small _ (by decide)⟩
          · exact ⟨10, atI_nat (j := 1) rfl, by omega, log_small _ (by decide)⟩
          · exact ⟨-1, atI_nat (j := 2) rfl, by omega, log_small _ (by decide)⟩
        refine ⟨L2, _, r5, .int wv, rfl, rfl, SqL.of eL2, hwv, ?_⟩
        refine ⟨Ug.t, fun f0 c0 Hh Gh nh lh => ⟨_, rfl, f0, spLam Ch (E10 3), rfl, ?_, fun R E' _ hE => ?_⟩⟩
        · refine act0 (k := 5) (N := ["_law_kind", "_law_wrong"]) (fr := frL) (sp := spLam Ch (E10 3)) lh (nscope_by (sc := scL [("_law_kind", .free), ("_law_wrong", .free), ("_law_habit", .globalImplicit)]) (by decide +kernel)) (fun _ _ => rfl) fun A outer s H ws Q E hr hw h => ?_
          obtain ⟨i', n', rfl, hl', hb', kE⟩ := h
          refine ⟨_, pe_call G5 (hr.mono (by decide)) rfl m5 k5 b5 .nil (passes_call (takes_of rfl rfl rfl rfl) fun _ _ _ _ z => z) (pa_cons (pv 0) (pa_cons (pv 1) pa_nil)), ?_⟩
          exact ⟨_, rfl, _, rfl, i', n', rfl, hl', fun q => absurd q hb', fun _ H' s' => kE H' s'⟩
        · have Uh := Ug.grows Gh
          refine ⟨i, wv, rfl, hlog, hbad, fun Hi si => hE _ _ _ ⟨3, rfl, .inl ⟨rfl, rfl, fun p Hj sj ej => ?_⟩⟩⟩
          have Uj := (Uh.same si).same sj
          refine ⟨by show 1 ≤ sizeLine; decide, fun t2 ht2 => ?_⟩
          have s3 : Same Hj (upd Hj t2 (.tup [.str "number"])) := same_upd ht2
          refine ⟨.tuple [.str "number"], .tuple [.str "number"], .tup (SqT.of (s3 _ _ ej)) (.cons (.str _) .nil), .tup (SqT.of upd_same) (.cons (.str _) .nil), shaped_word (by decide +kernel), shaped_word (by decide +kernel), _, rfl, ?_⟩
          rw [eqv_word]
          refine iteF ?_
          have Uk := Uj.same s3
          exact ⟨_, _, _, _, _, _, _, _, _, _, rfl, Uk.d, Uk.t⟩
    · rintro σ H9 ⟨o2, o3, o4, o5, o6, o7, o8, o9, oa, ob, rfl, D9, T9⟩
      refine ⟨Ch 0, mcL, .str "first", uL, rfl, rdL, cvL, rfl, ?_⟩
      rw [decide_eq_true rfl]
      exact k _
end
end Sh4
set_option Elab.async false
set_option linter.all false
set_option maxRecDepth 100000
set_option maxHeartbeats 2000000
namespace Sh4
open PySem L2 Sho NdefX He Shh Shg Sh1
/-! The end of k41. -/
abbrev gloNames : List Str := ["PartyError", "DaybookError", "DecodeError", "InvalidName", "InvalidNumber", "InvalidOperation", "InvalidStay", "InvalidText", "TooEarly", "TooWide", "UnknownGuest", "is_within", "check_pile_count", "_first_least", "_law_mix", "_law_next", "_law_alike", "_law_outcome", "_law_habit", "_law_choice", "law", "Habit", "TurnHabit", "LowHabit", "PlanHabit"]
abbrev keepNames : List Str := ["is_within", "check_pile_count", "_first_least", "_law_mix", "_law_next", "_law_alike", "_law_outcome", "_law_habit", "_law_choice", "law"]
abbrev hA (K : Shh.Fr) (i : Fin 4) : Addr := ga K (cn i)
def all4 : List (Fin 4) := [0, 1, 2, 3]
theorem all4_mem : ∀ i : Fin 4, i ∈ all4 := by decide
def fn41 : List Dn := [dn "is_within" sIsWithin, dn "_first_least" sFirstLeast, dn "_law_mix" sLawMix, dn "_law_next" sLawNext, dn "_law_alike" sLawAlike, dn "_law_outcome" sOut, dn "_law_habit" sLawHabit, dn "_law_choice" sLawChoice, dn "law" sLaw,
  ⟨fun K => ma K (ga K "Habit") "__init__", "__init__", "Habit.__init__", sHabit_Init, fun _ => []⟩, ⟨fun K => getA K (ga K "Habit") "pile_count", "pile_count", "Habit.pile_count", sHabit_PileCount, fun _ => []⟩,
  ⟨fun K => ma K (ga K "Habit") "__call__", "__call__", "Habit.__call__", sHabit_Call, fun _ => []⟩, ⟨fun K => ma K (ga K "TurnHabit") "__call__", "__call__", "TurnHabit.__call__", sTurnHabit_Call, fun _ => []⟩, ⟨fun K => ma K (ga K "LowHabit") "__call__", "__call__", "LowHabit.__call__", sLowHabit_Call, fun _ => []⟩, ⟨fun K => ma K (ga K "PlanHabit") "__call__", "__call__", "PlanHabit.__call__", sPlanHabit_Call, fun _ => []⟩, dn "check_pile_count" sCheckPileCount]
def habB (K : Shh.Fr) (i : Fin 4) : Bool := (Fa.cls (cn i)).ok K && (eqO (PySem.W.findIn K (.ref (hA K i)) "_pile_count") (some none) && (PySem.W.makesIn K (hA K i) && (PySem.W.keepIn K (.ref (hA K i)) && (eqO (PySem.W.findIn K (.ref (hA K i)) "__init__") (some (some (.ref (ma K (ga K "Habit") "__init__")))) &&
  (eqO (PySem.W.findIn K (.ref (hA K i)) "pile_count") (some (some (.ref (ma K (ga K "Habit") "pile_count")))) && (dunB K (hA K i) "__call__" && (conB K (cn i) "KIND" (.str (kz i)) && (decide (PySem.W.kitOne K (.ref (hA K i)) (.ref (hA K 0)) = some true) &&
  (eqO (PySem.W.findIn K (.ref (hA K i)) "__class__") (some (some (.builtin "object.__class__"))) && decide (PySem.W.mroIn K (hA K i) (.type "object") = some true))))))))))
def lastB (K : Shh.Fr) : Bool := PySem.W.readsIn K (hA K 0) (.type "type") && (eqO (PySem.W.specialIn K (.ref (hA K 0)) "__getattribute__") (some (some (.builtin "type.__getattribute__"))) && (match PySem.W.findCls K (.ref (hA K 0)) (.type "type") "KIND" with
  | some (.val (.str z _)) => decide (z = "first")
  | _ => false))
theorem lastB_ok {K : Shh.Fr} (c : lastB K = true) : ∃ u, ClX.CRead K (hA K 0) (.type "type") ∧ ClX.CVal K (hA K 0) (.type "type") "KIND" (.str "first") u := by
  obtain ⟨c1, c⟩ := ba c
  obtain ⟨c2, c3⟩ := ba c
  split at c3
  · rename_i z t e
    rw [of_decide_eq_true c3] at e
    exact ⟨_, ⟨c1, eqO_ok c2⟩, ⟨e, ⟨_, rfl⟩⟩⟩
  · cases c3
def fa41 : List (Shh.Fr → Bool) := [fun K => gloB K gloNames, fun K => freeB K bltNames, fun K => keepB K keepNames, fun K => (Fa.int "MOST_PILES" 9).ok K, fun K => tenB K, fun K => ernB K "InvalidNumber", fun K => all4.all fun i => habB K i, fun K => dunB K (ga K "Habit") "__init__",
  fun K => propB K (ga K "Habit") "pile_count", fun K => PySem.W.keepIn K (.ref (getA K (ga K "Habit") "pile_count")), fun K => lastB K, fun K => eqO (PySem.W.specialIn K (.builtin "object.__class__") "__get__") (some (some (.builtin "getset_descriptor.__get__"))),
  fun K => decide (PySem.W.takesIn K (.builtin "object.__class__") = some true)]
def tf41 : List (Shh.Fr → Addr) := [fun K => ga K "law"]
abbrev T41 (K : Shh.Fr) : List (Addr × Str) := [(tabA K "law", qLaw)]
abbrev cs41 (K : Shh.Fr) : List (Addr × Addr) := [(codeA K (ga K "law"), tabA K "law")]
theorem facts41 {P : Program} {w : World} {K : Shh.Fr} {h : Heap} {mg : Str → Option Value} (X : K.In h) (G : h.Ns mainGlobals mg) (c : SaysS fa41 fn41 tf41 h K) :
    ∃ fd : FuncData, (∀ (s : Shared) (v : Value), BindsTo s fd ⟨[v], []⟩ [("_law_script", v)]) ∧ ∀ base : Heap, (∀ p ∈ cs41 K, LamX.TabB base mg p.1 p.2) → FnOk P w K mg base (L2.CX P w) 8 (ga K "law") fd ["_law_script"] (spLaw K (T41 K)) := by
  have B := blt_ok X G (c.fact 1)
  have g : ∀ x, x ∈ gloNames → mg x = some (.ref (ga K x)) := fun x hx => gloB_ok X G (c.fact 0) hx
  have kp : ∀ x, x ∈ keepNames → PySem.W.keepIn K (.ref (ga K x)) = true := fun x hx => keepB_ok (c.fact 2) hx
  obtain ⟨t9, g9⟩ := int_ok X G (x := "MOST_PILES") (i := 9) (c.fact 3)
  have EE : Ten K mg (ga K "PartyError") (eA K) := tenB_ok (fun x hx => g x (by
    simp at hx
    rcases hx with rfl | rfl | rfl | rfl | rfl | rfl | rfl | rfl | rfl | rfl | rfl <;> simp)) (c.fact 4)
  have EN := ernB_ok (K := K) (g "InvalidNumber" (by simp)) (c.fact 5)
  have hb : (all4.all fun i => habB K i) = true := c.fact 6
  have hab : ∀ i, habB K i = true := fun i => List.all_eq_true.mp hb i (all4_mem i)
  have dI := dunB_ok (K := K) (C := ga K "Habit") (m := "__init__") (c.fact 7)
  have pr := propB_ok (K := K) (C := ga K "Habit") (m := "pile_count") (c.fact 8)
  have kpr : PySem.W.keepIn K (.ref (getA K (ga K "Habit") "pile_count")) = true := c.fact 9
  obtain ⟨uL, rdL, cvL⟩ := lastB_ok (K := K) (c.fact 10)
  have hcn : PySem.W.specialIn K (.builtin "object.__class__") "__get__" = some (some (.builtin "getset_descriptor.__get__")) := eqO_ok (c.fact 11)
  have hct : PySem.W.takesIn K (.builtin "object.__class__") = some true := of_decide_eq_true (c.fact 12)
  have parts : ∀ i, HabC K (hA K i) ∧ Mk K (hA K i) (ma K (ga K "Habit") "__init__") ∧ (∃ p, PropOf K (hA K i) "pile_count" p (getA K (ga K "Habit") "pile_count")) ∧ DunF K (hA K i) "__call__" ∧ (∃ u, Con K (hA K i) "KIND" (.str (kz i)) u) ∧ PySem.W.kitOne K (.ref (hA K i)) (.ref (hA K 0)) = some true ∧
      PySem.W.findIn K (.ref (hA K i)) "__class__" = some (some (.builtin "object.__class__")) ∧ PySem.W.mroIn K (hA K i) (.type "object") = some true := fun i => by
    obtain ⟨c1, c⟩ := ba (hab i)
    obtain ⟨c2, c⟩ := ba c
    obtain ⟨c3, c⟩ := ba c
    obtain ⟨c4, c⟩ := ba c
    obtain ⟨c5, c⟩ := ba c
    obtain ⟨c6, c⟩ := ba c
    obtain ⟨c7, c⟩ := ba c
    obtain ⟨c8, c⟩ := ba c
    obtain ⟨c9, c⟩ := ba c
    obtain ⟨c10, c11⟩ := ba c
    exact ⟨⟨cls_ok c1, eqO_ok c2⟩, ⟨c3, eqO_ok c5, dI.isF, c4⟩, ⟨_, ⟨eqO_ok c6, pr.get, pr.tak, pr.rec_⟩⟩, dunB_ok c7, conB_ok c8 (by decide), of_decide_eq_true c9, eqO_ok c10, of_decide_eq_true c11⟩
  obtain ⟨fd_0, F_0, b_0, _⟩ := FunF.funW (c.def_ 0 (d := dn "is_within" sIsWithin)) (kp "is_within" (by simp))
  have b_0 := b_0 ["number", "low", "high"] (fun _ _ _ _ _ _ us hl => match us, hl with | [_, _, _], _ => rfl)
  have m_0 := g "is_within" (by simp)
  have k_0 := kp "is_within" (by simp)
  obtain ⟨fd_1, F_1, b_1, _⟩ := FunF.funW (c.def_ 1 (d := dn "_first_least" sFirstLeast)) (kp "_first_least" (by simp))
  have b_1 := b_1 ["numbers"] (fun _ _ _ _ _ _ us hl => match us, hl with | [_], _ => rfl)
  have m_1 := g "_first_least" (by simp)
  have k_1 := kp "_first_least" (by simp)
  obtain ⟨fd_2, F_2, b_2, _⟩ := FunF.funW (c.def_ 2 (d := dn "_law_mix" sLawMix)) (kp "_law_mix" (by simp))
  have b_2 := b_2 ["_law_script", "_law_seed"] (fun _ _ _ _ _ _ us hl => match us, hl with | [_, _], _ => rfl)
  have m_2 := g "_law_mix" (by simp)
  have k_2 := kp "_law_mix" (by simp)
  obtain ⟨fd_3, F_3, b_3, _⟩ := FunF.funW (c.def_ 3 (d := dn "_law_next" sLawNext)) (kp "_law_next" (by simp))
  have b_3 := b_3 ["_law_h", "_law_limit"] (fun _ _ _ _ _ _ us hl => match us, hl with | [_, _], _ => rfl)
  have m_3 := g "_law_next" (by simp)
  have k_3 := kp "_law_next" (by simp)
  obtain ⟨fd_4, F_4, b_4, _⟩ := FunF.funW (c.def_ 4 (d := dn "_law_alike" sLawAlike)) (kp "_law_alike" (by simp))
  have b_4 := b_4 ["_law_found", "_law_due"] (fun _ _ _ _ _ _ us hl => match us, hl with | [_, _], _ => rfl)
  have m_4 := g "_law_alike" (by simp)
  have k_4 := kp "_law_alike" (by simp)
  obtain ⟨fd_5, F_5, b_5, _⟩ := FunF.funW (c.def_ 5 (d := dn "_law_outcome" sOut)) (kp "_law_outcome" (by simp))
  have b_5 := b_5 ["_law_call"] (fun _ _ _ _ _ _ us hl => match us, hl with | [_], _ => rfl)
  have m_5 := g "_law_outcome" (by simp)
  have k_5 := kp "_law_outcome" (by simp)
  obtain ⟨fd_6, F_6, b_6, _⟩ := FunF.funW (c.def_ 6 (d := dn "_law_habit" sLawHabit)) (kp "_law_habit" (by simp))
  have b_6 := b_6 ["_law_kind", "_law_count"] (fun _ _ _ _ _ _ us hl => match us, hl with | [_, _], _ => rfl)
  have m_6 := g "_law_habit" (by simp)
  have k_6 := kp "_law_habit" (by simp)
  obtain ⟨fd_7, F_7, b_7, _⟩ := FunF.funW (c.def_ 7 (d := dn "_law_choice" sLawChoice)) (kp "_law_choice" (by simp))
  have b_7 := b_7 ["_law_kind", "_law_number", "_law_piles", "_law_go"] (fun _ _ _ _ _ _ us hl => match us, hl with | [_, _, _, _], _ => rfl)
  have m_7 := g "_law_choice" (by simp)
  have k_7 := kp "_law_choice" (by simp)
  obtain ⟨fdL, FL, _, bL⟩ := FunF.funL (c.def_ 8 (d := dn "law" sLaw))
  obtain ⟨fdI, FI, bI, _⟩ := FunF.funW (c.def_ 9 (d := ⟨fun K => ma K (ga K "Habit") "__init__", "__init__", "Habit.__init__", sHabit_Init, fun _ => []⟩)) dI.kp
  have bI := bI ["self", "count"] (fun _ _ _ _ _ _ us hl => match us, hl with | [_, _], _ => rfl)
  obtain ⟨fdC, FC, bC, _⟩ := FunF.funW (c.def_ 10 (d := ⟨fun K => getA K (ga K "Habit") "pile_count", "pile_count", "Habit.pile_count", sHabit_PileCount, fun _ => []⟩)) kpr
  have bC := bC ["self"] (fun _ _ _ _ _ _ us hl => match us, hl with | [_], _ => rfl)
  obtain ⟨fdc0, Fc0, bc0, _⟩ := FunF.funW (c.def_ 11 (d := ⟨fun K => ma K (ga K "Habit") "__call__", "__call__", "Habit.__call__", sHabit_Call, fun _ => []⟩)) (parts 0).2.2.2.1.kp
  have bc0 := bc0 ["self", "number", "piles", "go"] (fun _ _ _ _ _ _ us hl => match us, hl with | [_, _, _, _], _ => rfl)
  obtain ⟨fdc1, Fc1, bc1, _⟩ := FunF.funW (c.def_ 12 (d := ⟨fun K => ma K (ga K "TurnHabit") "__call__", "__call__", "TurnHabit.__call__", sTurnHabit_Call, fun _ => []⟩)) (parts 1).2.2.2.1.kp
  have bc1 := bc1 ["self", "number", "piles", "go"] (fun _ _ _ _ _ _ us hl => match us, hl with | [_, _, _, _], _ => rfl)
  obtain ⟨fdc2, Fc2, bc2, _⟩ := FunF.funW (c.def_ 13 (d := ⟨fun K => ma K (ga K "LowHabit") "__call__", "__call__", "LowHabit.__call__", sLowHabit_Call, fun _ => []⟩)) (parts 2).2.2.2.1.kp
  have bc2 := bc2 ["self", "number", "piles", "go"] (fun _ _ _ _ _ _ us hl => match us, hl with | [_, _, _, _], _ => rfl)
  obtain ⟨fdc3, Fc3, bc3, _⟩ := FunF.funW (c.def_ 14 (d := ⟨fun K => ma K (ga K "PlanHabit") "__call__", "__call__", "PlanHabit.__call__", sPlanHabit_Call, fun _ => []⟩)) (parts 3).2.2.2.1.kp
  have bc3 := bc3 ["self", "number", "piles", "go"] (fun _ _ _ _ _ _ us hl => match us, hl with | [_, _, _, _], _ => rfl)
  refine ⟨fdL, fun s v => bL ["_law_script"] (fun _ _ _ _ _ _ us hl => match us, hl with | [_], _ => rfl) s [v] rfl, fun base hT => ?_⟩
  have TL : LamX.TabB base mg (codeA K (ga K "law")) (tabA K "law") := hT (codeA K (ga K "law"), tabA K "law") (by simp)
  have uL' : ∀ p ∈ T41 K, p.1 = tabA K "law" → p.2 = qLaw := fun p hp e => by
    rcases List.mem_cons.mp hp with rfl | hp
    · rfl
    · cases hp
  have G0 : FnOk P w K mg base CX0 1 _ _ _ _ := ok_isWithin F_0 B
  have G1 : FnOk P w K mg base CX0 1 _ _ _ _ := ok_least F_1 B
  obtain ⟨fdN, FN, bN, _⟩ := FunF.funW (c.def_ 15 (d := dn "check_pile_count" sCheckPileCount)) (kp "check_pile_count" (by simp))
  have bN := bN ["count"] (fun _ _ _ _ _ _ us hl => match us, hl with | [_], _ => rfl)
  have GN : FnOk P w K mg base (L2.CX P w) 2 _ fdN ["count"] (spCount (eA K 3)) := ok_count FN EN g9 G0 m_0 k_0 b_0
  have GI : ∀ C, FnOk P w K mg base (L2.CX P w) 3 _ fdI ["self", "count"] (spHInit (K := K) C (eA K 3)) := fun C => ok_hinit (C := C) FI GN (g "check_pile_count" (by simp)) (kp "check_pile_count" (by simp)) bN
  have GC : FnOk P w K mg base CX0 1 _ _ _ _ := ok_hcount FC
  have HK : HabK K mg (hA K) (ma K (ga K "Habit") "__init__") := ⟨fun i => by
    rcases four_cases i with rfl | rfl | rfl | rfl <;> exact g _ (by simp [cn]), fun i => (parts i).2.1, fun i => (parts i).1⟩
  obtain ⟨p1, pr1⟩ := (parts 1).2.2.1
  have c0 : FnOk P w K mg base CX0 1 _ _ _ (spHCall K 0 (hA K 0)) := ok_call0 Fc0
  have c1 : FnOk P w K mg base CX0 3 _ _ _ (spHCall K 1 (hA K 1)) := ok_call1 Fc1 (parts 1).1 GC pr1 bC
  have c2 : FnOk P w K mg base CX0 2 _ _ _ (spHCall K 2 (hA K 2)) := ok_call2 Fc2 B G1 m_1 k_1 b_1
  have c3 : FnOk P w K mg base CX0 2 _ _ _ (spHCall K 3 (hA K 3)) := ok_call3 Fc3 B G1 m_1 k_1 b_1
  refine ok_law (Ch := hA K) (E10 := eA K) (P0 := ga K "PartyError") FL ⟨B, EE, ⟨_, HK⟩, ⟨_, _, ok_mix F_2 B, m_2, k_2, b_2⟩, ⟨_, _, ok_next F_3 B, m_3, k_3, b_3⟩, ⟨_, _, ok_alike F_4 B m_4 b_4, m_4, k_4, b_4⟩, ⟨_, _, F_5, m_5, k_5, b_5⟩, ⟨_, _, ok_lawHabit F_6 HK GI bI, m_6, k_6, b_6⟩, ⟨_, _, ok_choice F_7 B, m_7, k_7, b_7⟩,
    fun i => ?_, ⟨_, _, GC, bC, fun i => (parts i).2.2.1⟩, fun i => (parts i).2.2.2.2.1, fun i => (parts i).2.2.2.2.2.1, fun i => (parts i).2.2.2.2.2.2.1, hcn, hct, fun i => (parts i).2.2.2.2.2.2.2, ⟨_, _, rdL, cvL⟩⟩ TL (by simp) uL'
  rcases four_cases i with rfl | rfl | rfl | rfl
  · exact ⟨_, _, c0.mono (by decide), (parts 0).2.2.2.1.callO, bc0⟩
  · exact ⟨_, _, c1, (parts 1).2.2.2.1.callO, bc1⟩
  · exact ⟨_, _, c2.mono (by decide), (parts 2).2.2.2.1.callO, bc2⟩
  · exact ⟨_, _, c3.mono (by decide), (parts 3).2.2.2.1.callO, bc3⟩
end Sh4
set_option Elab.async false
set_option linter.all false
set_option maxRecDepth 100000
set_option maxHeartbeats 0
namespace Sh4
open PySem PySem.Spec PyProof.Rows L2 Sho He Shh Sh1
abbrev R41 : PySem.W.OpenRow := PySem.W.OpenLaw.row PySem.Challenge.rw_shoepile_k41_whole_habits
abbrev hk41 : PySem.W.Hook := hookS 6 fa41 fn41 tf41
def ob41 (s : PySem.W.SharedT) : AlS := obsS 6 fa41 fn41 tf41 (HandSHeadRun.getT s)
theorem ob41_eq (s : PySem.W.SharedT) : ob41 s = hk41.obs s.abs := obsS_eq (HandSHeadRun.getT_eq s)
def loose41 : List Str := ["PartyError", "InvalidStay", "UnknownGuest", "InvalidNumber", "InvalidName", "TooEarly", "InvalidOperation", "InvalidText", "TooWide", "DaybookError", "DecodeError", "is_within", "MOST_PILES", "check_pile_count", "_first_least", "Habit", "TurnHabit", "LowHabit", "PlanHabit",
  "_law_mix", "_law_next", "_law_alike", "_law_outcome", "_law_habit", "_law_choice"]
theorem run41 (w : World) : HandSHeadRun.RunEq R41 (PySem.W.view R41.prog [29]) hk41 ob41 20000 loose41 w := by
  intro os
  kernel_rfl
theorem at41 {w : World} {K : Shh.Fr} {h : Heap} {mg : Str → Option Value} {fa : Addr} (KX : K.In h) (G : h.Ns mainGlobals mg) (c : SaysS fa41 fn41 tf41 h K) (hmg : mg "law" = some (.ref fa)) :
    LamX.LawAtS PySem.Challenge.rw_shoepile_k41_whole_habits w K (L2.CX PySem.Challenge.rw_shoepile_k41_whole_habits.prog w) 8 63 "_law_script" mg fa h := by
  obtain ⟨fd, hb, hF⟩ := facts41 (P := PySem.Challenge.rw_shoepile_k41_whole_habits.prog) (w := w) KX G c
  have e : fa = ga K "law" := by
    have q := hmg.symm.trans (gloB_ok KX G (xs := gloNames) (c.fact 0) (x := "law") (by simp))
    injection q with q
    injection q
  subst e
  have t0 : (fun K => ga K "law") ∈ tf41 := List.mem_cons_self
  have one : ∀ (P : Addr × Addr → Prop), P (codeA K (ga K "law"), tabA K "law") → ∀ p ∈ cs41 K, P p := fun P h p hp => by
    rcases List.mem_cons.mp hp with rfl | hp
    · exact h
    · cases hp
  refine ⟨fd, cs41 K, spLaw K (T41 K), ?_, ?_, ?_, hb, fun H a ns hl _ ht hS => ?_, fun base _ _ hT => hF base hT⟩
  · exact one (fun p => h.get? p.2 = some { cls := .none, data := .fields #[] }) (c.empty _ t0)
  · exact one (fun p => K.lookup p.2 = none) (c.out _ t0)
  · exact one (fun p => PySem.W.CodeHd h p.1 p.2) (PySem.W.codeHd_of_K KX (c.hd _ t0))
  · refine ⟨a, ns, rfl, hS, hl, fun p hp => ?_, fun _ => rfl⟩
    rcases List.mem_cons.mp hp with rfl | hp
    · exact LamX.TabS.nil (ht _ List.mem_cons_self)
    · cases hp
end Sh4
open PySem PySem.W PySem.Calls PyProof.Rows
theorem PySem.Challenge.cw_shoepile_k41_whole_habits_holds : PySem.Challenge.rw_shoepile_k41_whole_habits.Holds := by
  w_on; o_law
  refine HandSHeadRun.head_any (r := OpenLaw.row PySem.Challenge.rw_shoepile_k41_whole_habits) (q := view (OpenLaw.row PySem.Challenge.rw_shoepile_k41_whole_habits).prog [29]) (H := Sh4.hk41) (ob := Sh4.ob41) (M := 20000) (loose := Sh4.loose41) (d := HandSHeadRun.topDef (OpenLaw.row PySem.Challenge.rw_shoepile_k41_whole_habits).prog 29) (kwd := []) Sh4.ob41_eq
    (by kernel_rfl) (fun s => by kernel_rfl) Sh4.run41 (by kernel_rfl) (by kernel_rfl) (by kernel_rfl) (by rfl) (by first | assumption | decide +kernel) (by decide +kernel) ⟨rfl, rfl, rfl, rfl, rfl, by decide +kernel⟩ ?hw ?hc
  case hw => w_witness2
  case hc =>
    refine LamX.walk_ofTsE (l := PySem.Challenge.rw_shoepile_k41_whole_habits) (n := 63) (k := 8) (x := "_law_script") (CX := fun w => L2.CX PySem.Challenge.rw_shoepile_k41_whole_habits.prog w) rfl (by decide) (by kernel_rfl) ⟨rfl, by decide, by decide⟩ ?F ?hCX
    case hCX =>
      rintro w H s e s' ⟨a, B, H', cls, d, _, _, _, _, _, _, _, z⟩
      exact z
    case F =>
      intro w mg fa h Y G hmg0
      obtain ⟨K, KX, c⟩ := Y
      have hmg : mg ("law" : PySem.Str) = some (.ref fa) := by
        have e : (HandSHeadRun.topDef (OpenLaw.row PySem.Challenge.rw_shoepile_k41_whole_habits).prog 29).name = ("law" : PySem.Str) := by kernel_rfl
        rw [← e]
        exact hmg0
      exact ⟨K, KX, Sh4.at41 KX G c hmg⟩
