import PyProof.Rows.All
import Wide.All
import OpenK.AllK
import Wide.FinOn
import KE.KStateDown
import HandS.ForExc
import HandS.Defaults
import HandS.Head0
import HandS.Head1
import HandS.Head2
import HandS.HeadHook1
import HandS.HeadHook2
import HandS.HeadHook3
import HandS.HeadHook4
import HandS.HeadNt
import HandS.HeadWalk
import HandS.EndTab
import HandS.Star
import HandS.Property
import HandS.ExcField
import KE.KExcLine
import KE.KSuper
import HandS.ForMost
import HandS.FStr
import HandS.ExcInit
import HandS.ExcOwn
import HandS.Nested
import HandS.MakeKwOnly
import HandS.More
import HandS.Lambda
import HandS.TryMany
import HandS.Walk
import HandS.TupAny
import HandS.IsInst
import HandS.ClsMeth
import HandS.DeepEq
import HandS.Words
import KE.GoesMore
import PyProof.EnumMake
import PyProof.EnumFor
import PyProof.Draws
import HandS.Small
import KE.KTupTruth
import OpenK.KOps
import HandS.RaiseMore
import PyProof.ListStr
import PySem.Challenge.RW_shoepile_k01_invalid_parties
set_option Elab.async false
set_option linter.all false
set_option maxRecDepth 100000
set_option maxHeartbeats 4000000
/-! Own errors over ValueError: made with keywords, their __init__ with super(). -/
namespace ShX
open PySem PySem.W PySem.HandSPX
open Builtin Builtin.ObjectAttr
section
variable {M : Model} {prog : Program} {w : World} {A : Around} {E : Value → Shared → Prop} {R : Result → Shared → Prop}
variable {h : Heap} {g : Array GenState} {d : Drawn} {t : Nat} {os : OsState}
variable {nm q : Str} {C N : Addr} {bs bm bmB : List Value} {hdct : Bool} {sn : List Str} {sub : List Value} {ab : Bool} {col : Option Bool} {dd : Option Addr} {k0 k1 k2 k3 k5 : Option Value} {B newId initId : String}

theorem chk_new (F : ExcBaseFacts B newId initId bmB) (hT : ∀ X : String, bm.contains (.type X) = bmB.contains (.type X)) {kw : List (Str × Value)} {Q : Unit → Shared → Prop}
    (hC : h.get? C = some (excClassObj nm q C N bs bm hdct sn sub ab col dd k0 k1 k2 k3 k5 newId)) (hq : Q () ⟨h, g, d, t, os⟩) :
    wpAny M A (checkBuiltinCall newId ⟨[.ref C], kw⟩) Q E ⟨h, g, d, t, os⟩ := by
  have has : (Value.ref C :: bm).contains (.type B) = true := by rw [List.contains_cons, hT, F.hasB, Bool.or_true]
  have star := F.noStar
  simp only [checkBuiltinCall, F.newKind, F.newSplit, F.newRow]
  repeat (first
    | refine wpAny_loadPart_at hC ?_
    | (refine wpAny_isSubtype_exc hC ?_; rw [has])
    | refine wpAny_staticBase_exc hC ?_
    | refine wpAny_madeBy_exc hC ?_
    | simp only [bne_self_eq_false, Bool.false_eq_true, if_false]
    | wp_step)
  exact hq

/-- the new object: its args are none, the keywords go to __init__ alone -/
theorem new_kw (F : ExcBaseFacts B newId initId bmB) (hT : ∀ X : String, bm.contains (.type X) = bmB.contains (.type X)) {kw : List (Str × Value)}
    (hC : h.get? C = some (excClassObj nm q C N bs bm hdct sn sub ab col dd k0 k1 k2 k3 k5 newId))
    (hq : R (.ok (.ret (.ref (h.objs.size + 1)))) ⟨(h.push (kdv_tup [])).push (excO C h.objs.size), g, d, t, os⟩) :
    codeAny (model prog w) A (.builtin newId ⟨[.ref C], kw⟩) R ⟨h, g, d, t, os⟩ := by
  have ends := F.ends
  have has : ∀ Y : String, (Value.ref C :: bm).contains (.type Y) = bmB.contains (.type Y) := fun Y => by rw [List.contains_cons, hT]; rfl
  have yes : (Value.ref C :: bm).contains (.type B) = true := (has _).trans F.hasB
  have no1 : (Value.ref C :: bm).contains (.type "AttributeError") = false := (has _).trans F.noAttr
  have no2 : (Value.ref C :: bm).contains (.type "NameError") = false := (has _).trans F.noName
  refine codeAny_builtinAt F.entry ?_
  unfold Builtin.«BaseException.__new__»
  refine wpAt_bind ?_
  show wpAt _ _ _ (stack >>= _) _ _ _
  refine wpAt_bind (wpAt_stack fun p below => wpAt_of_wpAny ?_)
  wp_walk
  refine wpAt_of_wpAny ?_
  rw [F.owner]
  repeat (first
    | with_reducible refine wpAny_madeHere_exc F.canon hC ?_
    | with_reducible refine wpAny_loadPart_at hC ?_
    | (with_reducible refine wpAny_isSubtype_exc hC ?_; first | rw [yes] | rw [no1] | rw [no2])
    | wp_step)
  show R _ _
  rw [Heap.size_push]
  exact hq

theorem tcall_kw (F : ExcBaseFacts B newId initId bmB) (hT : ∀ X : String, bm.contains (.type X) = bmB.contains (.type X)) {kw : List (Str × Value)} {fI : Addr} {Q : Fin → Shared → Prop}
    (hC : h.get? C = some (excClassObj nm q C N bs bm hdct sn sub ab col dd k0 k1 k2 k3 k5 newId))
    (hi : Looks (model prog w) h (typeLookup (.ref C) "__init__") (some (.ref fI))) (hb : ∀ self, Looks (model prog w) h (bindSpecial (.ref fI) self) (.ref fI, [self]))
    (hq : codeAny (model prog w) A (.call (.ref fI) ⟨[.ref (h.objs.size + 1)], kw⟩)
      (fun r s' => match r with
        | .ok (.ret v) => v = .none ∧ Q (.done (.ret (.ref (h.objs.size + 1)))) s'
        | .ok _ => False
        | .error e => E e s')
      ⟨(h.push (kdv_tup [])).push (excO C h.objs.size), g, d, t, os⟩) :
    wpAny (model prog w) A (Builtin.«type.__call__» ⟨[.ref C], kw⟩) Q E ⟨h, g, d, t, os⟩ := by
  repeat (first | with_reducible refine wpAny_loadPart_at hC ?_ | with_reducible refine wpAny_madeBy_exc hC ?_ | wp_step)
  refine codeAny_call_builtin_code (Code.quiet_builtin _ F.quiet) (chk_new F hT hC ?_)
  refine new_kw F hT hC ?_
  show wpAny _ _ _ _ _ _
  have kp : ∀ b o, h.get? b = some o → ((h.push (kdv_tup [])).push (excO C h.objs.size)).get? b = some o := fun b o e => Heap.get?_push_of_some _ (Heap.get?_push_of_some _ e)
  have cls1 := kp _ _ hC
  have new1 : ((h.push (kdv_tup [])).push (excO C h.objs.size)).get? (h.objs.size + 1) = some (excO C h.objs.size) := by heap_get
  have self1 : (Value.ref C :: bm).contains (.ref C) = true := by simp
  have look1 := hi.keeps kp
  have bind1 := (hb (.ref (h.objs.size + 1))).keeps kp
  unfold isInstance
  repeat (first | with_reducible refine wpAny_loadPart_at new1 ?_ | (with_reducible refine wpAny_isSubtype_exc cls1 ?_; rw [self1]) | wp_step)
  show wpAny _ _ (typeLookup (.ref C) _) _ _ _
  refine look1.at ?_
  refine wpAny_holding (wpAny_bind (bind1.at ?_))
  refine wpAny_bind (wpAny_call (codeAny_mono hq fun r s' z => ?_))
  rcases r with e | (v | _ | _ | _) <;> first | exact z | exact z.elim | skip
  obtain ⟨rfl, z⟩ := z
  first
    | exact wpAny_pure (wpAny_pure z)
    | (wp_walk; exact z)

theorem chk_tcall {kw : List (Str × Value)} {Q : Unit → Shared → Prop} (hC : h.get? C = some (excClassObj nm q C N bs bm hdct sn sub ab col dd k0 k1 k2 k3 k5 newId))
    (hq : Q () ⟨h, g, d, t, os⟩) : wpAny M A (checkBuiltinCall "type.__call__" ⟨[.ref C], kw⟩) Q E ⟨h, g, d, t, os⟩ := by
  have f3 := tc_sub
  have hT : (⟨h, g, d, t, os⟩ : Shared).TypeIs (.ref C) "type" := ⟨_, hC, rfl⟩
  simp only [checkBuiltinCall, tc_kind, tc_split]
  repeat (any_goals (first | assumption | with_reducible refine wpAny_loadPart_at hC ?_ | with_reducible refine wpAny_onRaise ?_ | with_reducible refine wpAny_map ?_ | wp_step))

theorem call_kw (F : ExcBaseFacts B newId initId bmB) (hT : ∀ X : String, bm.contains (.type X) = bmB.contains (.type X)) {kw : List (Str × Value)} {fI : Addr}
    (hC : h.get? C = some (excClassObj nm q C N bs bm hdct sn sub ab col dd k0 k1 k2 k3 k5 newId))
    (hi : Looks (model prog w) h (typeLookup (.ref C) "__init__") (some (.ref fI))) (hb : ∀ self, Looks (model prog w) h (bindSpecial (.ref fI) self) (.ref fI, [self]))
    (hq : codeAny (model prog w) (A.under (.builtin "type.__call__" ⟨[.ref C], kw⟩)) (.call (.ref fI) ⟨[.ref (h.objs.size + 1)], kw⟩) (InitBack (h.objs.size + 1) R)
      ⟨(h.push (kdv_tup [])).push (excO C h.objs.size), g, d, t, os⟩) :
    codeAny (model prog w) A (.call (.ref C) ⟨[], kw⟩) R ⟨h, g, d, t, os⟩ := by
  have f1 := tc_lookup
  have f2 := tc_bind (.ref C)
  have hTy : (⟨h, g, d, t, os⟩ : Shared).TypeIs (.ref C) "type" := ⟨_, hC, rfl⟩
  refine codeAny_of_tree ?_
  show wpAny _ _ (callAny (.ref C) _) _ _ _
  repeat (any_goals (first | assumption | with_reducible refine wpAny_loadPart_at hC ?_ | wp_step))
  refine ⟨rfl, ?_⟩
  refine codeAny_call_builtin_at (Code.quiet_builtin _ (by decide +kernel)) entry_typeCall (chk_tcall hC (tcall_kw F hT hC hi hb ?_))
  refine codeAny_mono hq fun r s' z => ?_
  rcases r with e | (v | _ | _ | _) <;> exact z
end
end ShX

namespace ShX
open PySem PySem.W PySem.Calls PyProof.Rows PySem.HandSPX
section
variable {prog : Program} {w : World} {A : Around} {E : Value → Shared → Prop} {h : Heap} {g : Array GenState} {d : Drawn} {t : Nat} {os : OsState}
variable {nm q : Str} {C N : Addr} {bs bm : List Value} {hdct : Bool} {sn : List Str} {sub : List Value} {ab : Bool} {col : Option Bool} {dd : Option Addr} {k0 k1 k2 k3 k5 : Option Value}
abbrev veI : String := "ValueError.__init__"
/-- ValueError's __init__, bound to the exception at e, called -/
theorem call_mw {u e t0 : Addr} {rest : List Value} {Q : Value → Shared → Prop}
    (hC : h.get? C = some (excClassObj nm q C N bs bm hdct sn sub ab col dd k0 k1 k2 k3 k5 "ValueError.__new__")) (he : h.get? e = some (excO C t0))
    (hu : h.get? u = some (kxs_mw veI e)) (hz : rest.length ≤ sizeLine)
    (hq : ∀ h' t1, (∀ b o, b ≠ e → h.get? b = some o → h'.get? b = some o) → h'.get? e = some (excO C t1) → Q .none ⟨h', g, d, t, os⟩) :
    wpAny (model prog w) A (call (.ref u) rest) Q E ⟨h, g, d, t, os⟩ := by
  refine wpAny_call (codeAny_of_tree ?_)
  show wpAny _ A.in1 (callAny (.ref u) ⟨rest, []⟩) _ _ _
  simp only [callAny]
  refine wpAny_bind (wpAny_load hu ?_)
  have yes : (Value.type "method-wrapper" == Value.type "method" || Value.type "method-wrapper" == Value.type "builtin_function_or_method" || Value.type "method-wrapper" == Value.type "method-wrapper") = true := by decide
  simp only [kxs_mw, yes, if_true]
  refine KFB.if_so (by decide) ?_
  refine wpAny_bind (check_bound_init F.excBase_ValueError.toExcCallFacts hC he rfl ?_)
  refine wpAny_bind (wpAny_pure (wpAny_pure ?_))
  refine ⟨plainId_quiet F.excBase_ValueError.init.plain _, codeAny_builtin F.excBase_ValueError.initEntry ?_⟩
  exact exc_init_tree (cls := .ref C) (t0 := t0) (dv := none) (c2 := .none) (c3 := .none) (b4 := .bool false) he hz fun h' k e' _ => hq h' _ k e'
end
end ShX
set_option Elab.async false
set_option linter.all false
set_option maxRecDepth 100000
set_option maxHeartbeats 4000000

namespace Sho
open PySem PySem.Spec PyProof.Rows L2 NdefX
/-- what the written part says of an own error's __init__ at f that says super() -/
structure SupTxt (P : Program) (K : PySem.W.Frag) (mg : Str → Option Value) (F : NF) (f cc D : Addr) : Prop where
  fn : ∃ (oc : Value) (od : Option Addr) (doc pm : Value) (an : Option Addr) (ct : Value) (osl : Array (Option Value)),
    K.lookup f = some ⟨oc, od, .func (PySem.W.ksFn F.name F.qual F.params F.body F.scope .none .none doc pm an (.ref F.c) ct cc), osl⟩
  cd : PySem.W.codeIn K (.ref F.c) F.qual = true
  cell : ∃ (cl : Value) (cld : Option Addr) (csl : Array (Option Value)), K.lookup cc = some ⟨cl, cld, .cell (some (.ref D)), csl⟩
  cls : F.cl = [(("__class__" : Str), cc)]
  file : ∃ (oc : Value) (od : Option Addr) (vs : Array Value) (sl : Array (Option Value)) (fl : Str) (tf : Tok), K.lookup F.c = some ⟨oc, od, .fields vs, sl⟩ ∧ vs[2]? = some (.str fl tf) ∧ ((P.main.file : Str) == fl) = true
  first : ∃ ar : Arg, (F.params.posonlyargs ++ F.params.args).head? = some ar ∧ ar.arg = ("self" : Str)
  sup : mg "super" = none
  top : (P.main.scope.names.lookup ("super" : Str)).isSome = false
  ks : F.scope.names.lookup ("super" : Str) = some .globalImplicit
  kc : F.scope.names.lookup ("__class__" : Str) = some .free
  kse : F.scope.names.lookup ("self" : Str) = some .local
  isD : PySem.W.isClsIn K D = true
  opq : PySem.W.nsIn K cStatics "thirdparty.any" = some none
/-- the context's class: C's __init__ from D on is ValueError's -/
structure SupCls (K : PySem.W.Frag) (C D : Addr) : Prop where
  o : OexC K C
  sub : PySem.W.mroIn K C (.ref D) = some true
  nxt : PySem.W.ks_superIn K C D "__init__" = some (some (.builtin ShX.veI))
  ve : PySem.W.subIn K (.ref C) (.type "ValueError") = some true
section
variable {X : Cx} {pins : List (Addr × Obj)} {σ : L2.St} {H : Hp} {s : Shared} {F : NF} {f cc D a C : Addr}
theorem cls_at {K : PySem.W.Frag} {h : Heap} {D : Addr} (X : K.In h) (i : PySem.W.isClsIn K D = true) : ∃ (o : Obj) (cd : ClassData), h.get? D = some o ∧ o.data = .cls cd ∧ PySem.W.clsIn K D = some cd := by
  have i2 : (PySem.W.clsIn K D).isSome = true := i
  cases e : PySem.W.clsIn K D with
  | none =>
    rw [e] at i2
    cases i2
  | some cd =>
    have e0 := e
    unfold PySem.W.clsIn at e
    split at e
    · rename_i c d cd' sl ho
      cases e
      exact ⟨_, _, X _ _ ho, rfl, rfl⟩
    · cases e
/-- super().__init__(e), the exception at a being made -/
theorem sup_stmt {pl : Sem Bool} {R : Hp → Prop} {body : List Stmt} {e : Expr} {te : TA} {p0 p1 p2 p3 p4 : Pos} {Qf : PySem.Flow → Shared → Prop} {Ex : Value → Shared → Prop} (T : SupTxt X.prog X.K X.mg F f cc D) (V : SupCls X.K C D)
    (hX : X.env = envF F f X.env.locals) (I : Inv X pins σ H s) (hi : X.N[0]? = some ("self" : Str)) (hv : σ[0]? = some (some (.ref a))) (ha : H a = some (exo a C none))
    (he : PA X [e] te) (hxe : ∀ v s', X.xe v s' → Ex v s') (hq : te σ H fun xs H1 => xs.length ≤ 1000 ∧ H1 a = some (exo a C none) ∧ R H1) (hR : ∀ H1 s', Inv X pins σ H1 s' → R H1 → Qf .next s')
    (hce : eval (.Call (.Attribute (.Call (.Name "super" p0) [] [] p1) "__init__" p2) [e] [] p3) X.env = (do
      let ov ← attributeBase (.Call (.Name "super" p0) [] [] p1) "__init__" X.env (eval (.Call (.Name "super" p0) [] [] p1) X.env)
      standAt p2.atName
      let (fx, first) ← holding [ov] (getMethod ov "__init__" pl)
      callWith p3 fx first (backTo p3 (starEach [e] X.env)) []))
    (hst : starEach [e] X.env = (false, eval e X.env) :: starEach [] X.env) :
    PySem.wpAt (model X.prog X.w) X.A (.func body X.env) (exec (.Expr (.Call (.Attribute (.Call (.Name "super" p0) [] [] p1) "__init__" p2) [e] [] p3) p4) X.env) Qf Ex s := by
  obtain ⟨fc, fod, doc, pm, an, ct, osl, hf⟩ := T.fn
  obtain ⟨cl, cld, csl, hcell⟩ := T.cell
  obtain ⟨oc, od, vs, sl, fl, tf, hcode, hvs, hfile⟩ := T.file
  obtain ⟨ar, hfirst, har⟩ := T.first
  obtain ⟨oD, cdD, hD1, hD2, _⟩ := cls_at I.kIn T.isD
  obtain ⟨t0, hx⟩ := exo_at I.hok ha
  obtain ⟨nm, q, N, bs, bm, sn, sub, ab, col, dd, k0, k1, k2, k3, k5, hC, hbm⟩ := V.o.cls
  have hclC : PySem.W.clsIn X.K C = some { name := nm, bases := bs, mro := .ref C :: bm, ns := N, qualname := q, hasDict := true, slotNames := sn, subclasses := sub, abstract := ab, collection := col, hasDel := false } := by unfold PySem.W.clsIn; rw [hC] <;> rfl
  have IA : PySem.W.InstAt s.heap a ({ cls := .ref C, data := .fields #[.ref t0, .none, .none, .none, .bool false, .none] } : Obj) C none := ⟨hx, rfl, rfl, True.intro⟩
  have kD : X.env.kindOf ("self" : Str) = some .local := by rw [hX]; exact T.kse
  have selfv : ∃ m, s.heap.Ns X.env.locals m ∧ m ("self" : Str) = some (.ref a) := by
    obtain ⟨m, hm, hl⟩ := I.loc
    obtain ⟨u, ru, lk⟩ := hl 0 _ _ hi hv (.inl (by have := kD; rw [hX] at this; rw [hX]; exact this))
    obtain rfl : u = Value.ref a := ru
    rcases lk with ⟨_, e⟩ | ⟨e, _⟩
    · exact ⟨m, hm, e⟩
    · rw [kD] at e
      rcases e with e | e <;> cases e
  obtain ⟨m, hm, hself⟩ := selfv
  obtain ⟨mb, hb1, hb2⟩ := I.mod.blt
  have ek : X.env.scope.kind = .function := I.ok.kind
  have e1 : X.env.kindOf ("super" : Str) = some .globalImplicit := by rw [hX]; exact T.ks
  have e2 : X.env.kindOf ("__class__" : Str) = some .free := by rw [hX]; exact T.kc
  have e3 : X.env.cells.lookup ("__class__" : Str) = some cc := by
    rw [hX]
    show F.cl.lookup _ = _
    rw [T.cls]
    rfl
  refine ks_wpAt_Expr_any ?_ (I.quiet) (by rfl)
  refine ks_wpAt_MethodCall ?_ hce
  refine ks_wpAt_super_base (prog := X.prog) (w := X.w) (f := f) (cc := F.c) e1 e2 (by rfl) (by rw [hX]) (I.kIn _ _ hf) rfl hfirst (by rw [hX]) (I.kIn _ _ hcode) rfl hvs hfile T.top ?_
  refine PySem.W.ks_loadName_global ek e1 (PySem.Calls.loadGlobal_builtin (by rw [I.ok.glob]; exact I.mod.glob.keeps I.bk) T.sup (by rw [I.ok.blt]; exact hb1.keeps I.bk) ((hb2 _ (by decide)).trans (by decide +kernel)) ⟨rfl, ?_⟩)
  refine wpAny_loadName_free ek e2 e3 ⟨_, I.kIn _ _ hcell, rfl⟩ ?_
  rw [har]
  refine wpAny_loadName_local ek kD hm hself ?_
  refine ks_wpAny_isType_cls hD1 hD2 ⟨rfl, ?_⟩
  obtain ⟨hp, g, d, tk, os⟩ := s
  refine ks_wpAny_call_super hD1 hD2 hx rfl (fun c z => by cases z) (PySem.W.looks_mroIn I.kIn V.sub) fun h1 so1 kp1 => ?_
  have I1 : Inv X pins σ H ⟨h1, g, d, tk, os⟩ := I.kept (t' := tk) kp1
  have nx := V.nxt
  unfold PySem.W.ks_superIn at nx
  rw [hclC] at nx
  have hxC : a ≠ C := by
    rintro rfl
    have z := I.kIn _ _ hC
    have z2 : hp.get? a = some (excClassObj nm q a N bs bm true sn sub ab col dd k0 k1 k2 k3 k5 "ValueError.__new__") := z
    rw [z2] at hx
    cases hx
  have hmro : PySem.W.Looks (model X.prog X.w) h1 (mroOf (.ref C)) (.ref C :: bm) := (PySem.W.looks_clsIn I1.kIn hclC).andThen .now
  have hinst : PySem.W.Looks (model X.prog X.w) h1 (isInstance (.ref a) (.type "ValueError")) true :=
    PySem.W.Looks.andThen (PySem.W.InstAt.type (⟨kp1 _ _ hx, rfl, rfl, True.intro⟩ : PySem.W.InstAt h1 a _ C none)) (PySem.W.looks_subIn I1.kIn V.ve)
  refine PySem.W.kxs_getMethod PySem.W.kxs_ValueError so1 (PySem.W.looks_opaque I1.kIn T.opq) hmro rfl I1.kIn nx hinst hxC (by decide) ?_
  generalize hu : h1.objs.size = u
  have kp2 : ∀ b o, h1.get? b = some o → (h1.push (PySem.W.kxs_mw ShX.veI a)).get? b = some o := fun b o z => Heap.get?_push_of_some _ z
  have I2 : Inv X pins σ H ⟨h1.push (PySem.W.kxs_mw ShX.veI a), g, d, tk + 1, os⟩ := I1.kept (t' := tk + 1) kp2
  have gu : (h1.push (PySem.W.kxs_mw ShX.veI a)).get? u = some (PySem.W.kxs_mw ShX.veI a) := by rw [← hu]; exact Heap.get?_push_size _ rfl
  have fu : FpOk X pins H u := I1.fpOk (by rw [← hu]; exact Nat.le_refl _) (I1.hok.fresh (by rw [← hu]; exact Nat.le_refl _))
  have I3 : Inv X ((u, PySem.W.kxs_mw ShX.veI a) :: pins) σ H ⟨h1.push (PySem.W.kxs_mw ShX.veI a), g, d, tk + 1, os⟩ := I2.pins_of fun p hp => by
    rcases List.mem_cons.mp hp with rfl | hp
    · exact ⟨gu, fu.1, fu.2.1, fu.2.2.1, fun v z => by cases z⟩
    · exact I2.pin p (List.mem_append_right _ hp)
  refine wpAny_mono (PySem.W.kxs_callWith (i := ShX.veI) (x := a) (Q := fun _ s' => Qf .next s') (E := X.xe) (by rw [hst]; rfl) ?_) (fun _ _ z => z) hxe
  rw [hst]
  refine PySem.Calls.evalArgs_plain ?_
  have hr := he.run p3 ((u, PySem.W.kxs_mw ShX.veI a) :: pins) _ σ H _ I3 hq
  rw [hst] at hr
  refine thn hr fun us s2 ⟨xs, H2, I4, rv, hl, ha2, q⟩ => ?_
  have gu2 := (I4.pin (u, PySem.W.kxs_mw ShX.veI a) (List.mem_append_right _ List.mem_cons_self)).1
  refine ⟨gu2, ?_⟩
  obtain ⟨t2, hx2⟩ := exo_at I4.hok ha2
  obtain ⟨hp2, g2, d2, tk2, os2⟩ := s2
  refine ShX.call_mw (I4.kIn _ _ hC) hx2 gu2 ?_ fun h' t3 k3 e3 => ?_
  · show us.length ≤ sizeLine
    rw [← rv.length, sizeLine_eq]
    omega
  · have J := I4.write (t' := tk2) (x := a) (e := a) (o := exo a C none) (by rw [ha2]; exact True.intro) (.inl rfl) k3 ⟨_, e3⟩ (exo_ok e3)
    have eu : upd H2 a (exo a C none) = H2 := by
      funext b
      by_cases hb : b = a
      · rw [hb, upd_same, ha2]
      · rw [upd_ne hb]
    rw [eu] at J
    refine hR _ _ (J.pins_of fun p hp => J.pin p (by
      rcases List.mem_append.mp (List.mem_append_right X.pn hp) with z | z
      · exact List.mem_append_left _ z
      · exact List.mem_append_right _ (List.mem_cons_of_mem _ z))) q
end
section
variable {CX : CXT} {P : Program} {w : World} {K : PySem.W.Frag} {mg : Str → Option Value} {base : Heap} {N ps : List Str} {F : NF} {f cc D C a : Addr} {A : Around} {outer : List Env} {s : Shared} {H : Hp} {E : XK} {Q : VK} {us : List Value} {vs : List V} {k : Nat}
/-- the __init__ of an own error that says super() first, run: a is the exception -/
theorem run_sup {pl : Sem Bool} {args : Args} {e : Expr} {te : TA} {tr : TS} {rest : List Stmt} {p0 p1 p2 p3 p4 : Pos} (T : SupTxt P K mg F f cc D) (VC : SupCls K C D) (S : NScope N ps ["__class__"] F.scope) (hr : Room (k + 1) A) (e0 : Env0 P w K mg base A outer s H)
    (hb : ∀ doc pm an ct, BindsTo s (PySem.W.ksFn F.name F.qual F.params F.body F.scope .none .none doc pm an (.ref F.c) ct cc) args (ps.zip us)) (hl : vs.length = ps.length) (r : Vals vs us)
    (h0 : vs[0]? = some (.ref a)) (hN : N[0]? = some ("self" : Str)) (ha : H a = some (exo a C none))
    (hbody : F.body = .Expr (.Call (.Attribute (.Call (.Name "super" p0) [] [] p1) "__init__" p2) [e] [] p3) p4 :: rest)
    (he : PA (ncx CX P w K mg base N F f A outer s H E) [e] te) (hrest : PSs (ncx CX P w K mg base N F f A outer s H E) rest tr)
    (hq : te (startF N vs [none]) H fun xs H1 => xs.length ≤ 1000 ∧ H1 a = some (exo a C none) ∧ tr { nx := fun _ H' => Q .non H', rt := Q } (startF N vs [none]) H1)
    (hce : ∀ L : Addr, eval (.Call (.Attribute (.Call (.Name "super" p0) [] [] p1) "__init__" p2) [e] [] p3) (envF F f L) = (do
      let ov ← attributeBase (.Call (.Name "super" p0) [] [] p1) "__init__" (envF F f L) (eval (.Call (.Name "super" p0) [] [] p1) (envF F f L))
      standAt p2.atName
      let (fx, first) ← holding [ov] (getMethod ov "__init__" pl)
      callWith p3 fx first (backTo p3 (starEach [e] (envF F f L))) []))
    (hst : ∀ L : Addr, starEach [e] (envF F f L) = (false, eval e (envF F f L)) :: starEach [] (envF F f L)) :
    codeAny (model P w) A (.call (.ref f) args) (CR CX outer P w H s Q E) s := by
  obtain ⟨fc, fod, doc, pm, an, ct, osl, hf⟩ := T.fn
  have kin : K.In s.heap := e0.mod.kin.keeps fun b o z => (e0.bs b o z).1
  have lim : s.heap.NoLimit := e0.mod.nolimit.keeps fun b o z => (e0.bs b o z).1
  obtain ⟨cl, cld, csl, hcell⟩ := T.cell
  have hcb : base.get? cc = some ⟨cl, cld, .cell (some (.ref D)), csl⟩ := e0.mod.kin _ _ hcell
  have CA : CellsAt F.cl ["__class__"] [none] s.heap H := by
    rw [T.cls]
    have one : ∀ {y : Str} {c : Addr}, List.lookup y [(("__class__" : Str), cc)] = some c → y = "__class__" ∧ c = cc := fun {y c} z => by
      by_cases hy : y = ("__class__" : Str)
      · subst hy
        rw [List.lookup_cons_self] at z
        exact ⟨rfl, (Option.some.inj z).symm⟩
      · have q : (y == ("__class__" : Str)) = false := by simpa using hy
        rw [List.lookup_cons, q] at z
        cases z
    refine ⟨rfl, fun y c z => ?_, fun x y c z1 z2 => (one z1).1.trans (one z2).1.symm, fun i y z => ?_⟩
    · obtain ⟨_, rfl⟩ := one z
      exact ⟨(e0.bs _ _ hcb).2, _, _, (e0.bs _ _ hcb).1, rfl⟩
    · match i with
      | 0 =>
        simp at z
        subst z
        exact ⟨cc, List.lookup_cons_self, fun v z => by simp at z⟩
      | i + 1 => simp at z
  refine ks_codeAny_call_defAt (fd := PySem.W.ksFn F.name F.qual F.params F.body F.scope .none .none doc pm an (.ref F.c) ct cc) (body := F.body) (binds := ps.zip us) hr.depth (kin _ _ hf) rfl lim (PySem.W.codeRec_of kin T.cd) rfl (hb _ _ _ _)
    S.nocell (fun ⟨n, _⟩ hy => S.par n (List.of_mem_zip hy).1) (fun h₁ hns kp => ?_) S.co S.gen S.kind
  have I : Inv (ncx CX P w K mg base N F f A outer s H E) [] (startF N vs [none]) H { s with heap := h₁, toks := s.toks + (ps.zip us).length } := inv_startN S hr.hd e0 hl r CA hns kp
  have env_eq : callEnv (PySem.W.ksFn F.name F.qual F.params F.body F.scope .none .none doc pm an (.ref F.c) ct cc) s.heap.objs.size f = envF F f s.heap.objs.size := by
    show PySem.W.envX _ _ _ _ _ [(("__class__" : Str), cc)] = PySem.W.envX _ _ _ _ _ F.cl
    rw [T.cls]
  rw [env_eq]
  show PySem.wpAt (model P w) (ncx CX P w K mg base N F f A outer s H E).A (.func F.body (envF F f s.heap.objs.size)) (execs F.body (envF F f s.heap.objs.size)) _ _ _
  rw [hbody]
  refine ks_wpAt_execs_cons ?_
  have hs0 : (startF N vs [none])[0]? = some (some (.ref a)) := by
    unfold startF
    cases vs with
    | nil => simp at h0
    | cons v vs =>
      simp at h0
      subst h0
      rfl
  refine sup_stmt (X := ncx CX P w K mg base N F f A outer s H E) (Ex := (ncx CX P w K mg base N F f A outer s H E).xe) T VC rfl I hN hs0 ha he (fun _ _ z => z) hq (fun H1 s1 I1 q1 => ?_) (hce _) (hst _)
  refine wpAt_of_wpAny (wpAny_mono (hrest.run [] s1 (startF N vs [none]) H1 _ I1 q1) (fun fl s' hs => ?_) fun e s' hs => hs)
  have fin : ∀ {σ' : L2.St} {H' : Hp} {v : V} {u : Value}, Inv (ncx CX P w K mg base N F f A outer s H E) [] σ' H' s' → L2.RelV v u → Q v H' → CE outer P w H s Q u s' :=
    fun {σ' H' v u} J rv q => ⟨v, H', J.os, J.bare, J.base, J.hok, rv, q⟩
  cases fl with
  | ret u =>
    obtain ⟨v, σ', H', J, rv, q⟩ := hs
    exact fin J rv q
  | next =>
    obtain ⟨σ', H', J, q⟩ := hs
    exact fin (v := V.non) (u := Value.none) J rfl q
  | brk =>
    obtain ⟨_, _, _, q⟩ := hs
    exact False.elim q
  | cont =>
    obtain ⟨_, _, _, q⟩ := hs
    exact False.elim q
end
/-- a value that an error's message may tell -/
def Tells (v : V) : Prop := (∃ y : Str, v = .str y ∧ y.length ≤ 100000) ∨ ∃ i : Int, v = .int i ∧ i.natAbs.log2 < 1920
/-- C(f = e) -/
def tMkW (C : Addr) (fld : Str) (te : TA) : L2.St → Hp → XK → Prop := fun σ H Q => te σ H fun xs H1 => ∃ v, xs = [v] ∧ Tells v ∧ ∀ d, H1 d = none → Q (.ref C) (some d) (upd H1 d (.xd [(fld, v)]))
section
variable {X : Cx} {CX : CXT} {C f cc D : Addr} {F : NF} {k : Nat} {fld x : Str} {e msg : Expr} {kws : List Keyword} {te : TA} {p pos p0 p1 p2 p3 p4 r1 r2 r3 r4 : Pos} {pl : Sem Bool}
theorem pmk_kw (T : SupTxt X.prog X.K X.mg F f cc D) (VC : SupCls X.K C D) (XC : XfC X.K C) (hno : PySem.W.findIn X.K (.ref C) fld = some none)
    (iC : PySem.W.findIn X.K (.ref C) "__init__" = some (some (.ref f))) (tI : PySem.W.typeIn X.K (.ref f) = some (.type "function"))
    (S : NScope ["self", fld, "__class__"] ["self", fld] ["__class__"] F.scope) (hr : Room (k + 2) X.A) (hx : Passes CX X (fun _ _ _ => False)) (hg : Gl X x) (hm : X.mg x = some (.ref C))
    (hkw : PK X kws te) (hall : (backToKw pos (keywordEach kws X.env)).all (·.1.isSome) = true) (hks : (backToKw pos (keywordEach kws X.env)).filterMap (·.1) = [fld])
    (hpl : ((backTo pos (starEach [] X.env)).any (·.1) || (backToKw pos (keywordEach kws X.env)).any (·.1.isNone)) = false)
    (hbody : F.body = [.Expr (.Call (.Attribute (.Call (.Name "super" p0) [] [] p1) "__init__" p2) [msg] [] p3) p4, .Assign [.Attribute (.Name "self" r1) fld r2] (.Name fld r3) r4])
    (hb : ∀ (s : Shared) (doc pm : Value) (an : Option Addr) (ct : Value) (xa : Addr) (u : Value), BindsTo s (PySem.W.ksFn F.name F.qual F.params F.body F.scope .none .none doc pm an (.ref F.c) ct cc) ⟨[.ref xa], [(fld, u)]⟩ [(("self" : Str), .ref xa), (fld, u)])
    (hmsg : ∀ (A : Around) (outer : List Env) (s : Shared) (H : Hp) (E : XK) (xa : Addr) (v : V), Tells v → ∃ tm, PA (ncx CX X.prog X.w X.K X.mg X.base ["self", fld, "__class__"] F f A outer s H E) [msg] tm ∧
      ∀ R : List V → Hp → Prop, (∀ y : Str, R [.str y] H) → tm (startF ["self", fld, "__class__"] [.ref xa, v] [none]) H R)
    (hce : ∀ L : Addr, eval (.Call (.Attribute (.Call (.Name "super" p0) [] [] p1) "__init__" p2) [msg] [] p3) (envF F f L) = (do
      let ov ← attributeBase (.Call (.Name "super" p0) [] [] p1) "__init__" (envF F f L) (eval (.Call (.Name "super" p0) [] [] p1) (envF F f L))
      standAt p2.atName
      let (fx, first) ← holding [ov] (getMethod ov "__init__" pl)
      callWith p3 fx first (backTo p3 (starEach [msg] (envF F f L))) []))
    (hst : ∀ L : Addr, starEach [msg] (envF F f L) = (false, eval msg (envF F f L)) :: starEach [] (envF F f L))
    (hsw : ∀ L : Addr, swapsWith (.Name fld r3) (some (.Attribute (.Name "self" r1) fld r2)) r4.line (envF F f L) = pure false)
    (hf1 : (fld == ("__debug__" : Str)) = false := by decide) (hf2 : (fld == ("__classdict__" : Str)) = false := by decide)
    (hdb : (x == ("__debug__" : Str)) = false := by decide) : PMk X (.Call (.Name x p) [] kws pos) (tMkW C fld te) := by
  intro pins s σ H Q I h
  obtain ⟨nm, q, N, bs, bm, sn, sub, ab, col, dd, k0, k1, k2, k3, k5, hC, hbm⟩ := VC.o.cls
  refine wpAny_Call_Name_kw (ld_glob I hg hm ?_ hdb)
  refine PySem.W.callWith_KW0 (h₀ := X.base) I.ok.mod.kin VC.o.kC hall ?_ hpl
  refine thn (hkw.run pos pins s σ H _ I h) fun ws s1 ⟨zs, H1, I1, rz, v, ezs, hv, q1⟩ => ⟨I1.kIn, ?_⟩
  subst ezs
  cases rz with
  | @cons _ u _ _ rv rn =>
  cases rn
  rw [hks]
  obtain ⟨hp, g, dr, tk, os⟩ := s1
  have hsz : hp.objs.size ≤ hp.objs.size + 1 := Nat.le_succ _
  have hn : H1 (hp.objs.size + 1) = none := I1.hok.fresh hsz
  generalize ha : hp.objs.size + 1 = a at hn hsz
  have kk : ∀ b o, hp.get? b = some o → ((hp.push (PySem.W.kdv_tup [])).push (PySem.HandSPX.excO C hp.objs.size)).get? b = some o := fun b o e => Heap.get?_push_of_some _ (Heap.get?_push_of_some _ e)
  have hget : ((hp.push (PySem.W.kdv_tup [])).push (PySem.HandSPX.excO C hp.objs.size)).get? a = some (PySem.HandSPX.excO C hp.objs.size) := by
    rw [← ha]
    heap_get
  generalize hh2 : (hp.push (PySem.W.kdv_tup [])).push (PySem.HandSPX.excO C hp.objs.size) = h2 at kk hget
  have I2 : Inv X pins σ (upd H1 a (exo a C none)) ⟨h2, g, dr, tk, os⟩ := I1.laid (t' := tk) (a := a) (o := exo a C none) (h' := h2) kk hsz (exo_ok hget)
  obtain ⟨tm, hpm, htm⟩ := hmsg (X.A.under (.builtin "type.__call__" ⟨[.ref C], [(fld, u)]⟩)) X.stack ⟨h2, g, dr, tk, os⟩ (upd H1 a (exo a C none)) (fun _ _ _ => False) a v hv
  refine wpAny_call (ShX.call_kw PySem.F.excBase_ValueError (fun Y => PySem.HandSPX.refsVE_contains Y bm hbm) (I1.kIn _ _ hC) (PySem.W.looks_findIn I1.kIn iC) (fun self => PySem.W.bind_fn I1.kIn self tI) ?_)
  rw [ha, hh2]
  have vis0 : Vis F.scope ("self" : Str) := .inl (S.par _ List.mem_cons_self)
  have vis1 : Vis F.scope fld := .inl (S.par _ (List.mem_cons_of_mem _ List.mem_cons_self))
  refine codeAny_mono (run_sup (CX := CX) (k := k) (N := ["self", fld, "__class__"]) (ps := ["self", fld]) (us := [.ref a, u]) (vs := [.ref a, v]) (E := fun _ _ _ => False)
    (Q := fun r H2 => r = .non ∧ ∃ (d : Addr) (fs : List (Str × V)), H2 a = some (exo a C (some d)) ∧ H2 d = some (exd d fs) ∧ H1 d = none ∧ Q (.ref C) (some d) (upd (del H2 a) d (.xd fs)))
    T VC S (hr.make C [] _) (I2.env0.make C [] _) ?_ rfl (.cons rfl (.cons rv .nil)) rfl rfl upd_same hbody hpm
    (pss_one (ps_ost (pe_var (i := 0) rfl vis0) (pe_var (i := 1) rfl vis1 hf1 hf2) (hsw _))) ?_ hce hst) fun r s' hq' => ?_
  · intro doc pm an ct
    exact hb _ doc pm an ct a u
  · refine htm _ fun y => ⟨by simp, upd_same, v, rfl, .ref a, rfl, a, C, rfl, VC.o, hno, .inl ⟨upd_same, fun dx hdx ndx => ?_⟩⟩
    have hdx1 : H1 dx = none := by
      rw [upd_ne ndx] at hdx
      exact hdx
    refine ⟨rfl, dx, [(fld, v)], upd_same, ?_, hdx1, ?_⟩
    · rw [upd_ne ndx, upd_same]
    · have eH : upd (del (upd (upd (upd H1 a (exo a C none)) dx (exd dx [(fld, v)])) a (exo a C (some dx))) a) dx (.xd [(fld, v)]) = upd H1 dx (.xd [(fld, v)]) := by
        funext b
        by_cases h1 : b = dx
        · rw [h1, upd_same, upd_same]
        · rw [upd_ne h1, upd_ne h1]
          by_cases h2 : b = a
          · rw [h2, del_same, hn]
          · rw [del_ne h2, upd_ne h2, upd_ne h1, upd_ne h2]
      rw [eH]
      exact q1 dx hdx1
  · cases r with
    | error er => exact hx pins σ _ _ er s' I2 hq'
    | ok fl =>
      cases fl with
      | ret uu =>
        obtain ⟨vv, H2, os2, bare2, un2, hok2, rv2, ev, d2, fs, ea, ed, hd1, q2⟩ := hq'
        subst ev
        obtain ⟨h3, g2, dr2, t2, os'⟩ := s'
        exact ⟨rv2, mk_end (raises_own VC.o.exC VC.o.tyC) I1 hsz kk un2 hok2 os2 bare2 ea ed hd1 q2⟩
      | next => exact False.elim hq'
      | brk => exact False.elim hq'
      | cont => exact False.elim hq'
end
end Sho
set_option Elab.async false
set_option linter.all false
set_option maxRecDepth 100000
set_option maxHeartbeats 2000000
/-! The head of a law with facts: defs with and without a closure, Bools of the written part, empty tables of code objects left out. -/
namespace Shh
open PySem PySem.Spec PyProof.Rows L2 He Sho
abbrev Fr : Type := PySem.W.Frag
/-! ### a def -/
abbrev FnS : Type := Option (Str × Str × Arguments × FuncBody × Scope)
def fnS (K : Fr) (a : Addr) : FnS := match K.lookup a with
  | some ⟨_, _, .func fd, _⟩ => some (fd.name, fd.qualname, fd.params, fd.body, fd.scope)
  | _ => none
def noneB : Value → Bool
  | .none => true
  | _ => false
theorem noneB_ok {v : Value} (h : noneB v = true) : v = .none := by
  cases v with
  | none => rfl
  | _ => cases h
def fnB (K : Fr) (a : Addr) (q : Str) (cl : List (Str × Addr)) : Bool := match K.lookup a with
  | some ⟨_, _, .func fd, _⟩ => decide (fd.globals = mainGlobals) && (decide (fd.closure = cl) && (decide (fd.builtins = builtinsNs) && (noneB fd.defaults && (noneB fd.kwdefaults && PySem.W.codeIn K fd.code q))))
  | _ => false
def codeA (K : Fr) (a : Addr) : Addr := match K.lookup a with
  | some ⟨_, _, .func fd, _⟩ => (match fd.code with
    | .ref c => c
    | _ => 0)
  | _ => 0
/-- the first cell of a function's closure -/
def cellA (K : Fr) (a : Addr) : Addr := match K.lookup a with
  | some ⟨_, _, .func fd, _⟩ => (match fd.closure with
    | (_, c) :: _ => c
    | _ => 0)
  | _ => 0
structure FunF (K : Fr) (x qual : Str) (st : Stmt) (cl : List (Str × Addr)) (f : Addr) : Prop where
  ex : ∃ (oc : Value) (od : Option Addr) (doc pm : Value) (an : Option Addr) (ct : Value) (osl : Array (Option Value)),
    K.lookup f = some ⟨oc, od, .func (PySem.W.fnX x qual (defArgs st) (defBody st) (defScope st) cl .none .none doc pm an (.ref (codeA K f)) ct), osl⟩ ∧ PySem.W.codeIn K (.ref (codeA K f)) qual = true
/-- one def: where it stands, its name, qualified name, statement, closure -/
structure Dn where
  at_ : Fr → Addr
  name : Str
  qual : Str
  st : Stmt
  cl : Fr → List (Str × Addr) := fun _ => []
def Dn.val (d : Dn) : FnS := some (d.name, d.qual, defArgs d.st, .stmts (defBody d.st), defScope d.st)
def Dn.ok (K : Fr) (d : Dn) : Bool := fnB K (d.at_ K) d.qual (d.cl K)
theorem Dn.funF {K : Fr} {d : Dn} (e : fnS K (d.at_ K) = d.val) (c : d.ok K = true) : FunF K d.name d.qual d.st (d.cl K) (d.at_ K) := by
  unfold Dn.ok fnB at c
  unfold fnS at e
  have ec : ∀ fd oc od osl, K.lookup (d.at_ K) = some ⟨oc, od, .func fd, osl⟩ → ∀ c, fd.code = .ref c → codeA K (d.at_ K) = c := fun fd oc od osl q c h => by
    unfold codeA
    rw [q]
    show (match fd.code with | .ref c => c | _ => 0) = c
    rw [h]
  cases q : K.lookup (d.at_ K) with
  | none =>
    rw [q] at c
    cases c
  | some o =>
    obtain ⟨oc, od, dt, osl⟩ := o
    rw [q] at c e
    cases dt with
    | func fd =>
      have ec' := ec fd oc od osl q
      obtain ⟨n1, n2, n3, n4, n5, n6, n7, n8, n9, n10, n11, n12, n13, n14, n15⟩ := fd
      have e2 : (some (n1, n2, n3, n4, n5) : FnS) = some (d.name, d.qual, defArgs d.st, .stmts (defBody d.st), defScope d.st) := e
      simp only [Option.some.injEq, Prod.mk.injEq] at e2
      obtain ⟨h1, h2, h3, h4, h5⟩ := e2
      obtain ⟨c1, c⟩ := ba c
      obtain ⟨c2, c⟩ := ba c
      obtain ⟨c3, c⟩ := ba c
      obtain ⟨c4, c⟩ := ba c
      obtain ⟨c5, c6⟩ := ba c
      have g1 : n6 = mainGlobals := of_decide_eq_true c1
      have g2 : n7 = d.cl K := of_decide_eq_true c2
      have g3 : n15 = builtinsNs := of_decide_eq_true c3
      have g4 : n8 = .none := noneB_ok c4
      have g5 : n9 = .none := noneB_ok c5
      obtain ⟨cc, hc⟩ := codeIn_ref c6
      have hc' : n13 = .ref cc := hc
      have e3 := ec' cc hc'
      subst h1 h2 h3 h4 h5 g1 g2 g3 g4 g5 hc'
      exact ⟨oc, od, n10, n11, n12, n14, osl, by rw [e3]; exact q, by rw [e3]; exact c6⟩
    | _ => cases c
/-! ### the Hook -/
def okAll (fa : List (Fr → Bool)) (fn : List Dn) (K : Fr) : Bool := (fa.all fun f => f K) && fn.all fun d => d.ok K
def tabsS (g : Addr → Option Obj) (tf : List (Fr → Addr)) (K : Fr) : Bool := tf.all fun p => PySem.W.codeHdIn K (codeA K (p K)) (tabOf K (codeA K (p K))) && (match g (tabOf K (codeA K (p K))) with
  | some o => emptyTab o
  | none => false)
def fragS (n : Nat) (g : Addr → Option Obj) : Fr := frT g (asD g n ++ [cStatics])
abbrev AlS : Type := Bool × List FnS
def obsS (n : Nat) (fa : List (Fr → Bool)) (fn : List Dn) (tf : List (Fr → Addr)) (g : Addr → Option Obj) : AlS := (okAll fa fn (fragS n g) && tabsS g tf (fragS n g), fn.map fun d => fnS (fragS n g) (d.at_ (fragS n g)))
def valS (fn : List Dn) : AlS := (true, fn.map Dn.val)
structure SaysS (fa : List (Fr → Bool)) (fn : List Dn) (tf : List (Fr → Addr)) (h : Heap) (K : Fr) : Prop where
  fa : ∀ f ∈ fa, f K = true
  fn : ∀ d ∈ fn, FunF K d.name d.qual d.st (d.cl K) (d.at_ K)
  hd : ∀ p ∈ tf, PySem.W.codeHdIn K (codeA K (p K)) (tabOf K (codeA K (p K))) = true
  out : ∀ p ∈ tf, K.lookup (tabOf K (codeA K (p K))) = none
  empty : ∀ p ∈ tf, h.get? (tabOf K (codeA K (p K))) = some { cls := .none, data := .fields #[] }
theorem saysS_of {n : Nat} {fa : List (Fr → Bool)} {fn : List Dn} {tf : List (Fr → Addr)} {h : Heap} (e : obsS n fa fn tf h.get? = valS fn) : SaysS fa fn tf h (fragS n h.get?) := by
  have e1 : (okAll fa fn (fragS n h.get?) && tabsS h.get? tf (fragS n h.get?)) = true := congrArg (fun z : AlS => z.1) e
  have e2 : (fn.map fun d => fnS (fragS n h.get?) (d.at_ (fragS n h.get?))) = fn.map Dn.val := congrArg (fun z : AlS => z.2) e
  obtain ⟨h1, h2⟩ := ba e1
  obtain ⟨h3, h4⟩ := ba h1
  have key : ∀ p ∈ tf, PySem.W.codeHdIn (fragS n h.get?) (codeA (fragS n h.get?) (p (fragS n h.get?))) (tabOf (fragS n h.get?) (codeA (fragS n h.get?) (p (fragS n h.get?)))) = true ∧
      ∃ o, h.get? (tabOf (fragS n h.get?) (codeA (fragS n h.get?) (p (fragS n h.get?)))) = some o ∧ emptyTab o = true := fun p hp => by
    obtain ⟨h5, h6⟩ := ba (List.all_eq_true.mp h2 p hp)
    refine ⟨h5, ?_⟩
    cases q : h.get? (tabOf (fragS n h.get?) (codeA (fragS n h.get?) (p (fragS n h.get?)))) with
    | none =>
      rw [q] at h6
      cases h6
    | some o =>
      rw [q] at h6
      exact ⟨o, rfl, h6⟩
  refine ⟨fun f hf => List.all_eq_true.mp h3 f hf, fun d hd => ?_, fun p hp => (key p hp).1, fun p hp => ?_, fun p hp => ?_⟩
  · obtain ⟨i, hi, ei⟩ := List.mem_iff_getElem.mp hd
    have e3 : (fn.map fun d => fnS (fragS n h.get?) (d.at_ (fragS n h.get?)))[i]? = (fn.map Dn.val)[i]? := by rw [e2]
    rw [List.getElem?_map, List.getElem?_map, List.getElem?_eq_getElem hi, ei] at e3
    exact Dn.funF (Option.some.inj e3) (List.all_eq_true.mp h4 d hd)
  · obtain ⟨_, o, q, z⟩ := key p hp
    exact frT_none q z
  · obtain ⟨_, o, q, z⟩ := key p hp
    rw [q, emptyTab_eq z]
def hookS (n : Nat) (fa : List (Fr → Bool)) (fn : List Dn) (tf : List (Fr → Addr)) : PySem.W.Hook where
  α := AlS
  obs := fun s => obsS n fa fn tf s.heap.get?
  val := fun _ => valS fn
  says := fun _ h => ∃ K : PySem.W.Frag, K.In h ∧ SaysS fa fn tf h K
  of := fun _ _ e => ⟨_, frT_in, saysS_of e⟩
  keeps := fun _ _ _ ⟨K, hK, c⟩ k => ⟨K, PySem.W.Frag.In.keeps hK k, ⟨c.fa, c.fn, c.hd, c.out, fun p hp => k _ _ (c.empty p hp)⟩⟩
theorem obsS_eq {n : Nat} {fa : List (Fr → Bool)} {fn : List Dn} {tf : List (Fr → Addr)} {g : Addr → Option Obj} {s : Shared} (h : ∀ a, g a = s.heap.get? a) : obsS n fa fn tf g = (hookS n fa fn tf).obs s := by
  have e : g = s.heap.get? := funext h
  rw [e] <;> rfl
section
variable {fa : List (Fr → Bool)} {fn : List Dn} {tf : List (Fr → Addr)} {h : Heap} {K : Fr}
theorem SaysS.fact (c : SaysS fa fn tf h K) (i : Nat) {f : Fr → Bool} (e : fa[i]? = some f := by rfl) : f K = true := c.fa f (List.mem_of_getElem? e)
theorem SaysS.def_ (c : SaysS fa fn tf h K) (i : Nat) {d : Dn} (e : fn[i]? = some d := by rfl) : FunF K d.name d.qual d.st (d.cl K) (d.at_ K) := c.fn d (List.mem_of_getElem? e)
end
/-! ### names of the module -/
section
variable {K : Fr} {h : Heap} {mg : Str → Option Value}
def gloB (K : Fr) (xs : List Str) : Bool := xs.all fun x => eqO (PySem.W.nsIn K mainGlobals x) (some (some (.ref (ga K x))))
theorem gloB_ok (X : K.In h) (G : h.Ns mainGlobals mg) {xs : List Str} (c : gloB K xs = true) {x : Str} (hx : x ∈ xs) : mg x = some (.ref (ga K x)) := PySem.W.mg_of X G (eqO_ok (List.all_eq_true.mp c x hx))
def freeB (K : Fr) (xs : List Str) : Bool := xs.all fun x => eqO (PySem.W.nsIn K mainGlobals x) (some none)
theorem freeB_ok (X : K.In h) (G : h.Ns mainGlobals mg) {xs : List Str} (c : freeB K xs = true) {x : Str} (hx : x ∈ xs) : mg x = none := PySem.W.mg_none_of X G (eqO_ok (List.all_eq_true.mp c x hx))
def keepB (K : Fr) (xs : List Str) : Bool := xs.all fun x => PySem.W.keepIn K (.ref (ga K x))
theorem keepB_ok {xs : List Str} (c : keepB K xs = true) {x : Str} (hx : x ∈ xs) : PySem.W.keepIn K (.ref (ga K x)) = true := List.all_eq_true.mp c x hx
end
/-! ### an own error whose __init__ says super().__init__(text) and stores a field -/
def oexB (K : Fr) (C : Addr) : Bool := match K.lookup C with
  | some ⟨.type t, _, .cls cd, sl⟩ => decide (t = "type") && (decide (cd.mro.head? = some (.ref C)) && (PySem.HandSPX.refsVE cd.mro.tail && (cd.hasDict && (!cd.hasDel && (match sl.toList with
    | [_, _, _, _, some (.builtin n), _] => decide (n = "ValueError.__new__")
    | _ => false)))))
  | _ => false
theorem oexB_ok {K : Fr} {C : Addr} (h : oexB K C = true) : ∃ nm q N bs bm sn sub ab col dd k0 k1 k2 k3 k5, K.lookup C = some (excClassObj nm q C N bs bm true sn sub ab col dd k0 k1 k2 k3 k5 "ValueError.__new__") ∧ PySem.HandSPX.refsVE bm = true := by
  unfold oexB at h
  split at h
  · rename_i t dd cd sl e
    obtain ⟨h1, h⟩ := ba h
    obtain ⟨h2, h⟩ := ba h
    obtain ⟨h3, h⟩ := ba h
    obtain ⟨h4, h⟩ := ba h
    obtain ⟨h5, h6⟩ := ba h
    split at h6
    · rename_i k0 k1 k2 k3 n k5 hs
      obtain ⟨nm, bs, mro, N, q, hd, sn, sub, ab, col, hdel⟩ := cd
      have a1 : t = "type" := of_decide_eq_true h1
      have a2 : mro.head? = some (.ref C) := of_decide_eq_true h2
      have a4 : hd = true := h4
      have a5 : hdel = false := by
        cases z : hdel with
        | false => rfl
        | true =>
          have h5' : (!hdel) = true := h5
          rw [z] at h5'
          cases h5'
      have a6 : n = "ValueError.__new__" := of_decide_eq_true h6
      have a7 : sl = #[k0, k1, k2, k3, some (.builtin n), k5] := by
        have z : sl.toList.toArray = [k0, k1, k2, k3, some (.builtin n), k5].toArray := by rw [hs]
        simpa using z
      cases mro with
      | nil => cases a2
      | cons m0 bm =>
        have a8 : m0 = .ref C := Option.some.inj a2
        subst a1 a4 a5 a6 a7 a8
        exact ⟨nm, q, N, bs, bm, sn, sub, ab, col, dd, k0, k1, k2, k3, k5, e, h3⟩
    · cases h6
  · cases h
def cellB (K : Fr) (cc C : Addr) : Bool := match K.lookup cc with
  | some ⟨_, _, .cell (some (.ref D)), _⟩ => decide (D = C)
  | _ => false
theorem cellB_ok {K : Fr} {cc C : Addr} (h : cellB K cc C = true) : ∃ (cl : Value) (cld : Option Addr) (csl : Array (Option Value)), K.lookup cc = some ⟨cl, cld, .cell (some (.ref C)), csl⟩ := by
  unfold cellB at h
  split at h
  · rename_i cl cld D csl e
    rw [of_decide_eq_true h] at e
    exact ⟨cl, cld, csl, e⟩
  · cases h
def fileB (K : Fr) (c : Addr) (file : Str) : Bool := match K.lookup c with
  | some ⟨_, _, .fields vs, _⟩ => (match (vs[2]? : Option Value) with
    | some (.str fl _) => file == fl
    | _ => false)
  | _ => false
theorem fileB_ok {K : Fr} {c : Addr} {file : Str} (h : fileB K c file = true) : ∃ (oc : Value) (od : Option Addr) (vs : Array Value) (sl : Array (Option Value)) (fl : Str) (tf : Tok), K.lookup c = some ⟨oc, od, .fields vs, sl⟩ ∧ vs[2]? = some (.str fl tf) ∧ (file == fl) = true := by
  unfold fileB at h
  split at h
  · rename_i oc od vs sl e
    split at h
    · rename_i fl tf e2
      exact ⟨oc, od, vs, sl, fl, tf, e, e2, h⟩
    · cases h
  · cases h
/-- where an error's __init__ stands -/
def eInit (K : Fr) (x : Str) : Addr := ma K (ga K x) "__init__"
def errB (file : Str) (K : Fr) (x fld : Str) : Bool :=
  oexB K (ga K x) && (cellB K (cellA K (eInit K x)) (ga K x) && (fileB K (codeA K (eInit K x)) file && (PySem.W.isClsIn K (ga K x) && (eqO (PySem.W.nsIn K cStatics "thirdparty.any") (some none) &&
  (decide (PySem.W.mroIn K (ga K x) (.ref (ga K x)) = some true) && (eqO (PySem.W.ks_superIn K (ga K x) (ga K x) "__init__") (some (some (.builtin ShX.veI))) && (decide (PySem.W.subIn K (.ref (ga K x)) (.type "ValueError") = some true) &&
  (xfB K (ga K x) && (eqO (PySem.W.findIn K (.ref (ga K x)) fld) (some none) && (decide (PySem.W.exmOne K (.ref (ga K x)) (.ref (ga K x)) = some true) && (eqO (PySem.W.findIn K (.ref (ga K x)) "__init__") (some (some (.ref (eInit K x)))) &&
  (decide (PySem.W.typeIn K (.ref (eInit K x)) = some (.type "function")) && (eqO (PySem.W.findIn K (.ref (ga K x)) "__setattr__") (some (some (.builtin "object.__setattr__"))) && (decide (PySem.W.subIn K (.ref (ga K x)) (.type "BaseException") = some true) &&
  (decide (PySem.W.typeIn K (.ref (ga K x)) = some (.type "type")) && PySem.W.keepIn K (.ref (ga K x)))))))))))))))))
section
variable {K : Fr} {h : Heap} {mg : Str → Option Value} {P : Program}
/-- the pieces of errB -/
structure ErrF (file : Str) (K : Fr) (x fld : Str) : Prop where
  oex : OexC K (ga K x)
  cell : ∃ (cl : Value) (cld : Option Addr) (csl : Array (Option Value)), K.lookup (cellA K (eInit K x)) = some ⟨cl, cld, .cell (some (.ref (ga K x))), csl⟩
  file : ∃ (oc : Value) (od : Option Addr) (vs : Array Value) (sl : Array (Option Value)) (fl : Str) (tf : Tok), K.lookup (codeA K (eInit K x)) = some ⟨oc, od, .fields vs, sl⟩ ∧ vs[2]? = some (.str fl tf) ∧ (file == fl) = true
  isC : PySem.W.isClsIn K (ga K x) = true
  opq : PySem.W.nsIn K cStatics "thirdparty.any" = some none
  sup : SupCls K (ga K x) (ga K x)
  xf : XfC K (ga K x)
  no : PySem.W.findIn K (.ref (ga K x)) fld = some none
  exm : PySem.W.exmOne K (.ref (ga K x)) (.ref (ga K x)) = some true
  ini : PySem.W.findIn K (.ref (ga K x)) "__init__" = some (some (.ref (eInit K x)))
  ity : PySem.W.typeIn K (.ref (eInit K x)) = some (.type "function")
theorem errB_ok {file x fld : Str} (c : errB file K x fld = true) : ErrF file K x fld := by
  obtain ⟨c1, c⟩ := ba c
  obtain ⟨c2, c⟩ := ba c
  obtain ⟨c3, c⟩ := ba c
  obtain ⟨c4, c⟩ := ba c
  obtain ⟨c5, c⟩ := ba c
  obtain ⟨c6, c⟩ := ba c
  obtain ⟨c7, c⟩ := ba c
  obtain ⟨c8, c⟩ := ba c
  obtain ⟨c9, c⟩ := ba c
  obtain ⟨c10, c⟩ := ba c
  obtain ⟨c11, c⟩ := ba c
  obtain ⟨c12, c⟩ := ba c
  obtain ⟨c13, c⟩ := ba c
  obtain ⟨c14, c⟩ := ba c
  obtain ⟨c15, c⟩ := ba c
  obtain ⟨c16, c17⟩ := ba c
  have O : OexC K (ga K x) := ⟨oexB_ok c1, eqO_ok c14, of_decide_eq_true c15, of_decide_eq_true c16, c17⟩
  exact ⟨O, cellB_ok c2, fileB_ok c3, c4, eqO_ok c5, ⟨O, of_decide_eq_true c6, eqO_ok c7, of_decide_eq_true c8⟩, xfB_ok c9, eqO_ok c10, of_decide_eq_true c11, eqO_ok c12, of_decide_eq_true c13⟩
/-- the text of its __init__ -/
theorem err_txt {file x fld qual : Str} {st : Stmt} (E : ErrF file K x fld) (D : FunF K "__init__" qual st [(("__class__" : Str), cellA K (eInit K x))] (eInit K x)) (hf : P.main.file = file) (sup : mg "super" = none)
    (h1 : ∃ ar : Arg, ((defArgs st).posonlyargs ++ (defArgs st).args).head? = some ar ∧ ar.arg = ("self" : Str)) (h2 : (P.main.scope.names.lookup ("super" : Str)).isSome = false)
    (h3 : (defScope st).names.lookup ("super" : Str) = some .globalImplicit) (h4 : (defScope st).names.lookup ("__class__" : Str) = some .free) (h5 : (defScope st).names.lookup ("self" : Str) = some .local) :
    SupTxt P K mg ⟨"__init__", qual, defArgs st, defBody st, defScope st, [(("__class__" : Str), cellA K (eInit K x))], codeA K (eInit K x)⟩ (eInit K x) (cellA K (eInit K x)) (ga K x) := by
  obtain ⟨oc, od, doc, pm, an, ct, osl, lk, hcd⟩ := D.ex
  exact ⟨⟨oc, od, doc, pm, an, ct, osl, lk⟩, hcd, E.cell, rfl, by rw [hf]; exact E.file, h1, sup, h2, h3, h4, h5, E.isC, E.opq⟩
end
/-! ### an own error without a field, a property, an operator -/
def ernB (K : Fr) (x : Str) : Bool := PySem.W.excIn K (ga K x) veBase "ValueError.__new__" && (PySem.W.keepIn K (.ref (ga K x)) && (decide (PySem.W.subIn K (.ref (ga K x)) (.type "BaseException") = some true) && (decide (PySem.W.typeIn K (.ref (ga K x)) = some (.type "type")) &&
  decide (PySem.W.exmOne K (.ref (ga K x)) (.ref (ga K x)) = some true))))
/-- the getter of a property -/
def getA (K : Fr) (C : Addr) (m : Str) : Addr := He5.wf K C "property" m
def propB (K : Fr) (C : Addr) (m : Str) : Bool := eqO (PySem.W.findIn K (.ref C) m) (some (some (.ref (ma K C m)))) && (eqO (PySem.W.specialIn K (.ref (ma K C m)) "__get__") (some (some (.builtin "property.__get__"))) && (decide (PySem.W.takesIn K (.ref (ma K C m)) = some true) &&
  (match PySem.W.recIn K (ma K C m) "property" with
    | some (.ref _ :: _) => true
    | _ => false)))
theorem propB_ok {K : Fr} {C : Addr} {m : Str} (c : propB K C m = true) : PropOf K C m (ma K C m) (getA K C m) := by
  obtain ⟨c1, c⟩ := ba c
  obtain ⟨c2, c⟩ := ba c
  obtain ⟨c3, c4⟩ := ba c
  refine ⟨eqO_ok c1, eqO_ok c2, of_decide_eq_true c3, ?_⟩
  unfold getA He5.wf
  split at c4
  · rename_i f r e
    exact ⟨r, by rw [e]⟩
  · cases c4
/-- a def of the class under a name that Python itself looks up -/
def dunB (K : Fr) (C : Addr) (m : Str) : Bool := eqO (PySem.W.findIn K (.ref C) m) (some (some (.ref (ma K C m)))) && (PySem.W.isFn K (.ref (ma K C m)) && (PySem.W.fnIn K (ma K C m) && PySem.W.keepIn K (.ref (ma K C m))))
structure DunF (K : Fr) (C : Addr) (m : Str) : Prop where
  at_ : PySem.W.findIn K (.ref C) m = some (some (.ref (ma K C m)))
  isF : PySem.W.isFn K (.ref (ma K C m)) = true
  fn : PySem.W.fnIn K (ma K C m) = true
  kp : PySem.W.keepIn K (.ref (ma K C m)) = true
theorem dunB_ok {K : Fr} {C : Addr} {m : Str} (c : dunB K C m = true) : DunF K C m := by
  obtain ⟨c1, c⟩ := ba c
  obtain ⟨c2, c⟩ := ba c
  obtain ⟨c3, c4⟩ := ba c
  exact ⟨eqO_ok c1, c2, c3, c4⟩
theorem DunF.meth {K : Fr} {C : Addr} {m : Str} (d : DunF K C m) : Meth K C m (ma K C m) := ⟨d.at_, d.isF, d.kp⟩
theorem DunF.mkr {K : Fr} {C : Addr} (d : DunF K C "__init__") (m : PySem.W.makesIn K C = true) (k : PySem.W.keepIn K (.ref C) = true) : Mk K C (ma K C "__init__") := ⟨m, d.at_, d.isF, k⟩
theorem DunF.callO {K : Fr} {C : Addr} (d : DunF K C "__call__") : StX.CallO K C (ma K C "__call__") := ⟨d.at_, d.isF, d.fn⟩
/-! ### functions without a closure -/
section
variable {K : Fr} {x qual : Str} {st : Stmt} {f : Addr}
/-- its object -/
theorem FunF.funW (F : FunF K x qual st [] f) (kp : PySem.W.keepIn K (.ref f) = true) : ∃ fd, L2.Fun K x qual st f fd ∧ (∀ ps : List Str, (∀ (kV doc pm : Value) (an : Option Addr) (cdv ct : Value) (us : List Value), us.length = ps.length → bindArgs (PySem.W.fnOf x qual (defArgs st) (defBody st) (defScope st) .none kV doc pm an cdv ct) ⟨us, []⟩ = pure (ps.zip us)) → Binds K fd ps []) ∧
    ∀ ps : List Str, (∀ (kV doc pm : Value) (an : Option Addr) (cdv ct : Value) (us : List Value), us.length = ps.length → bindArgs (PySem.W.fnOf x qual (defArgs st) (defBody st) (defScope st) .none kV doc pm an cdv ct) ⟨us, []⟩ = pure (ps.zip us)) → ∀ (s : Shared) (us : List Value), us.length = ps.length → BindsTo s fd ⟨us, []⟩ (ps.zip us) := by
  obtain ⟨oc, od, doc, pm, an, ct, osl, lk, hcd⟩ := F.ex
  exact ⟨_, ⟨⟨oc, od, .none, doc, pm, an, _, ct, osl, rfl, lk, hcd⟩, kp⟩, fun ps h => .all (h .none doc pm an _ ct), fun ps h s us hl => .of_eq (h .none doc pm an _ ct us hl)⟩
end
end Shh
set_option Elab.async false
set_option linter.all false
set_option maxRecDepth 100000
set_option maxHeartbeats 2000000
/-! Lambdas as objects that are known: made (with a default or without), called. -/
namespace Sho
open PySem PySem.Spec PyProof.Rows L2 LamX NdefX

/-- a lambda's words: those of a def without a body, its expression, its defaults -/
structure LF where
  F : NF
  e : Expr
  dV : Value
abbrev LF.fd (Z : LF) (pm ctv : Value) : FuncData :=
  { PySem.W.kla_fn Z.F.name Z.F.qual Z.F.params Z.e Z.F.scope Z.F.cl pm (.ref Z.F.c) ctv with defaults := Z.dV }
/-- the object at f is that lambda -/
def LamO (f : Addr) (Z : LF) : HO :=
  .ext fun g => ∃ pm ctv : Value, g.get? f = some (({ cls := .type "function", data := .func (Z.fd pm ctv) }) : Obj)
theorem lamO_ne {f : Addr} {Z : LF} (qs : Array Value) : LamO f Z ≠ .tbl qs := fun h => nomatch h
theorem lamO_at {P : Program} {w : World} {H : Hp} {h : Heap} {f : Addr} {Z : LF} (ok : HOk P w H h) (hf : H f = some (LamO f Z)) :
    ∃ pm ctv : Value, h.get? f = some (({ cls := .type "function", data := .func (Z.fd pm ctv) }) : Obj) := by
  obtain ⟨x, _, _⟩ := ok f _ hf
  exact x
/-- nothing that was known is forgotten, but for the tables -/
structure Grows (T : List (Addr × Str)) (H H1 : Hp) : Prop where
  ext : ExtN H H1
  tab : Tabs T H → Tabs T H1
theorem Grows.rfl' {T : List (Addr × Str)} (H : Hp) : Grows T H H := ⟨ExtN.refl H, id⟩
theorem Grows.trans {T : List (Addr × Str)} {H H1 H2 : Hp} (a : Grows T H H1) (b : Grows T H1 H2) : Grows T H H2 := ⟨a.ext.trans b.ext, fun t => b.tab (a.tab t)⟩
theorem Grows.upd {T : List (Addr × Str)} {H : Hp} {p : Addr} {o : HO} (hp : H p = none) : Grows T H (L2.upd H p o) := by
  have e : ∀ b u, H b = some u → L2.upd H p o b = some u := fun b u q => (upd_ne (ne_of_none q hp)).trans q
  exact ⟨ExtN.of e, fun t => Tabs.ext t e⟩
/-- the words of a lambda that is made in X -/
abbrev mkLF (X : Cx) (params : Arguments) (body : Expr) (scope : Scope) (c' : Addr) (dV : Value) : LF :=
  ⟨⟨"<lambda>", X.env.qual ++ "<lambda>", params, [], scope, cloFrom X.env.cells scope.names [], c'⟩, body, dV⟩
section
variable {M : Model} {A : Around} {E : Value → Shared → Prop} {s : Shared}
/-- the making's end, the code object by a premise -/
theorem tail_d {name qual : Str} {params : Arguments} {body : Expr} {scope : Scope} {env : Env} {dV : Value} {pos : Pos} {fl : Nat} {clos : List (Str × Addr)} {mg : Str → Option Value} {Pl : Addr} {Q : Value → Shared → Prop}
    (hcl : closureFor scope env = pure clos) (hge : env.globals = mainGlobals)
    (h : ∀ h1 ctv, (∀ b o, s.heap.get? b = some o → h1.get? b = some o) → s.heap.objs.size ≤ h1.objs.size →
      wpAny M A (functionCode env pos fl name qual params scope (.expr body)) (fun cv s2 => s2.heap.Ns mainGlobals mg ∧ s2.heap.BuiltinsAt mg Pl ∧
        Q (.ref s2.heap.objs.size) { s2 with heap := s2.heap.push { cls := .type "function", data := .func { PySem.W.kla_fn name qual params body scope clos ((mg "__name__").getD .none) cv ctv with defaults := dV } } }) E { s with heap := h1 }) :
    wpAny M A (makeTail name qual params (.expr body) scope env dV .none none pos fl) Q E s := by
  unfold makeTail
  rw [hcl]
  refine wpAny_bind (wpAny_pure ?_)
  cases clos with
  | nil =>
    simp only [List.isEmpty_nil, if_true]
    refine wpAny_bind (wpAny_pure (wpAny_bind (wpAny_mono (h s.heap .none (fun _ _ e => e) (Nat.le_refl _)) (fun cv s2 x => ?_) fun _ _ x => x)))
    obtain ⟨g2, ⟨bm, ob, b1, b2, _, _, b5, b6, b7, b8⟩, q⟩ := x
    rw [hge]
    exact wpAny_bind (wpAny_builtinsFor g2 b1 b2 b5 b6 b7 b8 (wpAny_bind (wpAny_nsGet g2 (wpAny_bind (wpAny_pure (wpAny_newObj_type q (by size_fits)))))))
  | cons c r =>
    simp only [List.isEmpty_cons, Bool.false_eq_true, if_false]
    refine wpAny_bind (wpAny_newTextTuple (wpAny_bind (wpAny_mono (h _ (.ref s.heap.objs.size) (fun _ _ e => Heap.get?_push_of_some _ e) (by rw [Heap.size_push]; omega)) (fun cv s2 x => ?_) fun _ _ x => x)))
    obtain ⟨g2, ⟨bm, ob, b1, b2, _, _, b5, b6, b7, b8⟩, q⟩ := x
    rw [hge]
    exact wpAny_bind (wpAny_builtinsFor g2 b1 b2 b5 b6 b7 b8 (wpAny_bind (wpAny_nsGet g2 (wpAny_bind (wpAny_pure (wpAny_newObj_type q (by size_fits)))))))
end
section
variable {X : Cx} {pins : List (Addr × Obj)} {σ : L2.St} {H : Hp} {s : Shared}
theorem lamO_new {Z : LF} {tk : Nat} {pm ctv : Value} (I : Inv X pins σ H s) :
    Inv X pins σ (upd H s.heap.objs.size (LamO s.heap.objs.size Z))
      { s with heap := s.heap.push (({ cls := .type "function", data := .func (Z.fd pm ctv) }) : Obj), toks := tk } := by
  refine I.laid (fun b u e => Heap.get?_push_of_some _ e) (Nat.le_refl _) ?_
  have here : (s.heap.push (({ cls := .type "function", data := .func (Z.fd pm ctv) }) : Obj)).get? s.heap.objs.size = some (({ cls := .type "function", data := .func (Z.fd pm ctv) }) : Obj) :=
    Heap.get?_push_size _ rfl
  exact ⟨⟨pm, ctv, here⟩, ⟨_, here⟩, fun g1 g2 ⟨p, t, z⟩ st => ⟨p, t, st _ z⟩⟩

theorem lam_made {T : List (Addr × Str)} {c P : Addr} {params : Arguments} {body : Expr} {scope : Scope} {pos : Pos} {dV : Value} {E : Value → Shared → Prop} {Q : Value → Shared → Prop}
    (I : Inv X pins σ H s) (TB : TabB X.base X.mg c P) (hcode : X.env.code = .ref c)
    (hm : (P, X.env.qual ++ "<lambda>") ∈ T) (hu : ∀ p ∈ T, p.1 = P → p.2 = X.env.qual ++ "<lambda>") (hT : Tabs T H)
    (hcl : ∀ y ∈ scope.names, y.2 = .free → ∃ c, X.env.cells.lookup y.1 = some c)
    (h : ∀ (f c' : Addr) (H1 : Hp) (s' : Shared), Inv X pins σ H1 s' → Grows T H H1 → H f = none →
      H1 f = some (LamO f (mkLF X params body scope c' dV)) → H1 c' = some (CodeO c' (X.env.qual ++ "<lambda>")) → Q (.ref f) s') :
    wpAny (model X.prog X.w) X.A (makeTail "<lambda>" (X.env.qual ++ "<lambda>") params (.expr body) scope X.env dV .none none pos pos.line) Q E s := by
  obtain ⟨qs, hP, tri, among⟩ := (show TabS H P (X.env.qual ++ "<lambda>") from hT _ hm)
  refine tail_d (mg := X.mg) (Pl := P) (closure_ok hcl) I.ok.glob fun h1 ctv k1 z1 => ?_
  have I1 : Inv X pins σ H { s with heap := h1 } := I.kept (t' := s.toks) k1
  have hgP : h1.get? P = some { cls := .none, data := .fields qs } := I1.hok P _ hP
  have hbP := TB.bm.keeps I1.bk
  have CH := TB.code.keeps I1.bk
  cases hit : codeAmong pos qs.toList with
  | some cv =>
    obtain ⟨c', rfl, kc⟩ := among pos cv hit
    refine wpAny_functionCode_hit hcode (CH.code hgP tri) hit ⟨I1.mod.glob.keeps I1.bk, hbP, ?_⟩
    have nF : H h1.objs.size = none := I1.hok.fresh (Nat.le_refl _)
    exact h h1.objs.size c' _ _ (lamO_new (Z := mkLF X params body scope c' dV) (pm := (X.mg "__name__").getD .none) (ctv := ctv) (tk := s.toks) I1) (Grows.upd nF) nF upd_same
      ((upd_ne (ne_of_none kc nF)).trans kc)
  | none =>
    refine wpAny_functionCodeX hcode (CH.code hgP tri) (CH.tab hgP) hit fun c' h' tk hx hge hlt _ hrec htb _ => ?_
    have gl := (I1.mod.glob.keeps I1.bk).extBut hx TB.gP
    have bl : h'.BuiltinsAt X.mg P := by
      obtain ⟨bm, ob, b1, b2, b3, b4, b5, b6⟩ := hbP
      exact ⟨bm, ob, b1, b2, b3, b4, hx _ _ b4 b5, b6⟩
    refine ⟨gl, bl, ?_⟩
    obtain ⟨c2, oc, vs, t, e2, hoc, hd, hv⟩ := hrec
    cases e2
    have nC : H c' = none := I1.hok.fresh hge
    have J := inv_table (q := X.env.qual ++ "<lambda>") (t' := tk) (more := #[rawInt pos.line, rawInt pos.col, .ref c']) (h' := h') I1 hP (fun b o hb e => hx b o hb e) htb.2 hge ⟨oc, vs, t, hoc, hd, hv⟩
    generalize hH2 : L2.upd (L2.upd H P (.tbl (qs ++ #[rawInt pos.line, rawInt pos.col, .ref c']))) c' (CodeO c' (X.env.qual ++ "<lambda>")) = H2 at J
    have kC : H2 c' = some (CodeO c' (X.env.qual ++ "<lambda>")) := by rw [← hH2]; exact upd_same
    have ext : ExtN H H2 := fun b o e n => by
      have nP : b ≠ P := by
        rintro rfl
        exact n qs (Option.some.inj (e.symm.trans hP))
      rw [← hH2, upd_ne (ne_of_none e nC), upd_ne nP]
      exact e
    have eL : (qs ++ #[rawInt pos.line, rawInt pos.col, .ref c']).toList = qs.toList ++ [rawInt pos.line, rawInt pos.col, .ref c'] := by simp
    have tabs2 : Tabs T H2 := by
      intro p hp
      by_cases hb : p.1 = P
      · rw [hu p hp hb, hb]
        refine ⟨qs ++ #[rawInt pos.line, rawInt pos.col, .ref c'], ?_, ?_, ?_⟩
        · rw [← hH2, upd_ne (ne_of_none hP nC), upd_same]
        · rw [eL]
          exact PySem.TriplesOk_snoc _ _ _ _ tri
        · intro p' cv hcv
          rw [eL] at hcv
          rcases among_app _ tri hcv with z | z
          · obtain ⟨c0, f1, f2⟩ := among p' cv z
            exact ⟨c0, f1, ext _ _ f2 codeO_ne⟩
          · exact ⟨c', z, kC⟩
      · obtain ⟨qs', q1, q2, q3⟩ := hT p hp
        refine ⟨qs', ?_, q2, ?_⟩
        · rw [← hH2, upd_ne (ne_of_none q1 nC), upd_ne hb]
          exact q1
        · intro p' cv hcv
          obtain ⟨c0, f1, f2⟩ := q3 p' cv hcv
          exact ⟨c0, f1, ext _ _ f2 codeO_ne⟩
    have nF : H2 h'.objs.size = none := J.hok.fresh (Nat.le_refl _)
    have g2 : Grows T H2 (L2.upd H2 h'.objs.size (LamO h'.objs.size (mkLF X params body scope c' dV))) := Grows.upd nF
    exact h h'.objs.size c' _ _ (lamO_new (Z := mkLF X params body scope c' dV) (pm := (X.mg "__name__").getD .none) (ctv := ctv) (tk := tk) J) (Grows.trans ⟨ext, fun _ => tabs2⟩ g2)
      (I1.hok.fresh (Nat.le_trans hge (Nat.le_of_lt hlt))) upd_same (g2.ext _ _ kC codeO_ne)
end

/-! ### calls -/
section
variable {CX : CXT} {P : Program} {w : World} {K : PySem.W.Frag} {mg : Str → Option Value} {base : Heap} {N ps fr : List Str} {Z : LF} {f : Addr} {k : Nat}
/-- the body's context, at its entry -/
abbrev lcx (CX : CXT) (P : Program) (w : World) (K : PySem.W.Frag) (mg : Str → Option Value) (base : Heap) (N : List Str) (Z : LF) (f : Addr) (A : Around) (outer : List Env) (s : Shared) (H : Hp) (E : XK) : Cx :=
  ncx CX P w K mg base N Z.F f A outer s H E
theorem lam_call {A : Around} {outer : List Env} {s : Shared} {H : Hp} {args : Args} {us : List Value} {vs : List V} {ws : List (Option V)} {Q : VK} {E : XK} {t : TE} {pm ctv : Value}
    (S : NScope N ps fr Z.F.scope) (hr : Room (k + 1) A) (e0 : Env0 P w K mg base A outer s H)
    (ho : s.heap.get? f = some (({ cls := .type "function", data := .func (Z.fd pm ctv) }) : Obj)) (hcr : s.heap.CodeRec (.ref Z.F.c) Z.F.qual)
    (hb : BindsTo s (Z.fd pm ctv) args (ps.zip us)) (hl : vs.length = ps.length) (C : CellsAt Z.F.cl fr ws s.heap H) (r : Vals vs us)
    (hbody : Room k (A.deeper (envF Z.F f s.heap.objs.size)) → PE (lcx CX P w K mg base N Z f A outer s H E) Z.e t) (hq : t (startF N vs ws) H Q) :
    codeAny (model P w) A (.call (.ref f) args) (CR CX outer P w H s Q E) s := by
  have nolim : s.heap.NoLimit := e0.mod.nolimit.keeps fun b o e => (e0.bs b o e).1
  refine PySem.W.kla_callFunE hr.depth ho rfl S.co S.gen rfl hcr ?_
  refine hb _ _ _ _ ?_
  refine wpAny_newFunctionEnv S.nocell (fun ⟨n, _⟩ hy => S.par n (List.of_mem_zip hy).1) (fun h₁ hns hsb => ⟨nolim.fresh _ hsb, ?_⟩) S.kind
  show codeAny _ _ (.expr Z.e (envF Z.F f s.heap.objs.size)) _ _
  have kp : ∀ b o, s.heap.get? b = some o → h₁.get? b = some o :=
    fun b o e => hsb.extBut b o (Nat.ne_of_lt (Heap.lt_size e)) (Heap.get?_push_of_some _ e)
  have J : Inv (lcx CX P w K mg base N Z f A outer s H E) [] (startF N vs ws) H { s with heap := h₁, toks := s.toks + (ps.zip us).length } :=
    inv_startN S hr.hd e0 hl r C hns kp
  refine PySem.W.kla_codeExpr (wpAny_mono ((hbody (hr.deeper _)).run [] _ _ H Q J hq) (fun v s' hh => ?_) fun e s' hh => hh)
  obtain ⟨v', H', J', rv, q⟩ := hh
  exact ⟨v', H', J'.os, J'.bare, J'.base, J'.hok, rv, q⟩
/-- what the heap knows of a lambda at f -/
structure LamAt (H : Hp) (f : Addr) (Z : LF) : Prop where
  o : H f = some (LamO f Z)
  c : H Z.F.c = some (CodeO Z.F.c Z.F.qual)
  d : ∀ T : Addr, Z.dV = .ref T → ∃ xs, H T = some (.tup xs) ∧ xs = [.int 0]
theorem LamAt.ext {H H1 : Hp} (a : LamAt H f Z) (e : ExtN H H1) : LamAt H1 f Z :=
  ⟨e _ _ a.o lamO_ne, e _ _ a.c codeO_ne, fun T h => (a.d T h).elim fun xs q => ⟨xs, e _ _ q.1 (fun ps z => nomatch z), q.2⟩⟩
abbrev SpL := List (Option V) → Hp → VK → XK → Prop
/-- f may be called without arguments; cl, fr: its captured cells; sp: by what they hold -/
def Act (P : Program) (w : World) (K : PySem.W.Frag) (mg : Str → Option Value) (base : Heap) (CX : CXT) (k : Nat) (cl : List (Str × Addr)) (fr : List Str) (sp : SpL) (f : Addr) (H : Hp) : Prop :=
  ∃ Z : LF, Z.F.cl = cl ∧ LamAt H f Z ∧ ∀ (A : Around) (outer : List Env) (s : Shared) (H' : Hp) (ws : List (Option V)) (Q : VK) (E : XK), Room k A → Env0 P w K mg base A outer s H' → LamAt H' f Z →
    CellsAt cl fr ws s.heap H' → sp ws H' Q E → codeAny (model P w) A (.call (.ref f) ⟨[], []⟩) (CR CX outer P w H' s Q E) s
theorem Act.ext {cl : List (Str × Addr)} {sp : SpL} {H H1 : Hp} (a : Act P w K mg base CX k cl fr sp f H) (e : ExtN H H1) : Act P w K mg base CX k cl fr sp f H1 := by
  obtain ⟨Z, h1, h2, h3⟩ := a
  exact ⟨Z, h1, h2.ext e, h3⟩
theorem Act.mono {cl : List (Str × Addr)} {sp sp' : SpL} {H : Hp} {k' : Nat} (a : Act P w K mg base CX k cl fr sp f H) (h : k ≤ k') (i : ∀ ws H Q E, sp' ws H Q E → sp ws H Q E) : Act P w K mg base CX k' cl fr sp' f H := by
  obtain ⟨Z, h1, h2, h3⟩ := a
  exact ⟨Z, h1, h2, fun A outer s H' ws Q E hr e0 l c q => h3 A outer s H' ws Q E (hr.mono h) e0 l c (i _ _ _ _ q)⟩
/-- a lambda without parameters -/
theorem act0 {sp : SpL} {H : Hp} (l : LamAt H f Z) (S : NScope N [] fr Z.F.scope) (hb : ∀ pm ctv : Value, bindArgs (Z.fd pm ctv) ⟨[], []⟩ = pure [])
    (hbody : ∀ (A : Around) (outer : List Env) (s : Shared) (H : Hp) (ws : List (Option V)) (Q : VK) (E : XK), Room k (A.deeper (envF Z.F f s.heap.objs.size)) → ws.length = fr.length → sp ws H Q E →
      ∃ t, PE (lcx CX P w K mg base N Z f A outer s H E) Z.e t ∧ t (startF N [] ws) H Q) : Act P w K mg base CX (k + 1) Z.F.cl fr sp f H := by
  refine ⟨Z, rfl, l, fun A outer s H' ws Q E hr e0 l' C h => ?_⟩
  obtain ⟨pm, ctv, ho⟩ := lamO_at e0.hok l'.o
  obtain ⟨t, ht, hq⟩ := hbody A outer s H' ws Q E (hr.deeper _) C.len h
  exact lam_call (ps := []) (us := []) S hr e0 ho (codeO_at e0.hok l'.c) (.of_eq (hb pm ctv)) rfl C .nil (fun _ => ht) hq
/-- .. of one parameter, whose default is 0 -/
theorem act1 {x : Str} {T : Addr} {sp : SpL} {H : Hp} (l : LamAt H f Z) (hT : Z.dV = .ref T) (S : NScope N [x] fr Z.F.scope)
    (hb : ∀ (pm ctv u : Value), ∃ kk, bindArgs (Z.fd pm ctv) ⟨[], []⟩ = seqItems? Z.dV >>= kk ∧ kk (some #[u]) = pure [(x, u)])
    (hbody : ∀ (A : Around) (outer : List Env) (s : Shared) (H : Hp) (ws : List (Option V)) (Q : VK) (E : XK), Room k (A.deeper (envF Z.F f s.heap.objs.size)) → ws.length = fr.length → sp ws H Q E →
      ∃ t, PE (lcx CX P w K mg base N Z f A outer s H E) Z.e t ∧ t (startF N [.int 0] ws) H Q) : Act P w K mg base CX (k + 1) Z.F.cl fr sp f H := by
  refine ⟨Z, rfl, l, fun A outer s H' ws Q E hr e0 l' C h => ?_⟩
  obtain ⟨pm, ctv, ho⟩ := lamO_at e0.hok l'.o
  obtain ⟨xs, hx, rfl⟩ := l'.d T hT
  obtain ⟨_, its, rv, ht1⟩ := e0.hok T _ hx
  cases rv with
  | @cons _ u _ _ ru rn =>
  cases rn
  obtain ⟨t, ht, hq⟩ := hbody A outer s H' ws Q E (hr.deeper _) C.len h
  obtain ⟨kk, b1, b2⟩ := hb pm ctv u
  obtain ⟨oT, g1, _, n, g3⟩ := ht1
  refine lam_call (ps := [x]) (us := [u]) S hr e0 ho (codeO_at e0.hok l'.c) ?_ rfl C (.cons ru .nil) (fun _ => ht) hq
  exact BindsTo.of_defaults (fd := Z.fd pm ctv) (k := kk) hT g1 g3 b1 b2
end

/-! ### the rules: a lambda as a value -/
section
variable {X : Cx} {T : List (Addr × Str)} {c P : Addr} {params : Arguments} {body : Expr} {scope : Scope} {pos : Pos}
/-- the new lambda stands at f; mk: its words by its code object and its defaults -/
def tLamO (T : List (Addr × Str)) (mk : Addr → Value → LF) : TE := fun σ H Q => Tabs T H ∧ ∀ (f c' : Addr) (H1 : Hp), Grows T H H1 → H f = none → LamAt H1 f (mk c' .none) → Q (.ref f) H1
def tLamD (T : List (Addr × Str)) (mk : Addr → Value → LF) : TE := fun σ H Q => Tabs T H ∧ ∀ (f c' t : Addr) (H1 : Hp), Grows T H H1 → H f = none → LamAt H1 f (mk c' (.ref t)) → Q (.ref f) H1
theorem pe_lam (TB : TabB X.base X.mg c P) (hcode : X.env.code = .ref c)
    (hm : (P, X.env.qual ++ "<lambda>") ∈ T) (hu : ∀ p ∈ T, p.1 = P → p.2 = X.env.qual ++ "<lambda>")
    (hfree : ∀ y ∈ scope.names, y.2 = .free → X.env.scope.names.lookup y.1 = some .cell ∨ X.env.scope.names.lookup y.1 = some .free) (hdef : defaultsOf params X.env = ([], []) := by exact rfl) :
    PE X (.Lambda params body scope pos) (tLamO T (mkLF X params body scope)) := by
  refine ⟨fun pins s σ H Q I ⟨hT, h⟩ => PySem.W.kla_eval hdef ?_⟩
  rw [makeFunction_eq]
  simp only [List.zip_nil_right, List.filterMap_nil, List.isEmpty_nil, if_true, pure_bind]
  refine lam_made I TB hcode hm hu hT (fun y hy e => I.ok.has _ (hfree y hy e)) fun f c' H1 s' I1 g n1 e1 e2 => ?_
  exact ⟨.ref f, H1, I1, rfl, h f c' H1 g n1 ⟨e1, e2, fun t z => nomatch z⟩⟩
/-- a default that is an int: 0 -/
theorem pe_lamD {d : Expr} (TB : TabB X.base X.mg c P) (hcode : X.env.code = .ref c)
    (hm : (P, X.env.qual ++ "<lambda>") ∈ T) (hu : ∀ p ∈ T, p.1 = P → p.2 = X.env.qual ++ "<lambda>")
    (hfree : ∀ y ∈ scope.names, y.2 = .free → X.env.scope.names.lookup y.1 = some .cell ∨ X.env.scope.names.lookup y.1 = some .free)
    (hd : PE X d (tC (.int 0))) (hdef : defaultsOf params X.env = ([eval d X.env], []) := by exact rfl) :
    PE X (.Lambda params body scope pos) (tLamD T (mkLF X params body scope)) := by
  refine ⟨fun pins s σ H Q I ⟨hT, h⟩ => ?_⟩
  rw [arm_eval_Lambda, hdef]
  show wpAny _ X.A (do
    let dv ← evalAll [eval d X.env]
    let kdv ← holding dv (evalAllOpt [])
    makeFunction "<lambda>" (X.env.qual ++ "<lambda>") params (.expr body) scope X.env dv kdv [] pos pos.line) _ _ s
  refine wpAny_bind ?_
  show wpAny _ X.A (eval d X.env >>= fun v => _) _ _ s
  refine wpAny_bind (thn (hd.run pins s σ H (fun v H1 => v = .int 0 ∧ H1 = H) I ⟨rfl, rfl⟩) fun v s1 x => ?_)
  obtain ⟨v0, H1, I1, rv, rfl, rfl⟩ := x
  refine wpAny_bind (wpAny_holding (wpAny_pure (wpAny_pure ?_)))
  refine wpAny_bind (wpAny_holding (wpAny_pure ?_))
  rw [makeFunction_eq]
  simp only [List.zip_nil_right, List.filterMap_nil, List.isEmpty_nil, List.isEmpty_cons, Bool.false_eq_true, if_true, if_false, pure_bind]
  refine wpAny_bind (wpAny_newTextTuple ?_)
  have nT : H1 s1.heap.objs.size = none := I1.hok.fresh (Nat.le_refl _)
  have I2 : Inv X pins σ (upd H1 s1.heap.objs.size (.tup [.int 0])) { s1 with heap := s1.heap.push { cls := .type "tuple", data := .seq [v].toArray } } :=
    I1.laid (t' := s1.toks) (fun b o e => Heap.get?_push_of_some _ e) (Nat.le_refl _) ⟨by decide, [v], .cons rv .nil, _, Heap.get?_push_size _ rfl, rfl, 0, rfl⟩
  have G2 : Grows T H1 (upd H1 s1.heap.objs.size (.tup [.int 0])) := Grows.upd nT
  refine lam_made I2 TB hcode hm hu (G2.tab hT) (fun y hy e => I2.ok.has _ (hfree y hy e)) fun f c' H3 s' I3 g n1 e1 e2 => ?_
  have tT : H3 s1.heap.objs.size = some (.tup [.int 0]) := g.ext _ _ upd_same fun ps z => nomatch z
  have nf : H1 f = none := by
    by_cases z : f = s1.heap.objs.size
    · rw [z]
      exact nT
    · rw [upd_ne z] at n1
      exact n1
  exact ⟨.ref f, H3, I3, rfl, h f c' s1.heap.objs.size H3 (G2.trans g) nf ⟨e1, e2, fun t z => by cases z; exact ⟨_, tT, rfl⟩⟩⟩
end
end Sho
set_option Elab.async false
set_option linter.all false
set_option maxRecDepth 100000
set_option maxHeartbeats 2000000
/-! A try whose clauses may each bind the exception or not. -/
namespace Sho
open PySem PySem.Spec PyProof.Rows L2
/-- a clause: the class, the slot of its name (if it has one), its suite's reading -/
structure Clause where
  c : Value
  i : Option Nat
  ts : Addr → Value → Option Addr → TS
def setO (σ : L2.St) : Option Nat → Option V → L2.St
  | none, _ => σ
  | some i, v => σ.set i v
/-- a suite's ends: the clause's name is gone -/
def endsO (D : Ends) (i : Option Nat) : Ends :=
  { nx := fun σ H => D.nx (setO σ i none) H, rt := D.rt, bk := fun σ H => D.bk (setO σ i none) H, ct := fun σ H => D.ct (setO σ i none) H }
def wClauses (K : PySem.W.Frag) (Wout : WX) (D : Ends) : List Clause → WX
  | [] => Wout
  | C :: r => fun cls d σ H => ∃ b, PySem.W.exmOne K cls C.c = some b ∧
    (b = true → ∀ a, H a = none → C.ts a cls d (endsO D C.i) (setO σ C.i (some (.ref a))) H) ∧ (b = false → wClauses K Wout D r cls d σ H)
def Bound (X : Cx) : Option Str → Option Nat → Prop
  | none, none => True
  | some n, some i => X.N[i]? = some n ∧ X.env.kindOf n = some .local
  | _, _ => False
inductive ClausesOk (X : Cx) : List ExceptHandler → List Clause → Prop
  | nil : ClausesOk X [] []
  | cons {x : Str} {n : Option Str} {C : Clause} {b₀ : Stmt} {suite : List Stmt} {np hp : Pos} {hds : List ExceptHandler} {l : List Clause} (hc : Names X x C.c) (hn : Bound X n C.i)
      (body : ∀ (a : Addr) (oe : Obj) (cls : Value) (d : Option Addr) (pn : List (Addr × Obj)), Zc cls d oe → (∃ vs, oe.data = .fields vs) → PSs (X.suite a ((a, oe) :: pn)) (b₀ :: suite) (C.ts a cls d))
      (rest : ClausesOk X hds l) : ClausesOk X (.ExceptHandler (some (.Name x np)) n (b₀ :: suite) hp :: hds) (C :: l)
/-- an exception that X's frame has caught, in the state s -/
structure Caught (X : Cx) (pins : List (Addr × Obj)) (σ : L2.St) (H : Hp) (B : Heap) (a : Addr) (cls : Value) (d : Option Addr) (s : Shared) : Prop where
  fly : HandSPX.FlyingZ B (X.env :: X.outer) a (Zc cls d) s.heap
  back : ∀ h, HandSPX.FlyingZ B (X.env :: X.outer) a (Zc cls d) h → s.heap.UpToSlots h → Inv X pins σ H { s with heap := h }
  on : ∀ h (W : WX), HandSPX.HeldZ B (X.env :: X.outer) a (Zc cls d) X.env.locals h → s.heap.UpToSlots h → W cls d σ H → XE X W (.ref a) { s with heap := h }
  free : H a = none
section
variable {X : Cx} {pins : List (Addr × Obj)} {σ : L2.St} {H : Hp} {B : Heap} {a : Addr} {cls : Value} {d : Option Addr} {s : Shared}
theorem Caught.inv (c : Caught X pins σ H B a cls d s) : Inv X pins σ H s := c.back s.heap c.fly (.refl _)
theorem Caught.apart (c : Caught X pins σ H B a cls d s) (hf : X.env.frame = some X.env.locals) : a ≠ X.env.locals ∧ a ∉ X.fs := by
  obtain ⟨oe, vs, he, _, hd⟩ := c.fly.there
  have out : a ∉ frs (X.env :: X.outer) := fun hm => by
    obtain ⟨_, o, e, nf⟩ := c.fly.2.2.1.mem hm
    rw [he] at e
    cases e
    exact nf _ hd
  refine ⟨fun z => out (List.mem_filterMap.mpr ⟨X.env, .head _, hf.trans (congrArg some z.symm)⟩), fun hm => ?_⟩
  obtain ⟨e, he2, q⟩ := List.mem_filterMap.mp hm
  exact out (List.mem_filterMap.mpr ⟨e, .tail _ he2, q⟩)
theorem caught_of {xe : Value → Shared → Prop} {W : WX} {u : Value} {Q : Shared → Prop} {E : Value → Shared → Prop} (hs : X.stack = X.env :: X.outer) (hf : X.env.frame = some X.env.locals) (ok : X.Ok)
    (x : XE (X.tr (X.pn ++ pins) xe) W u s)
    (h : ∀ a B σ H cls d h3, u = .ref a → Caught X pins σ H B a cls d { s with heap := h3 } → W cls d σ H → Q { s with heap := h3 }) :
    wpAny (model X.prog X.w) X.A (noteFrame u X.env) (fun _ s2 => wpAny (model X.prog X.w) X.A (setFlight u none) (fun _ s3 => Q s3) E s2) E s := by
  obtain ⟨a, B, s0, pins', σ1, H1, cls, d, rfl, J1, ground, up, sky, na, os, ag, w⟩ := x
  have J : Inv X pins σ1 H1 s0 := J1.ofTry ok
  have sky2 : Sky B (X.env :: X.outer) a (Zc cls d) X.env.locals s.heap := hs ▸ sky
  refine Sky.land Zc.steady (ok.frames.trans (congrArg some hs)) hf sky2 fun h3 fly up3 => ?_
  refine h a B σ1 H1 cls d h3 rfl ⟨fly, fun g fg ug => J.landed ground fg.1 (up.trans (up3.trans ug)) os ag, fun g W2 hg ug w2 => ?_, na⟩ w
  exact ⟨a, B, s0, pins, σ1, H1, cls, d, rfl, J, ground, up.trans (up3.trans ug), .inr (.inr (by rw [hs]; exact hg)), na, os, ag, w2⟩

theorem clauses_run {Wout : WX} {D : Ends} (hs : X.stack = X.env :: X.outer) (hf : X.env.frame = some X.env.locals) (hN : X.N.Nodup) (tk : Takes X Wout) (c : Caught X pins σ H B a cls d s)
    {hds : List ExceptHandler} {l : List Clause} (hk : ClausesOk X hds l) : wClauses X.K Wout D l cls d σ H →
    wpAny (model X.prog X.w) X.A (handleBy (.ref a) X.env hds) (SP X pins D) X.xe s := by
  have ok := c.inv.ok
  induction hk with
  | nil =>
    intro w
    refine wpAny_handleBy_nil ?_
    obtain ⟨_, _, _, oe, vs, T, oT, ts', he, hz, hd, h1, _⟩ := id c.fly
    unfold PySem.passOn
    refine wpAny_bind (wpAny_field he hd h1 ?_)
    rw [if_neg (show ¬ ((Value.ref T == Value.none) = true) by simp)]
    have up : wpAny (model X.prog X.w) X.A (setFlight (.ref a) X.env.frame) (fun _ s4 => wpAny (model X.prog X.w) X.A (throw (.ref a) : Sem PySem.Flow) (SP X pins D) X.xe s4) X.xe s := by
      rw [hf]
      exact HandSPX.setFlight_upZ c.fly fun g hg ug => wpAny_throw (tk _ _ (c.on g Wout hg ug w))
    first
      | exact wpAny_bind (wpAny_pure (wpAny_bind up))
      | exact wpAny_bind up
  | @cons x n C b₀ suite np hp hds2 l2 hc hn body rest ih =>
    intro w
    obtain ⟨b, hb, yes, no⟩ := w
    obtain ⟨oe, vs, he, hz, hd⟩ := c.fly.there
    obtain ⟨nL, nF⟩ := c.apart hf
    have I := c.inv
    have IS := I.suite he hd c.free nL nF
    refine wpAny_handleBy_cons (codeAny_handlers_test ?_) (by intro q; cases q)
    have lt : PySem.W.Looks (model X.prog X.w) s.heap (typeOf (.ref a)) cls := fun A Q E s k q => wpAny_typeOf_ref (k _ _ he) (by rw [hz.1]; exact q)
    have lm := PySem.W.exm_one (M := model X.prog X.w) I.kIn lt hb
    have named : ∀ {Q : Value → Shared → Prop} {E : Value → Shared → Prop}, Q C.c s → wpAny (model X.prog X.w) (X.A.mark (some (.ref a))) (eval (.Name x np) X.env) Q E s := fun {Q E} q => by
      obtain ⟨g1, g2, g3⟩ := hc
      rcases g3 with g3 | ⟨g3, g4, g5⟩
      · exact ld_glob (X := X.suite a ((a, oe) :: (X.pn ++ pins))) IS g1 g3 q g2
      · exact ld_blt (X := X.suite a ((a, oe) :: (X.pn ++ pins))) IS g1 g3 g4 q g5 g2
    refine named (lm.here ?_)
    cases b with
    | false => exact ih (no rfl)
    | true =>
      have go : ∀ g, HandSPX.FlyingZ B (X.env :: X.outer) a (Zc cls d) g → s.heap.UpToSlots g → ∃ oe4 vs4, Zc cls d oe4 ∧ oe4.data = .fields vs4 ∧ Inv (X.suite a ((a, oe4) :: (X.pn ++ pins))) [] σ H { s with heap := g } := fun g fg ug => by
        obtain ⟨oe4, vs4, he4, hz4, hd4⟩ := fg.there
        exact ⟨oe4, vs4, hz4, hd4, (c.back g fg ug).suite he4 hd4 c.free nL nF⟩
      cases n with
      | none =>
        match hi : C.i with
        | some i =>
          rw [hi] at hn
          exact hn.elim
        | none =>
          rw [hi] at yes
          refine codeAny_handlers_suite ?_
          refine HandSPX.lands_againZ c.fly fun g fg ug => ?_
          obtain ⟨oe4, vs4, hz4, hd4, I4⟩ := go g fg ug
          refine wpAny_mono ((body a oe4 cls d (X.pn ++ pins) hz4 ⟨_, hd4⟩).run [] _ _ H _ I4 (yes rfl a c.free)) (fun f s6 r => ?_) fun _ _ z => False.elim z
          cases f with
          | ret u =>
            obtain ⟨v6, σ6, H6, I6, r6, q6⟩ := r
            exact ⟨v6, σ6, H6, I6.unsuite ok, r6, q6⟩
          | next => obtain ⟨σ6, H6, I6, q6⟩ := r; exact ⟨σ6, H6, I6.unsuite ok, q6⟩
          | brk => obtain ⟨σ6, H6, I6, q6⟩ := r; exact ⟨σ6, H6, I6.unsuite ok, q6⟩
          | cont => obtain ⟨σ6, H6, I6, q6⟩ := r; exact ⟨σ6, H6, I6.unsuite ok, q6⟩
      | some n =>
        match hi : C.i with
        | none =>
          rw [hi] at hn
          exact hn.elim
        | some i =>
          rw [hi] at hn yes
          obtain ⟨hni, hln⟩ := hn
          refine codeAny_handlers_suite_as ?_
          refine HandSPX.lands_againZ c.fly fun g fg ug => ?_
          obtain ⟨oe4, vs4, hz4, hd4, I4⟩ := go g fg ug
          refine store_ok (X := X.suite a ((a, oe4) :: (X.pn ++ pins))) (v := .ref a) I4 hN hni (.inl hln) rfl (fun s5 I5 => ?_) (.inr hln)
          refine wpAny_mono ((body a oe4 cls d (X.pn ++ pins) hz4 ⟨_, hd4⟩).run [] s5 _ H _ I5 (yes rfl a c.free)) (fun f s6 r => ?_) fun _ _ z => False.elim z
          have gone : ∀ {σ6 : L2.St} {H6 : Hp} {Q : Shared → Prop}, Inv (X.suite a ((a, oe4) :: (X.pn ++ pins))) [] σ6 H6 s6 → (∀ s7, Inv X pins (σ6.set i none) H6 s7 → Q s7) →
              wpAny (model X.prog X.w) X.A (do bindName X.env n .none; unbindBehindTheSuite X.env n hp) (fun _ s7 => Q s7) X.xe s6 := fun {σ6 H6 Q} I6 k => gone_ok (I6.unsuite ok) hN hni hln k
          cases f with
          | ret u =>
            obtain ⟨v6, σ6, H6, I6, r6, q6⟩ := r
            exact gone I6 fun s7 I7 => ⟨v6, _, H6, I7, r6, q6⟩
          | next => obtain ⟨σ6, H6, I6, q6⟩ := r; exact gone I6 fun s7 I7 => ⟨_, H6, I7, q6⟩
          | brk => obtain ⟨σ6, H6, I6, q6⟩ := r; exact gone I6 fun s7 I7 => ⟨_, H6, I7, q6⟩
          | cont => obtain ⟨σ6, H6, I6, q6⟩ := r; exact gone I6 fun s7 I7 => ⟨_, H6, I7, q6⟩
end
section
variable {X : Cx} {body : List Stmt} {h₀ : ExceptHandler} {hds : List ExceptHandler} {l : List Clause} {pos : Pos} {tb : WX → TS} {Wout : WX}
/-- try: body / except A as e: .. / except B: .. -/
theorem ps_try (hs : X.stack = X.env :: X.outer) (hf : X.env.frame = some X.env.locals) (hN : X.N.Nodup) (tk : Takes X Wout)
    (hb : ∀ (W : WX) (pn : List (Addr × Obj)) (xe : Value → Shared → Prop), Takes (X.tr pn xe) W → PassesOwn (model X.prog X.w) X.A X.env xe → PSs (X.tr pn xe) body (tb W))
    (hk : ClausesOk X (h₀ :: hds) l) : PS X (.Try body (h₀ :: hds) [] [] pos) (fun D σ H => tb (wClauses X.K Wout D l) D σ H) := by
  refine ⟨fun pins s σ H D I h => wpAny_Try_except ?_⟩
  have ok := I.ok
  refine wpAny_mono ((hb (wClauses X.K Wout D l) (X.pn ++ pins) (fun e s₁ => wpAny (model X.prog X.w) X.A (noteFrame e X.env)
    (fun _ s₂ => wpAny (model X.prog X.w) X.A (setFlight e none) (fun _ s₃ => wpAny (model X.prog X.w) X.A (handleBy e X.env (h₀ :: hds)) (SP X pins D) X.xe s₃) X.xe s₂) X.xe s₁)
    (fun u s' x => ?_) PassesOwn.looking).run [] s σ H D (I.toTry _) h) (fun f s1 r => ?_) fun _ _ z => z
  · refine caught_of hs hf ok x fun a B σ1 H1 cls d h3 e c w => ?_
    subst e
    exact clauses_run hs hf hN tk c hk w
  · cases f with
    | ret u =>
      obtain ⟨v6, σ6, H6, I6, r6, q6⟩ := r
      exact ⟨v6, σ6, H6, I6.ofTry ok, r6, q6⟩
    | next => obtain ⟨σ6, H6, I6, q6⟩ := r; exact wpAny_execs_nil ⟨σ6, H6, I6.ofTry ok, q6⟩
    | brk => obtain ⟨σ6, H6, I6, q6⟩ := r; exact ⟨σ6, H6, I6.ofTry ok, q6⟩
    | cont => obtain ⟨σ6, H6, I6, q6⟩ := r; exact ⟨σ6, H6, I6.ofTry ok, q6⟩
end
end Sho
set_option Elab.async false
set_option linter.all false
set_option maxRecDepth 100000
set_option maxHeartbeats 2000000
/-! A list comprehension whose element may rest on what the block's start knows of the heap itself. -/
namespace Sho
open PySem PySem.Spec PyProof.Rows L2
section
variable {X : Cx} {scope : Scope} {fp : List Addr} {own : List (Str × Nat)}
/-- the block's environment, made at s -/
abbrev blkEnv (X : Cx) (scope : Scope) (s : Shared) : Env := compEnvC scope (cellsFrom (s.heap.objs.size + 1) scope.names (cloFrom X.env.cells scope.names [])) s.heap.objs.size X.env
abbrev blkS (scope : Scope) (s : Shared) : Shared := { s with heap := pushCells (s.heap.push { cls := .type "dict", data := .dict #[] }) scope.names }
/-- out of the block: its state is one of the def's -/
theorem blk_out {pins : List (Addr × Obj)} {σ σ' : L2.St} {H H' : Hp} {s s' : Shared} (I : Inv X pins σ H s) (hfp : ∀ b ∈ fp, FpOk X pins H b)
    (J : Inv (X.blk s H scope (blkEnv X scope s) fp) [] σ' H' s') : Inv X pins σ H' s' ∧ ∃ m, s'.heap.Ns s.heap.objs.size m ∧ FpOk X pins H' s.heap.objs.size := by
  obtain ⟨m, hm, _⟩ := J.loc
  refine ⟨I.call' (ch := fp) J.os J.base J.hok J.bare fun b hb => ?_, m, hm, I.fpOk (Nat.le_refl _) J.free⟩
  obtain ⟨_, z1, z2, z3, z4, z5⟩ := hfp b hb
  exact ⟨z3, z1, z4, z5⟩
/-- a tracked list that grows -/
theorem grow {pins : List (Addr × Obj)} {σ : L2.St} {H : Hp} {s : Shared} (I : Inv X pins σ H s) :
    Inv X pins σ (upd H s.heap.objs.size (.lst [])) { s with heap := s.heap.push { cls := .type "list", data := .seq ([] : List Value).toArray } } :=
  I.laid (t' := s.toks) (fun b o e => Heap.get?_push_of_some _ e) (Nat.le_refl _) ⟨Nat.zero_le _, [], 0, .nil, Heap.get?_push_size _ rfl⟩

/-- the block's loop, by the readings of its target, tests and element -/
theorem lc_loop {B : Cx} {R : Result → Shared → Prop} {elt tg iter : Expr} {ifs : List Expr} {pos : Pos} {g : TG} {tt : TT} {te : TE} {J : It} {it D : Addr} {tn : Nat → Heap → Prop} {W : Nat → Nat → Hp → Prop} {σ : L2.St} {vs : List Nat}
    (hc : B.calm = true) (hxe : B.xe = fun _ _ => False) (T : Turn B.prog B.w B.K tg J fp it tn) (pg : PG B tg g) (pt : PTs B ifs tt) (pe : PE B elt te)
    (fpok : ∀ (pins : List (Addr × Obj)) (τ : L2.St) (H : Hp) (s : Shared), Inv B [] τ H s → (∀ b ∈ fp, H b = none) → ∀ b ∈ fp, FpOk B [] H b)
    (turn : ∀ (i m : Nat) (H : Hp), W i m H → (J.stop i H ∧ ∀ s, Inv B [] σ H s → R (.ok .next) s) ∨
      (J.go i H ∧ ∃ Nx : Hp → Prop, (∀ H', Nx H' → ∃ m', m' < m ∧ W (i + 1) m' H') ∧ ∀ x H', J.yld i H x H' → g x σ H' fun σ2 H2 => wipe σ2 vs = σ ∧ tt σ2 H2 fun b H3 =>
        if b = true then te σ2 H3 fun y H4 => ∃ acc, H4 D = some (.lst acc) ∧ acc.length < sizeLine ∧ Nx (upd H4 D (.lst (acc ++ [y]))) else Nx H3))
    {m : Nat} {H : Hp} {s : Shared} (I : Inv B [] σ H s) (st : tn 0 s.heap) (hn : ∀ b ∈ fp, H b = none) (w : W 0 m H) :
    codeAny (model B.prog B.w) B.A (.compLoop (.ListComp elt [⟨tg, iter, ifs, 0⟩] scope pos) 0 (.ref it) (.ref D) B.env) R s := by
  refine compLoop_any (fun n s' => ∃ i H', Inv B [] σ H' s' ∧ tn i s'.heap ∧ (∀ b ∈ fp, H' b = none) ∧ W i n H') ?_ m ⟨0, H, I, st, hn, w⟩
  rintro n s5 ⟨i, H5, I5, st5, n5, w5⟩
  rcases turn i n H5 w5 with ⟨stop, fin⟩ | ⟨go, Nx, less, step⟩
  · refine thnF (T.done B rfl rfl rfl hc i [] s5 σ H5 (fun _ _ => False) I5 (fpok [] _ _ _ I5 n5) st5 stop) fun r s6 x => ?_
    obtain ⟨rfl, I6⟩ := x
    exact fin _ I6
  · refine thnF (T.item B rfl rfl rfl hc i [] s5 σ H5 (fun _ _ => False) I5 (fpok [] _ _ _ I5 n5) st5 go) fun r s6 x => ?_
    obtain ⟨u, rfl, x⟩ := x
    refine thnF x fun _ s7 y => ?_
    obtain ⟨v, H7, I7, rv, yl, st7, n7⟩ := y
    have P7 := I7.pinned (fpok [] _ _ _ I7 n7) (T.obj _ _ st7)
    have pg1 := pg.run _ s7 σ H7 v u _ P7 rv (step v H7 yl)
    rw [hxe] at pg1
    refine thnF pg1 fun _ s8 x8 => ?_
    obtain ⟨σ8, H8, I8, back, q8⟩ := x8
    have pt1 := pt.run _ s8 σ8 H8 _ I8 q8
    rw [hxe] at pt1
    refine thnF pt1 fun b s9 x9 => ?_
    obtain ⟨H9, I9, q9⟩ := x9
    have next : ∀ (H' : Hp) (s' : Shared), Inv B ([] ++ pinsAt fp s7.heap) σ8 H' s' → Nx H' → ∃ m, m < n ∧ ∃ i H', Inv B [] σ H' s' ∧ tn i s'.heap ∧ (∀ b ∈ fp, H' b = none) ∧ W i m H' := fun H' s' I' nx => by
      obtain ⟨m', lt, w'⟩ := less H' nx
      have stay : ∀ b ∈ fp, ∀ o, s7.heap.get? b = some o → s'.heap.get? b = some o ∧ H' b = none := fun b hb o e => by
        have z := I'.pin (b, o) (List.mem_append_right _ (List.mem_append_right _ (mem_pinsAt hb e)))
        exact ⟨z.1, z.2.1⟩
      have lens : σ.length = σ8.length := by rw [← back, wipe_length]
      refine ⟨m', lt, i + 1, H', (I'.unpinned (pins := [])).weak lens (fun j v e => ?_), T.keep _ _ _ st7 fun b hb o e => (stay b hb o e).1, fun b hb => ?_, w'⟩
      · rw [← back] at e
        exact (wipe_some e).1
      · obtain ⟨o, e, _⟩ := T.obj _ _ st7 b hb
        exact (stay b hb o e).2
    cases b with
    | false =>
      rw [if_neg Bool.false_ne_true] at q9
      rw [if_neg Bool.false_ne_true]
      exact next _ _ I9 q9
    | true =>
      rw [if_pos rfl] at q9
      rw [if_pos rfl]
      have pe1 := pe.run _ s9 σ8 H9 _ I9 q9
      rw [hxe] at pe1
      refine thnF pe1 fun z s10 x10 => ?_
      obtain ⟨yv, H10, I10, r10, acc, hD, hz, nx⟩ := x10
      exact app_ok (X := B) I10 hD hz r10 fun s11 I11 => next _ _ I11 nx
/-- P: what the start of the block knows, of the slots and of the state; te: the element's reading, by the slots -/
theorem pe_lcS {P : L2.St → Shared → Hp → Prop} {elt tg iter : Expr} {ifs : List Expr} {pos : Pos} {wi : TI} {g : TG} {tt : TT} {te : L2.St → TE} (hc : X.calm = true) (hN : X.N.Nodup) (hi : PI X tg iter wi) (ok : BlkOk X.N X.env.scope scope own)
    (hP : ∀ (pins : List (Addr × Obj)) (σ : L2.St) (H : Hp) (s : Shared), Inv X pins σ H s → P σ s H)
    (hg : ∀ (s : Shared) (H : Hp) (C : Addr) (cl : List (Str × Addr)) (fp : List Addr), PG (X.blk s H scope (compEnvC scope cl C X.env) fp) tg g)
    (ht : ∀ (s : Shared) (H : Hp) (C : Addr) (cl : List (Str × Addr)) (fp : List Addr), PTs (X.blk s H scope (compEnvC scope cl C X.env) fp) ifs tt)
    (he : ∀ (σ : L2.St) (s : Shared) (H : Hp) (C : Addr) (cl : List (Str × Addr)) (fp : List Addr), P σ s H → (∀ b ∈ fp, ∃ o, s.heap.get? b = some o ∧ ∀ v, o.data ≠ .cell v) → PE (X.blk s H scope (compEnvC scope cl C X.env) fp) elt (te σ)) (hs : ∀ x, foldedSetIterable iter X.env x = pure x := by intro _; rfl) :
    PE X (.ListComp elt [⟨tg, iter, ifs, 0⟩] scope pos) (fun σ H Q => tLc wi g tt (te σ) (own.map (·.2)) σ H Q) := by
  refine ⟨fun pins s σ H Q I h => ?_⟩
  rw [eval_ListComp]
  have clo : ∀ y ∈ scope.names, y.2 = .free → ∃ c, X.env.cells.lookup y.1 = some c := fun y hy e => (ok.free y hy e).elim (fun k => I.ok.has _ (.inl k)) fun k => I.ok.has _ (.inr k)
  refine wpAny_comprehension_free (use := none) rfl hs (closure_ok clo) ok.kind (fun y hy e => (ok.uniq y hy).trans (congrArg some e))
    (thn (hi.run pins s σ H _ I h) fun xv s1 hx => thn hx fun itv s2 h2 => ?_)
  obtain ⟨it, fp, tn, J, H2, rfl, I2, T, st2, f2, q⟩ := h2
  refine wpAny_newObj_type (newEnv_comp ?_) (show 0 ≤ sizeLine by decide)
  have hDn : H2 s2.heap.objs.size = none := I2.hok.fresh (Nat.le_refl _)
  obtain ⟨W, ⟨m0, w0⟩, turn⟩ := q _ hDn
  have I3 := grow I2
  have old : ∀ b ∈ fp, b < s2.heap.objs.size := fun b hb => (T.obj _ _ st2 b hb).elim fun o e => Heap.lt_size e.1
  generalize hD : s2.heap.objs.size = D at *
  generalize hs3 : ({ s2 with heap := s2.heap.push { cls := .type "list", data := .seq ([] : List Value).toArray } } : Shared) = s3 at *
  have k3 : ∀ b o, s2.heap.get? b = some o → s3.heap.get? b = some o := fun b o e => by
    rw [← hs3]
    exact Heap.get?_push_of_some _ e
  have z3 : s3.heap.objs.size = D + 1 := by
    rw [← hs3, ← hD]
    exact Heap.size_push ..
  have st3 : tn 0 s3.heap := T.keep _ _ _ st2 fun b _ o e => k3 b o e
  have f3 : ∀ b ∈ fp, FpOk X pins (upd H2 D (.lst [])) b ∧ b < s3.heap.objs.size := fun b hb =>
    ⟨⟨(upd_ne (Nat.ne_of_lt (old b hb))).trans (f2 b hb).1, (f2 b hb).2⟩, by rw [z3]; exact Nat.lt_succ_of_lt (old b hb)⟩
  generalize hH3 : upd H2 D (.lst []) = H3 at *
  have know := hP pins σ H3 s3 I3
  have I4 := block_start I3 ok hN f3
  have pe := he σ s3 H3 s3.heap.objs.size (cellsFrom (s3.heap.objs.size + 1) scope.names (cloFrom X.env.cells scope.names [])) fp know (T.obj _ _ st3)
  have pg := hg s3 H3 s3.heap.objs.size (cellsFrom (s3.heap.objs.size + 1) scope.names (cloFrom X.env.cells scope.names [])) fp
  have pt := ht s3 H3 s3.heap.objs.size (cellsFrom (s3.heap.objs.size + 1) scope.names (cloFrom X.env.cells scope.names [])) fp
  show codeAny _ _ (.compStart (.ListComp elt [⟨tg, iter, ifs, 0⟩] scope pos) 0 (.ref it) (.ref D) (blkEnv X scope s3)) (compPost (model X.prog X.w) X.A X.xe none _ (.ref D) s3.heap.objs.size) (blkS scope s3)
  have st4 : tn 0 (blkS scope s3).heap := T.keep _ _ _ st3 fun b _ o e => pushCells_keeps _ _ _ _ (Heap.get?_push_of_some _ e)
  have nfp : ∀ b ∈ fp, H3 b = none := fun b hb => (f3 b hb).1.1
  have loop : codeAny (model X.prog X.w) X.A (.compLoop (.ListComp elt [⟨tg, iter, ifs, 0⟩] scope pos) 0 (.ref it) (.ref D) (blkEnv X scope s3))
      (compPost (model X.prog X.w) X.A X.xe none (EP X pins σ Q) (.ref D) s3.heap.objs.size) (blkS scope s3) := by
    refine lc_loop (B := X.blk s3 H3 scope (blkEnv X scope s3) fp) (σ := wipe σ (own.map (·.2))) (vs := own.map (·.2)) (W := W) hc rfl T pg pt pe (fun _ τ H' s' J' n' b hb => ?_) (fun i m H' w' => ?_) I4 st4 nfp w0
    · refine ⟨n' b hb, (J'.ok.exf b hb).1, J'.ok.exfs b hb, .inl hb, fun x c e => (J'.ok.exf b hb).2 x c e, fun p hp => ?_⟩
      exact absurd (show p ∈ ([] : List (Addr × Obj)) ++ [] from hp) (by simp)
    · rcases turn i m H' w' with ⟨a, b⟩ | ⟨a, Nx, b, c⟩
      · refine .inl ⟨a, fun s' J' => ?_⟩
        obtain ⟨I6, m6, ns6, f6⟩ := blk_out I3 (fun b hb => (f3 b hb).1) J'
        obtain ⟨f0, f1, f2, f3', f4, f5⟩ := f6
        exact ⟨m6, ns6, fun h'' sb => ⟨.ref D, H', I6.turned (t' := s'.toks) (fun b o hb e => (sb.2 b hb).trans e) f0 f1 f3' f4 f5, rfl, b⟩⟩
      · exact .inr ⟨a, Nx, b, c⟩
  exact codeAny_compStart_list loop (T.self X.A 0 _ _ _ st4 loop)
end

/-! ### what a comprehension gathers -/
section
/-- the values of the first n turns -/
def gather (f : Nat → Option V) (n : Nat) : List V := (List.range n).filterMap f
theorem gather_zero (f : Nat → Option V) : gather f 0 = [] := rfl
theorem gather_some {f : Nat → Option V} {n : Nat} {y : V} (h : f n = some y) : gather f (n + 1) = gather f n ++ [y] := by
  unfold gather
  rw [List.range_succ, List.filterMap_append]
  simp [h]
theorem gather_none {f : Nat → Option V} {n : Nat} (h : f n = none) : gather f (n + 1) = gather f n := by
  unfold gather
  rw [List.range_succ, List.filterMap_append]
  simp [h]
theorem gather_len (f : Nat → Option V) (n : Nat) : (gather f n).length ≤ n := by
  unfold gather
  exact Nat.le_trans (List.length_filterMap_le ..) (by simp)
/-- over a list: the items kept, each made anew -/
theorem gather_take {α : Type} (xs : List α) (p : α → Option V) : ∀ n, n ≤ xs.length → gather (fun i => (xs[i]?).bind p) n = (xs.take n).filterMap p
  | 0, _ => rfl
  | n + 1, h => by
    have ih := gather_take xs p n (by omega)
    have hn : xs[n]? = some (xs[n]'(by omega)) := List.getElem?_eq_getElem (by omega)
    rw [List.take_add_one, hn, List.filterMap_append, ← ih]
    cases e : p (xs[n]'(by omega)) with
    | none =>
      rw [gather_none (by rw [hn]; exact e)]
      simp [e]
    | some y =>
      rw [gather_some (y := y) (by rw [hn]; exact e)]
      simp [e]
theorem gather_list {α : Type} (xs : List α) (p : α → Option V) : gather (fun i => (xs[i]?).bind p) xs.length = xs.filterMap p := by
  rw [gather_take xs p _ (Nat.le_refl _), List.take_length]
theorem gather_map {α : Type} (xs : List α) (f : α → V) : gather (fun i => (xs[i]?).map f) xs.length = xs.map f := by
  have e : (fun i : Nat => (xs[i]?).map f) = fun i : Nat => (xs[i]?).bind fun x => some (f x) := by
    funext i
    cases xs[i]? <;> rfl
  rw [e, gather_list]
  simp
theorem gather_fn (f : Nat → V) (n : Nat) : gather (fun i => some (f i)) n = (List.range n).map f := by
  unfold gather
  simp
/-- a comprehension whose turns leave what is known: f i, what the i-th turn gives -/
theorem lc_gather {J : It} {n : Nat} {G : Hp → Prop} {Y : Nat → Hp → V → Hp → Prop} (w : Walk J n G Y) {g : TG} {tt : TT} {te : TE} {vs : List Nat} {σ : L2.St} {H1 : Hp} {D : Addr} {Qd : Hp → Prop} (f : Nat → Option V) (hD : H1 D = none) (hz : n ≤ sizeLine)
    (hG : ∀ H, Same H1 H → G H)
    (hs : ∀ i x H H', i < n → Same H1 H → Y i H x H' → ∀ R : Option V → Hp → Prop, (∀ H4, Same H H4 → R (f i) H4) →
      g x (wipe σ vs) H' fun σ2 H2 => wipe σ2 vs = wipe σ vs ∧ tt σ2 H2 fun b H3 => if b = true then te σ2 H3 fun y H4 => R (some y) H4 else R none H3)
    (hd : ∀ H, Same H1 H → H D = some (.lst (gather f n)) → Qd H) :
    ∃ W : Nat → Nat → Hp → Prop, (∃ m, W 0 m (upd H1 D (.lst []))) ∧ ∀ i m H, W i m H →
      (J.stop i H ∧ Qd H) ∨ (J.go i H ∧ ∃ Nx : Hp → Prop, (∀ H', Nx H' → ∃ m', m' < m ∧ W (i + 1) m' H') ∧ ∀ x H', J.yld i H x H' → g x (wipe σ vs) H' fun σ2 H2 => wipe σ2 vs = wipe σ vs ∧ tt σ2 H2 fun b H3 =>
        if b = true then te σ2 H3 fun y H4 => ∃ acc, H4 D = some (.lst acc) ∧ acc.length < sizeLine ∧ Nx (upd H4 D (.lst (acc ++ [y]))) else Nx H3) := by
  have s0 : ∀ o, Same H1 (upd H1 D o) := fun o b u e => by rw [upd_ne (ne_of_none e hD)]; exact e
  refine lc_it w (fun i H => Same H1 H ∧ H D = some (.lst (gather f i))) ⟨s0 _, upd_same⟩ (fun i H _ p => hG H p.1) (fun i x H H' hi p y => ?_) fun H p => hd H p.1 p.2
  obtain ⟨p1, p2⟩ := p
  refine hs i x H H' hi p1 y (fun oy H4 => match oy with
    | some y => ∃ acc, H4 D = some (.lst acc) ∧ acc.length < sizeLine ∧ Same H1 (upd H4 D (.lst (acc ++ [y]))) ∧ upd H4 D (.lst (acc ++ [y])) D = some (.lst (gather f (i + 1)))
    | none => Same H1 H4 ∧ H4 D = some (.lst (gather f (i + 1)))) fun H4 q => ?_
  have p4 := p1.trans q
  cases e : f i with
  | none => exact ⟨p4, by rw [gather_none e]; exact q _ _ p2⟩
  | some y =>
    refine ⟨gather f i, q _ _ p2, Nat.lt_of_le_of_lt (gather_len f i) (Nat.lt_of_lt_of_le hi hz), fun b u z => ?_, by rw [upd_same, gather_some e]⟩
    rw [upd_ne (ne_of_none z hD)]
    exact p4 b u z
/-- .. without tests -/
theorem lc_map {J : It} {n : Nat} {G : Hp → Prop} {Y : Nat → Hp → V → Hp → Prop} (w : Walk J n G Y) {g : TG} {te : TE} {vs : List Nat} {σ : L2.St} {H1 : Hp} {D : Addr} {Qd : Hp → Prop} (f : Nat → Option V) (hD : H1 D = none) (hz : n ≤ sizeLine)
    (hG : ∀ H, Same H1 H → G H)
    (hs : ∀ i x H H', i < n → Same H1 H → Y i H x H' → ∀ R : V → Hp → Prop, (∀ y H4, Same H H4 → f i = some y → R y H4) →
      g x (wipe σ vs) H' fun σ2 H2 => wipe σ2 vs = wipe σ vs ∧ te σ2 H2 R) (hf : ∀ i, i < n → ∃ y, f i = some y)
    (hd : ∀ H, Same H1 H → H D = some (.lst (gather f n)) → Qd H) :
    ∃ W : Nat → Nat → Hp → Prop, (∃ m, W 0 m (upd H1 D (.lst []))) ∧ ∀ i m H, W i m H →
      (J.stop i H ∧ Qd H) ∨ (J.go i H ∧ ∃ Nx : Hp → Prop, (∀ H', Nx H' → ∃ m', m' < m ∧ W (i + 1) m' H') ∧ ∀ x H', J.yld i H x H' → g x (wipe σ vs) H' fun σ2 H2 => wipe σ2 vs = wipe σ vs ∧ tYes σ2 H2 fun b H3 =>
        if b = true then te σ2 H3 fun y H4 => ∃ acc, H4 D = some (.lst acc) ∧ acc.length < sizeLine ∧ Nx (upd H4 D (.lst (acc ++ [y]))) else Nx H3) := by
  refine lc_gather w f hD hz hG (fun i x H H' hi s y R k => ?_) hd
  have z := hs i x H H' hi s y (fun y H4 => R (some y) H4) fun y H4 q e => by
    have := k H4 q
    rw [e] at this
    exact this
  exact z
/-- .. whose turns make new things: Rl i y H, what holds of the i-th -/
theorem lc_rel {J : It} {n : Nat} {G : Hp → Prop} {Y : Nat → Hp → V → Hp → Prop} (w : Walk J n G Y) {g : TG} {te : TE} {vs : List Nat} {σ : L2.St} {H1 : Hp} {D : Addr} {Qd : Hp → Prop} (Rl : Nat → V → Hp → Prop) (hD : H1 D = none) (hz : n ≤ sizeLine)
    (hG : ∀ H, Same H1 H → G H) (stable : ∀ i y H H', (∀ b xs, H b = some (.tup xs) → H' b = some (.tup xs)) → Rl i y H → Rl i y H')
    (hs : ∀ i x H H', i < n → Same H1 H → Y i H x H' → ∀ R : V → Hp → Prop, (∀ y H4, Same H H4 → Rl i y H4 → R y H4) →
      g x (wipe σ vs) H' fun σ2 H2 => wipe σ2 vs = wipe σ vs ∧ te σ2 H2 R)
    (hd : ∀ H ys, Same H1 H → H D = some (.lst ys) → ys.length = n → (∀ i y, ys[i]? = some y → Rl i y H) → Qd H) :
    ∃ W : Nat → Nat → Hp → Prop, (∃ m, W 0 m (upd H1 D (.lst []))) ∧ ∀ i m H, W i m H →
      (J.stop i H ∧ Qd H) ∨ (J.go i H ∧ ∃ Nx : Hp → Prop, (∀ H', Nx H' → ∃ m', m' < m ∧ W (i + 1) m' H') ∧ ∀ x H', J.yld i H x H' → g x (wipe σ vs) H' fun σ2 H2 => wipe σ2 vs = wipe σ vs ∧ tYes σ2 H2 fun b H3 =>
        if b = true then te σ2 H3 fun y H4 => ∃ acc, H4 D = some (.lst acc) ∧ acc.length < sizeLine ∧ Nx (upd H4 D (.lst (acc ++ [y]))) else Nx H3) := by
  have s0 : ∀ o, Same H1 (upd H1 D o) := fun o b u e => by rw [upd_ne (ne_of_none e hD)]; exact e
  refine lc_it w (fun i H => Same H1 H ∧ ∃ ys, H D = some (.lst ys) ∧ ys.length = i ∧ ∀ j y, ys[j]? = some y → Rl j y H) ⟨s0 _, [], upd_same, rfl, fun j y e => by simp at e⟩ (fun i H _ p => hG H p.1) (fun i x H H' hi p y => ?_) fun H p => ?_
  · obtain ⟨p1, ys, p2, p3, p4⟩ := p
    have z := hs i x H H' hi p1 y (fun y H4 => ∃ acc, H4 D = some (.lst acc) ∧ acc.length < sizeLine ∧ Same H1 (upd H4 D (.lst (acc ++ [y]))) ∧
      ∃ ys, upd H4 D (.lst (acc ++ [y])) D = some (.lst ys) ∧ ys.length = i + 1 ∧ ∀ j y', ys[j]? = some y' → Rl j y' (upd H4 D (.lst (acc ++ [y])))) fun y H4 q r => by
        have e4 := q _ _ p2
        have tups : ∀ o b xs, H4 b = some (.tup xs) → upd H4 D o b = some (.tup xs) := fun o b xs e => by
          by_cases hb : b = D
          · rw [hb, e4] at e
            cases e
          · rw [upd_ne hb]
            exact e
        refine ⟨ys, e4, by rw [p3]; exact Nat.lt_of_lt_of_le hi hz, fun b u e => by rw [upd_ne (ne_of_none e hD)]; exact (p1.trans q) b u e, ys ++ [y], upd_same, by simp [p3], fun j y' e => ?_⟩
        by_cases hj : j < ys.length
        · rw [List.getElem?_append_left hj] at e
          exact stable j y' H4 _ (tups _) (stable j y' H H4 (fun b xs e => q _ _ e) (p4 j y' e))
        · rw [List.getElem?_append_right (by omega)] at e
          have ej : j = ys.length := by
            have := (List.getElem?_eq_some_iff.mp e).1
            simp at this
            omega
          subst ej
          simp at e
          subst e
          rw [p3]
          exact stable _ _ H4 _ (tups _) r
    exact z
  · obtain ⟨p1, ys, p2, p3, p4⟩ := p
    exact hd H ys p1 p2 p3 p4
end
end Sho
set_option Elab.async false
set_option linter.all false
set_option maxRecDepth 100000
set_option maxHeartbeats 2000000
/-! A callable that is handed on, called without arguments. -/
namespace Sho
open PySem PySem.Spec PyProof.Rows L2 LamX NdefX
section
variable {X : Cx} {pins : List (Addr × Obj)} {σ : L2.St} {H : Hp} {s : Shared} {cl : List (Str × Addr)} {fr : List Str} {ws : List (Option V)}
theorem cells_un {fs ex : List Addr} {H0 : Hp} {h0 h : Heap} (C : CellsAt cl fr ws h0 H0) (U : Un fs ex H0 H h0 h) (hex : ∀ y c, cl.lookup y = some c → c ∉ ex) : CellsAt cl fr ws h H := by
  have one : ∀ {y : Str} {c : Addr} {v : Option Value}, cl.lookup y = some c → h0.IsCell c v → h.IsCell c v := fun {y c v} e ⟨o, ho, hd⟩ => by
    by_cases hm : c ∈ fs
    · obtain ⟨sl, q⟩ := U.slot c o ho (C.all y c e).1 hm (hex y c e)
      exact ⟨_, q, hd⟩
    · exact ⟨o, U.keep c o ho (C.all y c e).1 hm (hex y c e), hd⟩
  refine ⟨C.len, fun y c e => ?_, C.inj, fun i y hi => ?_⟩
  · obtain ⟨n, v, o, ho, hd⟩ := C.all y c e
    exact ⟨U.free c o ho n (hex y c e), v, one e ⟨o, ho, hd⟩⟩
  · obtain ⟨c, e, k⟩ := C.has i y hi
    refine ⟨c, e, fun v hv => ?_⟩
    obtain ⟨u, r, z⟩ := k v hv
    exact ⟨u, r, one e z⟩
/-- cells of the entry's time stand as they stood -/
theorem cells_kept (I : Inv X pins σ H s) (C : CellsAt cl fr ws X.s_0.heap X.H_0) (hex : ∀ y c, cl.lookup y = some c → c ∉ X.ex) : CellsAt cl fr ws s.heap H := cells_un C I.base hex

/-- x(): x's slot holds a callable -/
def tAct (P : Program) (w : World) (K : PySem.W.Frag) (mg : Str → Option Value) (base : Heap) (CX : CXT) (k : Nat) (i : Nat) (cl : List (Str × Addr)) (fr : List Str) (ws : List (Option V)) (E : L2.St → XK) : TE := fun σ H Q =>
  ∃ f sp, σ[i]? = some (some (.ref f)) ∧ Act P w K mg base CX k cl fr sp f H ∧ sp ws H Q (E σ)
theorem pe_act {CX : CXT} {k i : Nat} {E : L2.St → XK} {x : Str} {p pos : Pos} (hr : Room k X.A) (C : CellsAt cl fr ws X.s_0.heap X.H_0) (hex : ∀ y c, cl.lookup y = some c → c ∉ X.ex) (hx : ∀ σ, PassesAt CX X σ (E σ))
    (hN : X.N[i]? = some x) (hv : Vis X.env.scope x) (hd : (x == ("__debug__" : Str)) = false := by decide) (hcd : (x == ("__classdict__" : Str)) = false := by decide) :
    PE X (.Call (.Name x p) [] [] pos) (tAct X.prog X.w X.K X.mg X.base CX k i cl fr ws E) := by
  refine ⟨fun pins s σ H Q I ⟨f, sp, hs, ⟨Z, ecl, hl, run⟩, h⟩ => ?_⟩
  refine wpAny_Call_Name_kw (thn ((pe_var (pos := p) (i := i) hN hv hd hcd).run pins s σ H (fun v H1 => v = .ref f ∧ H1 = H) I ⟨.ref f, hs, rfl, rfl⟩) fun u s1 y => ?_)
  obtain ⟨v, H1, I1, rv, rfl, rfl⟩ := y
  obtain rfl : u = Value.ref f := rv
  obtain ⟨pm, ctv, ho⟩ := lamO_at I1.hok hl.o
  refine PySem.W.callWith_F0 ⟨_, _, _, _, ho⟩ ?_
  refine wpAny_call (codeAny_mono (run X.A X.stack s1 H1 ws Q (E σ) hr I1.env0 hl (cells_kept I1 C hex) h) fun r s' hq => ?_)
  cases r with
  | error e => exact hx σ pins H1 s1 e s' I1 hq
  | ok fl =>
    cases fl with
    | ret u => exact I1.after hq
    | next => exact hq.elim
    | brk => exact hq.elim
    | cont => exact hq.elim

/-- g(e): a def of the module, its promise told of the very state; know: what the state at the call shows -/
theorem pe_callAt {CX : CXT} {E : XK} {know : L2.St → Shared → Hp → Prop} {sp : L2.St → V → Hp → VK → Prop} {g : Addr} {x : Str} {e : Expr} {ta : TA} {p pos : Pos} (hg : Gl X x) (hm : X.mg x = some (.ref g)) (hk : PySem.W.keepIn X.K (.ref g) = true)
    (hx : Passes CX X E) (hP : ∀ (pins : List (Addr × Obj)) (σ : L2.St) (H : Hp) (s : Shared), Inv X pins σ H s → know σ s H) (ha : PA X [e] ta)
    (run : ∀ (σ : L2.St) (s : Shared) (H : Hp) (u : Value) (v : V) (Q : VK), Env0 X.prog X.w X.K X.mg X.base X.A X.stack s H → know σ s H → RelV v u → sp σ v H Q →
      codeAny (model X.prog X.w) X.A (.call (.ref g) ⟨[u], []⟩) (CR CX X.stack X.prog X.w H s Q E) s)
    (hdb : (x == ("__debug__" : Str)) = false := by decide) (hst : starEach [e] X.env = (false, eval e X.env) :: starEach [] X.env := by rfl) :
    PE X (.Call (.Name x p) [e] [] pos) (fun σ H Q => ta σ H fun vs H1 => ∃ v, vs = [v] ∧ sp σ v H1 Q) := by
  refine ⟨fun pins s σ H Q I h => ?_⟩
  refine wpAny_Call_Name_kw (ld_glob I hg hm ?_ hdb)
  refine PySem.W.callWith_K (h₀ := X.base) I.ok.mod.kin hk (thn (ha.run pos pins s σ H _ I h) fun us s1 y => ?_) hst rfl
  · obtain ⟨vs, H1, I1, rv, v, rfl, q⟩ := y
    cases rv with
    | @cons _ u _ _ ru rn =>
    cases rn
    refine ⟨I1.kIn, wpAny_call (codeAny_mono (run σ s1 H1 u v Q I1.env0 (hP pins σ H1 s1 I1) ru q) fun r s' hq => ?_)⟩
    cases r with
    | error er => exact hx pins σ H1 s1 er s' I1 hq
    | ok fl =>
      cases fl with
      | ret w2 => exact I1.after hq
      | next => exact hq.elim
      | brk => exact hq.elim
      | cont => exact hq.elim
end
end Sho
set_option Elab.async false
set_option linter.all false
set_option maxRecDepth 100000
set_option maxHeartbeats 2000000
/-! Operators of own classes by a promise; instances made with a star. -/
namespace Sho
open PySem PySem.Spec PyProof.Rows L2 StX

section
variable {P : Program} {w : World} {K : PySem.W.Frag} {mg : Str → Option Value} {base : Heap} {CX : CXT} {k : Nat} {f : Addr} {fd : FuncData} {ps : List Str} {sp : Sp}
/-- a def's promise by its values alone -/
theorem fnr_of (F : FnOk P w K mg base CX k f fd ps sp) (hb : Binds K fd ps []) : FnR P w K mg base CX k f sp := by
  intro A outer s H us vs Q E hr e0 r h
  have hl := F.len _ _ _ _ h
  have hk : K.In s.heap := e0.mod.kin.keeps fun b o e => (e0.bs b o e).1
  have b := hb s us hk (by rw [List.append_nil, ← r.length]; exact hl)
  rw [List.append_nil] at b
  exact F.run A outer s H ⟨us, []⟩ us vs Q E hr e0 b r h
end

section
variable {X : Cx} {CX : CXT} {k : Nat} {f C : Addr} {sp : Sp} {E : XK}
theorem run_r {pins : List (Addr × Obj)} {σ : L2.St} {H : Hp} {s : Shared} {Q : VK} {us : List Value} {vs : List V} (F : FnR X.prog X.w X.K X.mg X.base CX k f sp) (hr : Room k X.A) (hx : Passes CX X E)
    (I : Inv X pins σ H s) (r : Vals vs us) (h : sp vs H Q E) : wpAny (model X.prog X.w) X.A (call (.ref f) us) (EP X pins σ Q) X.xe s := by
  refine wpAny_call (codeAny_mono (F X.A X.stack s H us vs Q E hr I.env0 r h) fun r s' hq => ?_)
  cases r with
  | error e => exact hx pins σ H s e s' I hq
  | ok fl =>
    cases fl with
    | ret u => exact I.after hq
    | next => exact False.elim hq
    | brk => exact False.elim hq
    | cont => exact False.elim hq

theorem back_of {pins : List (Addr × Obj)} {σ : L2.St} {Q : VK} {u : Value} {s' : Shared} (h : EP X pins σ Q u s') : PySem.W.CmpBack (EP X pins σ Q) u s' := by
  obtain ⟨v, H', I, r, q⟩ := h
  cases u with
  | notImplemented => exact nomatch (show absV Value.notImplemented = some v from RelV.abs r)
  | _ => exact ⟨v, H', I, r, q⟩

/-- an own instance, the instance's own place in the heap -/
def InsAt (H : Hp) (a C : Addr) : Prop := ∃ dx fs, H a = some (.ins C dx fs)

/-- a op b, both of the class at C, C's own method -/
def rOwn2 (C : Addr) (sp : Sp) (E : XK) : R2 := fun x y H Q => ∃ a b, x = .ref a ∧ y = .ref b ∧ InsAt H a C ∧ InsAt H b C ∧ sp [.ref a, .ref b] H Q E
theorem op_own2 {op : Operator} (F : FnR X.prog X.w X.K X.mg X.base CX k f sp) (hr : Room k X.A) (hx : Passes CX X E) (hc : PySem.W.selfFirst X.K C = true)
    (hs : PySem.W.findIn X.K (.ref C) (PySem.dunder op.info.2) = some (some (.ref f))) (hf : PySem.W.isFn X.K (.ref f) = true) : OpR X (binaryOp op) (rOwn2 C sp E) := by
  rintro pins s σ H x y u v Q I rx ry ⟨a, b, rfl, rfl, ⟨dx, fs, ha⟩, ⟨dy, gs, hb⟩, h⟩
  cases rx
  cases ry
  obtain ⟨mA, J, _⟩ := ins_get I.hok ha
  obtain ⟨mB, J', _⟩ := ins_get I.hok hb
  obtain ⟨od, J, _⟩ := J.look
  obtain ⟨od', J', _⟩ := J'.look
  obtain ⟨m, hF⟩ := I.fr
  exact PySem.W.binop_K hF I.ok.mod.kin J J'.type hc hs hf (thn (run_r (vs := [.ref a, .ref b]) F hr hx I (.cons rfl (.cons rfl .nil)) h) fun u s' q => back_of q)

/-- a op b, a of the class at C, b of the built-in type T -/
def rOwnT (C : Addr) (sp : Sp) (E : XK) (isT : V → Prop) : R2 := fun x y H Q => ∃ a, x = .ref a ∧ isT y ∧ InsAt H a C ∧ sp [.ref a, y] H Q E
theorem op_ownT {op : Operator} {T : String} {isT : V → Prop} {fo ro rc : Option Value} (F : FnR X.prog X.w X.K X.mg X.base CX k f sp) (hr : Room k X.A) (hx : Passes CX X E) (hc : PySem.W.selfFirst X.K C = true)
    (hT : ∀ y v, isT y → RelV y v → typeOf v = pure (.type T))
    (hs : PySem.W.findIn X.K (.ref C) (PySem.dunder op.info.2) = some (some (.ref f))) (hf : PySem.W.isFn X.K (.ref f) = true)
    (hr2 : PySem.W.findIn X.K (.ref C) (dunderR op.info.2) = some rc) (hp : rc = none ∨ ∃ g : Addr, rc = some (.ref g))
    (h1 : PySem.W.findIn X.K (.type T) (PySem.dunder op.info.2) = some fo) (h2 : PySem.W.findIn X.K (.type T) (dunderR op.info.2) = some ro) (hsub : PySem.W.subIn X.K (.type T) (.ref C) = some false) :
    OpR X (binaryOp op) (rOwnT C sp E isT) := by
  rintro pins s σ H x y u v Q I rx ry ⟨a, rfl, ht, ⟨dx, fs, ha⟩, h⟩
  cases rx
  obtain ⟨mA, J, _⟩ := ins_get I.hok ha
  obtain ⟨od, J, _⟩ := J.look
  obtain ⟨m, hF⟩ := I.fr
  exact PySem.W.ksp_binT hF I.ok.mod.kin J (hT _ _ ht ry) hc hs hf hr2 hp h1 h2 hsub (thn (run_r (vs := [.ref a, y]) F hr hx I (.cons rfl (.cons ry .nil)) h) fun u s' q => back_of q)
def isInt : V → Prop := fun y => ∃ i, y = .int i
def isStr : V → Prop := fun y => ∃ i, y = .str i
theorem ty_int : ∀ y v, isInt y → RelV y v → typeOf v = pure (.type "int") := by
  rintro y v ⟨i, rfl⟩ ⟨t, rfl⟩
  rfl
theorem ty_str : ∀ y v, isStr y → RelV y v → typeOf v = pure (.type "str") := by
  rintro y v ⟨i, rfl⟩ ⟨t, rfl⟩
  rfl

/-- x in a, not in: a's own __contains__, which hands back a bool -/
def rOwnIn (C : Addr) (neg : Bool) (sp : Sp) (E : XK) : R2 := fun x y H Q => ∃ a, y = .ref a ∧ InsAt H a C ∧ sp [.ref a, x] H (fun r H' => ∃ c, r = .bl c ∧ Q (.bl (if neg then !c else c)) H') E
theorem op_ownIn (F : FnR X.prog X.w X.K X.mg X.base CX k f sp) (hr : Room k X.A) (hx : Passes CX X E)
    (hs : PySem.W.findIn X.K (.ref C) "__contains__" = some (some (.ref f))) (hf : PySem.W.isFn X.K (.ref f) = true) : OpR X (compareOp .In) (rOwnIn C false sp E) := by
  rintro pins s σ H x y u v Q I rx ry ⟨a, rfl, ⟨dx, fs, ha⟩, h⟩
  cases ry
  obtain ⟨mA, J, _⟩ := ins_get I.hok ha
  obtain ⟨od, J, _⟩ := J.look
  obtain ⟨m, hF⟩ := I.fr
  refine PySem.W.in_K hF I.ok.mod.kin J hs hf (thn (run_r (vs := [.ref a, x]) F hr hx I (.cons rfl (.cons rx .nil)) h) fun r s' q => ?_)
  obtain ⟨v2, H2, I2, r2, c, rfl, q2⟩ := q
  cases r2
  exact wpAny_truthy_bool ⟨.bl _, H2, I2, rfl, q2⟩
theorem op_ownNotIn (F : FnR X.prog X.w X.K X.mg X.base CX k f sp) (hr : Room k X.A) (hx : Passes CX X E)
    (hs : PySem.W.findIn X.K (.ref C) "__contains__" = some (some (.ref f))) (hf : PySem.W.isFn X.K (.ref f) = true) : OpR X (compareOp .NotIn) (rOwnIn C true sp E) := by
  rintro pins s σ H x y u v Q I rx ry ⟨a, rfl, ⟨dx, fs, ha⟩, h⟩
  cases ry
  obtain ⟨mA, J, _⟩ := ins_get I.hok ha
  obtain ⟨od, J, _⟩ := J.look
  obtain ⟨m, hF⟩ := I.fr
  refine PySem.W.notIn_K hF I.ok.mod.kin J hs hf (thn (run_r (vs := [.ref a, x]) F hr hx I (.cons rfl (.cons rx .nil)) h) fun r s' q => ?_)
  obtain ⟨v2, H2, I2, r2, c, rfl, q2⟩ := q
  cases r2
  exact wpAny_truthy_bool ⟨.bl _, H2, I2, rfl, q2⟩

/-- a[i]: a's own __getitem__ -/
def rOwnIx (C : Addr) (sp : Sp) (E : XK) : R2 := fun x y H Q => ∃ a, x = .ref a ∧ InsAt H a C ∧ sp [.ref a, y] H Q E
/-- C(*y), y a list or a tuple -/
def tMakeS (K : PySem.W.Frag) (C : Addr) (sp : Sp) (E : XK) (te : TE) : TE := fun σ H Q => te σ H fun y H1 => ∃ a xs, y = V.ref a ∧ (SqT K H1 a xs ∨ SqL K H1 a xs) ∧ ∀ x dx, H1 x = Option.none → H1 dx = Option.none → dx ≠ x →
  sp (V.ref x :: xs) (upd (upd H1 dx (.own x)) x (.ins C dx [])) (fun v H2 => v = .non ∧ Q (.ref x) H2) E
theorem pe_makeS {x : Str} {e : Expr} {te : TE} {p sp_ pos : Pos} (M : Mk X.K C f) (F : FnR X.prog X.w X.K X.mg X.base CX k f sp) (hr : Room (k + 1) X.A) (hg : Gl X x) (hm : X.mg x = some (.ref C)) (hx : Passes CX X E) (he : PE X e te) (hd : (x == ("__debug__" : Str)) = false := by decide)
    (hst : starEach [.Starred e sp_] X.env = [(true, eval e X.env)] := by rfl) : PE X (.Call (.Name x p) [.Starred e sp_] [] pos) (tMakeS X.K C sp E te) := by
  refine ⟨fun pins s σ H Q I h => ?_⟩
  refine wpAny_Call_Name_kw (ld_glob I hg hm ?_ hd)
  refine PySem.W.callWith_S (h₀ := X.base) I.ok.mod.kin M.kp (thn (he.run pins s σ H _ I h) fun v s1 ⟨y, H1, I1, ry, a, xs, ey, hxs, q⟩ => ?_) hst
  subst ey
  obtain rfl : v = Value.ref a := ry
  exact star_any I1 hxs fun us s2 I2 rv => ⟨I2.kIn, run_makeR M F hr hx I2 rv q⟩
/-- C() -/
theorem pe_makeR0 {x : Str} {p pos : Pos} (M : Mk X.K C f) (F : FnR X.prog X.w X.K X.mg X.base CX k f sp) (hr : Room (k + 1) X.A) (hg : Gl X x) (hm : X.mg x = some (.ref C)) (hx : Passes CX X E) (hdb : (x == ("__debug__" : Str)) = false := by decide) :
    PE X (.Call (.Name x p) [] [] pos) (tMakeR C sp E tNil) := by
  refine ⟨fun pins s σ H Q I h => ?_⟩
  refine wpAny_Call_Name_kw (ld_glob I hg hm ?_ hdb)
  exact PySem.W.callWith_K0 I.kIn M.kp (run_makeR (us := []) M F hr hx I .nil h)
end
end Sho
set_option Elab.async false
set_option linter.all false
namespace Sh1
open PySem L2
abbrev pw : Program := PySem.Challenge.pw_shoepile_k01_invalid_parties
def top (i : Nat) : Stmt := PySem.Challenge.pw_shoepile_k01_invalid_parties.main.body.getD i (.Pass ⟨0, 0, 0, 0⟩)
abbrev sWall : Stmt := top 0
abbrev cPartyError : Stmt := top 2
abbrev cInvalidStay : Stmt := top 3
abbrev sInvInit : Stmt := inClass (top 3) 0
abbrev cUnknownGuest : Stmt := top 4
abbrev sUnkInit : Stmt := inClass (top 4) 0
abbrev cInvalidTick : Stmt := top 5
abbrev sIsName : Stmt := top 9
abbrev sIsWithin : Stmt := top 10
abbrev sIsTick : Stmt := top 11
abbrev sIsStay : Stmt := top 12
abbrev sBottomUp : Stmt := top 13
abbrev sLiftedFrom : Stmt := top 14
abbrev sCheck : Stmt := top 16
abbrev cParty : Stmt := top 17
abbrev sPInit : Stmt := inClass (top 17) 1
abbrev sPEvening : Stmt := inClass (top 17) 2
abbrev sPStays : Stmt := inClass (top 17) 3
abbrev sPNames : Stmt := inClass (top 17) 4
abbrev sPStayOf : Stmt := inClass (top 17) 5
abbrev sPLen : Stmt := inClass (top 17) 6
abbrev sPBool : Stmt := inClass (top 17) 7
abbrev sPIn : Stmt := inClass (top 17) 8
abbrev sPIx : Stmt := inClass (top 17) 9
abbrev sPIter : Stmt := inClass (top 17) 10
abbrev sPEq : Stmt := inClass (top 17) 11
abbrev sPSub : Stmt := inClass (top 17) 12
abbrev sPAdd : Stmt := inClass (top 17) 13
abbrev sPShift : Stmt := inClass (top 17) 14
abbrev sPCall : Stmt := inClass (top 17) 15
abbrev sPCross : Stmt := inClass (top 17) 16
abbrev sPPile : Stmt := inClass (top 17) 17
abbrev sChange : Stmt := top 18
abbrev sStart : Stmt := top 20
abbrev sDrawn : Stmt := top 21
abbrev sSame : Stmt := top 22
abbrev sOut : Stmt := top 23
abbrev sRows : Stmt := top 24
abbrev sLawParty : Stmt := top 25
abbrev sBadStay : Stmt := top 26
abbrev sFirstBad : Stmt := top 27
abbrev sRefused : Stmt := top 28
abbrev sMoved : Stmt := top 29
abbrev sLaw : Stmt := top 30
end Sh1
set_option Elab.async false
set_option linter.all false
set_option maxRecDepth 100000
set_option maxHeartbeats 2000000
namespace Sh1
open PySem L2 Sho
/-- the builtins that the text calls -/
structure Blt (mg : Str → Option Value) : Prop where
  len : mg "len" = none
  all : mg "all" = none
  isi : mg "isinstance" = none
  bool : mg "bool" = none
  tuple : mg "tuple" = none
  list : mg "list" = none
  range : mg "range" = none
  enum : mg "enumerate" = none
  int : mg "int" = none
  sup : mg "super" = none
  sorted : mg "sorted" = none
section
variable {P : Program} {w : World} {K : PySem.W.Frag} {mg : Str → Option Value} {base : Heap}
/-! ### is_name -/
def letter (c : Nat) : Bool := !decide (c < 97) && !decide (122 < c)
def okName (z : Str) : Bool := decide ((1 : Int) ≤ z.length) && (decide ((z.length : Int) ≤ 8) && z.cps.toList.all letter)
theorem one_lt (c d : Nat) : ([c] < [d]) ↔ c < d := by
  rw [List.cons_lt_cons_iff]
  simp
theorem cps_a : (Str.ofString "a").cps.toList = [97] := by decide +kernel
theorem cps_z : (Str.ofString "z").cps.toList = [122] := by decide +kernel
def spIsName : Sp := fun vs H Q _ => ∃ z : Str, vs = [.str z] ∧ z.length ≤ sizeLine ∧ ∀ H', Same H H' → Q (.bl (okName z)) H'
theorem scIsName : FnScope ["word", "letter"] ["word"] (defScope sIsName) := ⟨rfl, rfl, rfl, by decide +kernel, rfl, by decide +kernel, by decide +kernel⟩
theorem ok_isName {f : Addr} {fd : FuncData} {t8 : Tok} (F : Fun K "is_name" "is_name" sIsName f fd) (B : Blt mg) (g8 : mg "LONGEST_NAME" = some (.int 8 t8)) : FnOk P w K mg base CX0 1 f fd ["word"] spIsName := by
  refine F.ok scIsName (fun vs H Q E h => ?_) (fun cdv A outer s H vs Q E hr h => ?_)
  · obtain ⟨z, rfl, _⟩ := h
    rfl
  · obtain ⟨z, rfl, hz, k⟩ := h
    refine ⟨_, pss_one (ps_ret (pe_and (pe_chain op_le op_le pe_int (pe_callB call_len_str (by rfl) B.len PySem.boot_len (pa_cons (pv 0) pa_nil)) (pe_glob (v := .int 8) rfl g8 ⟨_, rfl⟩)) (pe_one
      (pe_callB (cr_all rfl) (by rfl) B.all (by decide +kernel) (pa_cons (pe_lc (own := [("letter", 1)]) (g := gName 1) (tt := tYes) rfl scIsName.nd (pi_str (pv 0)) (blkOk_by (own := [("letter", 1)]) (N := ["word", "letter"]) (sc := defScope sIsName) (by decide +kernel))
        (fun _ _ _ _ _ => pg_name (i := 1) scIsName.nd rfl (Or.inl rfl)) (fun _ _ _ _ _ => pts_nil)
        (fun _ _ _ _ _ => pe_chain op_le_str op_le_str pe_str (pv 1) pe_str)) pa_nil))))), ?_⟩
    refine ⟨_, rfl, z, rfl, hz, _, _, rfl, rfl, _, rfl, ?_⟩
    refine ite2 (fun h1 => ?_) (fun h1 => ?_)
    · refine ⟨_, _, rfl, rfl, _, rfl, ?_⟩
      refine ite2 (fun h2 => ?_) (fun h2 => ?_)
      · refine ⟨_, rfl, z, rfl, fun D hD => ?_⟩
        refine lc_map (walk_str (z := z)) (fun i => (z.cps.toList[i]?).map fun c => .bl (letter c)) hD hz (fun _ _ => trivial) (fun i x H1 H' hi s1 y R k1 => ?_) (fun i hi => ⟨_, by rw [List.getElem?_eq_getElem (by simpa using hi)]; rfl⟩) fun H1 s1 e1 => ?_
        · obtain ⟨rfl, c, hc, rfl⟩ := y
          refine ⟨rfl, _, rfl, _, _, rfl, rfl, _, rfl, ?_⟩
          have fi : Option.map (fun c => V.bl (letter c)) z.cps.toList[i]? = some (.bl (letter c)) := by
            rw [Array.getElem?_toList, hc]
            rfl
          have e1 : decide (({ cps := #[c] } : Str).cps.toList < (Str.ofString "a").cps.toList) = decide (c < 97) := by
            rw [cps_a]
            exact decide_eq_decide.mpr (one_lt c 97)
          have e2 : decide ((Str.ofString "z").cps.toList < ({ cps := #[c] } : Str).cps.toList) = decide (122 < c) := by
            rw [cps_z]
            exact decide_eq_decide.mpr (one_lt 122 c)
          rw [e1]
          by_cases h3 : c < 97
          · rw [decide_eq_true h3]
            refine iteF (k1 _ _ (Same.refl _) ?_)
            rw [fi]
            simp [letter, h3]
          · rw [decide_eq_false h3]
            refine iteT ⟨_, _, rfl, rfl, ?_⟩
            rw [e2]
            refine k1 _ _ (Same.refl _) ?_
            rw [fi]
            simp [letter, h3]
        · refine ⟨D, z.cps.toList.map letter, rfl, ?_, ?_⟩
          · have e2 : gather (fun i => (z.cps.toList[i]?).map fun c => V.bl (letter c)) z.cps.size = (z.cps.toList.map letter).map V.bl := by
              have := gather_map z.cps.toList fun c => V.bl (letter c)
              rw [Array.length_toList] at this
              rw [this, List.map_map]
              rfl
            rw [← e2]
            exact SqL.of e1
          · have e3 : okName z = (z.cps.toList.map letter).all id := by
              unfold okName
              have h1' : (1 : Int) ≤ z.length := of_decide_eq_true h1
              have h2' : (z.length : Int) ≤ 8 := of_decide_eq_true h2
              rw [decide_eq_true h1', decide_eq_true h2', List.all_map]
              rfl
            rw [← e3]
            exact k _ s1
      · have e3 : okName z = false := by
          unfold okName
          have h2' : ¬ (z.length : Int) ≤ 8 := fun q => h2 (decide_eq_true q)
          rw [decide_eq_false h2']
          simp
        have := k H (Same.refl H)
        rw [e3] at this
        exact this
    · have e3 : okName z = false := by
        unfold okName
        have h1' : ¬ (1 : Int) ≤ z.length := fun q => h1 (decide_eq_true q)
        rw [decide_eq_false h1']
        rfl
      have := k H (Same.refl H)
      rw [e3] at this
      exact ⟨_, rfl, iteF this⟩
/-! ### is_tick, is_stay -/
def okTick (n : Int) : Bool := decide (0 ≤ n) && decide (n ≤ 1000000000)
def spIsWithin : Sp := fun vs H Q _ => ∃ n a b : Int, vs = [.int n, .int a, .int b] ∧ Q (.bl (decide (a ≤ n) && decide (n ≤ b))) H
theorem scIsWithin : FnScope ["number", "low", "high"] ["number", "low", "high"] (defScope sIsWithin) := ⟨rfl, rfl, rfl, by decide +kernel, rfl, by decide +kernel, by decide +kernel⟩
theorem ok_isWithin {f : Addr} {fd : FuncData} (F : Fun K "is_within" "is_within" sIsWithin f fd) (B : Blt mg) : FnOk P w K mg base CX0 1 f fd ["number", "low", "high"] spIsWithin := by
  refine F.ok scIsWithin (fun vs H Q E h => ?_) (fun cdv A outer s H vs Q E hr h => ?_)
  · obtain ⟨n, a, b, rfl, _⟩ := h
    rfl
  · obtain ⟨n, a, b, rfl, k⟩ := h
    refine ⟨_, pss_one (ps_ret (pe_and (pe_not (pe_callB call_isi (by rfl) B.isi (by decide +kernel) (pa_cons (pv 0) (pa_cons (pe_bltn (v := .ty "bool") (by rfl) B.bool (by decide +kernel) rfl) pa_nil))))
      (pe_one (pe_chain op_le op_le (pv 1) (pv 0) (pv 2))))), ?_⟩
    refine ⟨_, rfl, .int n, .ty "bool", .type "int", .type "bool", false, rfl, .ty _, .base (.int n), kit_ty (by decide +kernel), _, rfl, _, rfl, iteT ⟨_, rfl, _, rfl, _, _, rfl, rfl, _, rfl, ?_⟩⟩
    refine ite2 (fun h1 => ?_) (fun h1 => ?_)
    · refine ⟨_, rfl, _, _, rfl, rfl, ?_⟩
      rw [h1] at k
      exact k
    · rw [Bool.eq_false_iff.mpr h1] at k
      exact k
def spIsTick : Sp := fun vs H Q _ => ∃ n : Int, vs = [.int n] ∧ Q (.bl (okTick n)) H
theorem scIsTick : FnScope ["number"] ["number"] (defScope sIsTick) := ⟨rfl, rfl, rfl, by decide +kernel, rfl, by decide +kernel, by decide +kernel⟩
theorem ok_isTick {f fW : Addr} {fd fdW : FuncData} {t8 : Tok} (F : Fun K "is_tick" "is_tick" sIsTick f fd) (g9 : mg "LAST_TICK" = some (.int 1000000000 t8))
    (GW : FnOk P w K mg base CX0 1 fW fdW ["number", "low", "high"] spIsWithin) (mW : mg "is_within" = some (.ref fW)) (kW : PySem.W.keepIn K (.ref fW) = true) (bW : Binds K fdW ["number", "low", "high"] []) : FnOk P w K mg base CX0 2 f fd ["number"] spIsTick := by
  refine F.ok scIsTick (fun vs H Q E h => ?_) (fun cdv A outer s H vs Q E hr h => ?_)
  · obtain ⟨n, rfl, _⟩ := h
    rfl
  · obtain ⟨n, rfl, k⟩ := h
    refine ⟨_, pss_one (ps_ret (pe_call GW hr rfl mW kW bW .nil pass0 (pa_cons (pv 0) (pa_cons pe_int (pa_cons (pe_glob (v := .int 1000000000) rfl g9 ⟨_, rfl⟩) pa_nil))))), ?_⟩
    exact ⟨_, rfl, n, 0, 1000000000, rfl, k⟩
def okStay (z : Str) (a b : Int) : Bool := okName z && (okTick a && (okTick b && decide (a < b)))
def spIsStay : Sp := fun vs H Q _ => ∃ (z : Str) (a b : Int), vs = [.str z, .int a, .int b] ∧ z.length ≤ sizeLine ∧ ∀ H', Same H H' → Q (.bl (okStay z a b)) H'
theorem scIsStay : FnScope ["name", "come", "go"] ["name", "come", "go"] (defScope sIsStay) := ⟨rfl, rfl, rfl, by decide +kernel, rfl, by decide +kernel, by decide +kernel⟩
theorem ok_isStay {f fN fT : Addr} {fd fdN fdT : FuncData} (F : Fun K "is_stay" "is_stay" sIsStay f fd) (GN : FnOk P w K mg base CX0 1 fN fdN ["word"] spIsName) (mN : mg "is_name" = some (.ref fN)) (kN : PySem.W.keepIn K (.ref fN) = true) (bN : Binds K fdN ["word"] [])
    (GT : FnOk P w K mg base CX0 2 fT fdT ["number"] spIsTick) (mT : mg "is_tick" = some (.ref fT)) (kT : PySem.W.keepIn K (.ref fT) = true) (bT : Binds K fdT ["number"] []) : FnOk P w K mg base CX0 3 f fd ["name", "come", "go"] spIsStay := by
  refine F.ok scIsStay (fun vs H Q E h => ?_) (fun cdv A outer s H vs Q E hr h => ?_)
  · obtain ⟨z, a, b, rfl, _⟩ := h
    rfl
  · obtain ⟨z, a, b, rfl, hz, k⟩ := h
    refine ⟨_, pss_one (ps_ret (pe_and (pe_call GN (hr.mono (by decide)) rfl mN kN bN .nil pass0 (pa_cons (pv 0) pa_nil)) (pe_and (pe_call GT hr rfl mT kT bT .nil pass0 (pa_cons (pv 1) pa_nil))
      (pe_and (pe_call GT hr rfl mT kT bT .nil pass0 (pa_cons (pv 2) pa_nil)) (pe_one (pe_cmpR op_lt (pv 1) (pv 2) (nomark _))))))), ?_⟩
    have fin : ∀ (c : Bool) (H' : Hp), Same H H' → c = okStay z a b → Q (.bl c) H' := fun c H' s e => by
      rw [e]
      exact k _ s
    refine ⟨_, rfl, z, rfl, hz, fun H1 s1 => ⟨_, rfl, ?_⟩⟩
    refine ite2 (fun h1 => ⟨_, rfl, a, rfl, _, rfl, ?_⟩) (fun h1 => fin _ _ s1 (by unfold okStay; rw [Bool.eq_false_iff.mpr h1]; rfl))
    refine ite2 (fun h2 => ⟨_, rfl, b, rfl, _, rfl, ?_⟩) (fun h2 => fin _ _ s1 (by unfold okStay; rw [Bool.eq_false_iff.mpr h2]; simp))
    refine ite2 (fun h3 => ⟨_, rfl, _, rfl, _, _, rfl, rfl, ?_⟩) (fun h3 => fin _ _ s1 (by unfold okStay; rw [Bool.eq_false_iff.mpr h3]; simp))
    exact fin _ _ s1 (by unfold okStay; rw [h1, h2, h3]; rfl)
end
end Sh1
set_option Elab.async false
set_option linter.all false
set_option maxRecDepth 100000
set_option maxHeartbeats 2000000
/-! enumerate of a tuple. -/
namespace ShE
open PySem
open Sem (wp)
open AutoSeq1 (wpAny_loadPart')
/-- the enumerate of the tuple o at t -/
theorem meets_enumT (t : Addr) (o : Obj) (items : Array Value) (hc : o.cls = .type "tuple") (n : Nat) (hd : o.data = .seq items n) :
    Meets (Builtin.«enumerate.__new__» ⟨[.type "enumerate", .ref t], []⟩) (fun _ R s => s.heap.get? t = some o ∧
      R (.ok (.ret (.ref (s.heap.push { cls := .type "tuple_iterator", data := .fields #[.ref t, .int 0 0] }).objs.size)))
        { s with heap := (s.heap.push { cls := .type "tuple_iterator", data := .fields #[.ref t, .int 0 0] }).push { cls := .type "enumerate", data := .fields #[.none, .bool false, .ref s.heap.objs.size, rawInt 0, .none, .none] } }) :=
  .of_wp fun prog w A R s h => by
    obtain ⟨hp, g, d, tk, os⟩ := s
    obtain ⟨ht, h⟩ := h
    obtain ⟨oc, od, odt, osl⟩ := o
    replace hc : oc = .type "tuple" := hc
    replace hd : odt = .seq items n := hd
    subst hc hd
    have sub := sub_enumerate
    have isT : Heap.IsTuple (Shared.heap ⟨hp, g, d, tk, os⟩) t items := ⟨_, ht, rfl, n, rfl⟩
    wp_walk using wpAny_loadPart' ht
    refine wpAny_stack_any fun st => wpAny_pure ?_
    split
    · rename_i c _ _ _ _ _
      cases (c == Value.type "enumerate")
      all_goals
        wp_walk using wpAny_loadPart' ht, wpAny_pyIter_tuple isT
        exact ⟨_, rfl, h⟩
    · wp_walk using wpAny_loadPart' ht, wpAny_pyIter_tuple isT
      exact ⟨_, rfl, h⟩
section
variable {prog : Program} {w : World} {A : Around} {E : Value → Shared → Prop} {s : Shared}
theorem call_enumT {t : Addr} {items : Array Value} {Q : Value → Shared → Prop} (hT : s.heap.IsTuple t items)
    (h : ∀ h', IsEnum h' (s.heap.objs.size + 1) s.heap.objs.size 0 .none → h'.IsTupleIter s.heap.objs.size t 0 → h'.objs.size = s.heap.objs.size + 2 →
      (∀ b o, s.heap.get? b = some o → h'.get? b = some o) → Q (.ref (s.heap.objs.size + 1)) { s with heap := h' }) :
    wpAny (model prog w) A (call (.type "enumerate") [.ref t]) Q E s := by
  obtain ⟨o, ho, hc, n, hd⟩ := hT
  refine callType_new F.called_enumerate (by decide) (F.typeCall_enumerate_1 _) (F.newCall_enumerate_1 _) (fun obj => F.args_object_init_2 obj _) F.entry_enumerate_new
    (meets_enumT t o items hc n hd) ⟨ho, ?_⟩
  generalize hI : s.heap.push { cls := .type "tuple_iterator", data := .fields #[.ref t, .int 0 0] } = h1
  have z1 : h1.objs.size = s.heap.objs.size + 1 := by
    rw [← hI]
    exact Heap.size_push ..
  have it1 : h1.get? s.heap.objs.size = some { cls := .type "tuple_iterator", data := .fields #[.ref t, .int 0 0] } := by
    rw [← hI]
    exact Heap.get?_push_size _ rfl
  show _ ∧ _
  rw [z1]
  have en : IsEnum (h1.push { cls := .type "enumerate", data := .fields #[.none, .bool false, .ref s.heap.objs.size, rawInt 0, .none, .none] }) (s.heap.objs.size + 1) s.heap.objs.size 0 .none := by
    have := Heap.get?_push_size h1 (o := { cls := .type "enumerate", data := .fields #[.none, .bool false, .ref s.heap.objs.size, rawInt 0, .none, .none] }) rfl
    rw [z1] at this
    exact this
  refine ⟨⟨_, en, rfl⟩, h _ en ⟨_, Heap.get?_push_of_some _ it1, rfl, rfl⟩ (by rw [Heap.size_push, z1]) fun b o x => Heap.get?_push_of_some _ ?_⟩
  rw [← hI]
  exact Heap.get?_push_of_some _ x
end
end ShE

namespace Sho
open PySem PySem.Spec PyProof.Rows L2
/-- enumerate of the tuple at a: pairs of the turn and its item -/
def Iet (K : PySem.W.Frag) (a : Addr) : It :=
  ⟨fun i H => ∃ (xs : List V) (x : V), SqT K H a xs ∧ xs[i]? = some x, fun i H v H' => ∃ T x, v = .ref T ∧ H T = none ∧ H' = upd H T (.tup [.int (i : Nat), x]) ∧ ∀ xs, SqT K H a xs → xs[i]? = some x,
    fun i H => ∃ xs : List V, SqT K H a xs ∧ xs.length = i⟩
theorem walk_enumT {K : PySem.W.Frag} {a : Addr} {xs : List V} : Walk (Iet K a) xs.length (fun H => SqT K H a xs) (YPair (fun i => some (.int (i : Nat))) (fun i => xs[i]?)) := by
  refine ⟨fun i H hi q => ⟨xs, xs[i], q, by simp [hi]⟩, fun H q => ⟨xs, q, rfl⟩, fun i H v H' _ q y => ?_⟩
  obtain ⟨T, x, h1, h2, h3, h4⟩ := y
  exact ⟨T, .int (i : Nat), x, h1, h2, h3, rfl, h4 xs q⟩
theorem turn_enumT {P : Program} {w : World} {K : PySem.W.Frag} {elts : List Expr} {kk : Nat} {tpos : Pos} (a e it : Addr) :
    Turn P w K (.Tuple elts kk tpos) (Iet K a) [e, it] e (fun i h => (∃ old, IsEnum h e it ((i : Nat) : Int) old) ∧ h.IsTupleIter it a i ∧ e ≠ it ∧ a ≠ it ∧ a ≠ e) where
  mem := by simp
  obj := fun i h st b hb => by
    obtain ⟨⟨old, he⟩, ⟨o, ho, hc, hd⟩, _⟩ := st
    have two : b = e ∨ b = it := by simpa using hb
    rcases two with z | z
    · rw [z]
      exact ⟨_, he, fun v q => nomatch q⟩
    · rw [z]
      exact ⟨o, ho, fun v q => by rw [hd] at q; cases q⟩
  keep := fun i h h' st k => let ⟨⟨old, he⟩, hi, n⟩ := st; ⟨⟨old, k e (by simp) _ he⟩, hi.at fun o q => k it (by simp) o q, n⟩
  item := by
    intro X hP hw hK hc i pins s σ H E I hf st hg
    subst hP hw hK
    obtain ⟨⟨old, he⟩, hit, n1, n2, n3⟩ := st
    obtain ⟨xs, x, hq, hx⟩ := hg
    obtain ⟨its, rv, isT, hz⟩ := I.tuple hq
    have DR := Draws.tuple (prog := X.prog) (w := X.w) (A := X.A.in1) (I.ok.hd hc) it a n2 its.toArray
    obtain ⟨u, hu, ru⟩ := rv.get hx
    have lt : i < its.toArray.size := by
      rw [List.size_toArray]
      exact (List.getElem?_eq_some_iff.mp hu).1
    refine wpAny_pyNext_enum_itemD DR he ⟨hit, isT⟩ lt n1 (by simp [n1, Ne.symm n3]) fun u' h' tk hu' ho st' hT hsz hk => ?_
    have eu : u' = u := by
      have hu' : its.toArray[i]? = some u' := hu'
      rw [List.getElem?_toArray, hu] at hu'
      exact (Option.some.inj hu').symm
    subst eu
    have hel : e < s.heap.objs.size := Heap.lt_size he
    have hil : it < s.heap.objs.size := by
      obtain ⟨_, q, _⟩ := hit
      exact Heap.lt_size q
    refine ⟨_, rfl, wpAny_letOwnedTupleGo_enum (s := { s with heap := h', toks := tk + 1 }) ho fun h'' he' sb => ?_⟩
    have hT2 : h''.get? s.heap.objs.size = some { cls := .type "tuple", data := .seq #[.int i tk, u'] } := (sb.2 _ (Nat.ne_of_gt hel)).trans hT
    have new : ObjOk X.prog X.w (upd H s.heap.objs.size (.tup [.int (i : Nat), x])) h'' s.heap.objs.size (.tup [.int (i : Nat), x]) :=
      ⟨by show 2 ≤ sizeLine; decide, [.int i tk, u'], .cons ⟨_, rfl⟩ (.cons ru .nil), ⟨_, hT2, rfl, _, rfl⟩⟩
    have I1 : Inv X pins σ (upd H s.heap.objs.size (.tup [.int (i : Nat), x])) { s with heap := h'', toks := tk + 1 } :=
      I.turnedNew (ch := [e, it]) (fun b ob hb q => (sb.2 b (fun z => hb (by simp [z]))).trans (hk b ob (fun z => hb (by simp [z])) (fun z => hb (by simp [z])) q)) hf (Nat.le_refl _) new
    refine ⟨.ref s.heap.objs.size, _, I1, rfl, ⟨_, x, rfl, I.hok.fresh (Nat.le_refl _), rfl, fun ys hy => by rw [I.tuple_inj hy hq]; exact hx⟩, ⟨⟨u', ?_⟩, st'.1.at fun o q => (sb.2 it (Ne.symm n1)).trans q, n1, n2, n3⟩, fun b hb => ?_⟩
    · have z : ((i + 1 : Nat) : Int) = (i : Int) + 1 := by omega
      rw [z]
      exact he'
    · have old' : b < s.heap.objs.size := by
        have two : b = e ∨ b = it := by simpa using hb
        rcases two with z | z <;> rw [z] <;> assumption
      rw [upd_ne (Nat.ne_of_lt old')]
      exact (hf b hb).1
  done := by
    intro X hP hw hK hc i pins s σ H E I hf st hg
    subst hP hw hK
    obtain ⟨⟨old, he⟩, hit, n1, n2, n3⟩ := st
    obtain ⟨xs, hq, hx⟩ := hg
    obtain ⟨its, rv, isT, hz⟩ := I.tuple hq
    have DR := Draws.tuple (prog := X.prog) (w := X.w) (A := X.A.in1) (I.ok.hd hc) it a n2 its.toArray
    obtain ⟨f0, f1, f2, f3, f4, f5⟩ := hf it (by simp)
    have ei : i = its.toArray.size := by
      rw [List.size_toArray, ← rv.length]
      exact hx.symm
    refine wpAny_pyNext_enum_endD DR he (show _ from ei ▸ ⟨hit, isT⟩) fun h' eb => ⟨rfl, I.turned (t' := s.toks) (fun b o hb q => eb b o hb q) f0 f1 f3 f4 f5⟩
  self := fun A i s Q E st h => let ⟨⟨_, he⟩, _⟩ := st; wpAny_pyIter_enum he h
def iEnumT (K : PySem.W.Frag) (ta : TA) : TI := fun σ H R => ta σ H fun vs H1 => ∃ a xs, vs = [.ref a] ∧ SqT K H1 a xs ∧ R (Iet K a) H1
theorem pi_enumT {X : Cx} {e : Expr} {ta : TA} {p pos tpos : Pos} {elts : List Expr} {kk : Nat} (hg : Gl X "enumerate") (hm : X.mg "enumerate" = none) (ha : PA X [e] ta) (hs : starEach [e] X.env = [(false, eval e X.env)] := by rfl) :
    PI X (.Tuple elts kk tpos) (.Call (.Name "enumerate" p) [e] [] pos) (iEnumT X.K ta) := by
  refine ⟨fun pins s σ H R I h => ?_⟩
  refine Call_ (ld_blt I hg hm boot_enumerate (PyProof.Rows.callWith_type1 (thn (ha.run pos pins s σ H _ I h) fun us s1 y => ?_) hs rfl))
  obtain ⟨vs, H1, I1, r1, a, xs, rfl, hq, q⟩ := y
  cases r1 with
  | cons r rr =>
    cases rr
    cases r
    obtain ⟨its, rv, isT, hz⟩ := I1.tuple hq
    have lt : a < s1.heap.objs.size := by
      obtain ⟨o, ho, _⟩ := isT
      exact Heap.lt_size ho
    refine ShE.call_enumT isT fun h' he hit hsz hk => wpAny_pyIter_enum he ?_
    have I2 : Inv X pins σ H1 { s1 with heap := h' } := I1.kept (t' := s1.toks) hk
    refine ⟨s1.heap.objs.size + 1, [s1.heap.objs.size + 1, s1.heap.objs.size], _, _, H1, rfl, I2, turn_enumT a (s1.heap.objs.size + 1) s1.heap.objs.size,
      ⟨⟨.none, he⟩, hit, Nat.succ_ne_self _, Nat.ne_of_lt lt, Nat.ne_of_lt (Nat.lt_succ_of_lt lt)⟩, fun b hb => ?_, q⟩
    have le : s1.heap.objs.size ≤ b := by
      have two : b = s1.heap.objs.size + 1 ∨ b = s1.heap.objs.size := by simpa using hb
      rcases two with z | z
      · rw [z]
        exact Nat.le_succ _
      · rw [z]
        exact Nat.le_refl _
    exact I1.fpOk le (I1.hok.fresh le)
end Sho
set_option Elab.async false
set_option linter.all false
set_option maxRecDepth 100000
set_option maxHeartbeats 2000000
namespace Sh1
open PySem L2 Sho NdefX
abbrev nfInv (cc cda : Addr) : NF := ⟨"__init__", "InvalidStay.__init__", defArgs sInvInit, defBody sInvInit, defScope sInvInit, [("__class__", cc)], cda⟩
abbrev nfUnk (cc cda : Addr) : NF := ⟨"__init__", "UnknownGuest.__init__", defArgs sUnkInit, defBody sUnkInit, defScope sUnkInit, [("__class__", cc)], cda⟩
/-- an own error that stores one field -/
structure ErrC (P : Program) (K : PySem.W.Frag) (mg : Str → Option Value) (x fld : Str) (F : Addr → Addr → NF) (C : Addr) : Prop where
  txt : ∃ f cc cda, SupTxt P K mg (F cc cda) f cc C ∧ PySem.W.findIn K (.ref C) "__init__" = some (some (.ref f)) ∧ PySem.W.typeIn K (.ref f) = some (.type "function")
  cls : SupCls K C C
  xf : XfC K C
  no : PySem.W.findIn K (.ref C) fld = some none
  gm : mg x = some (.ref C)
  exm : PySem.W.exmOne K (.ref C) (.ref C) = some true
section
variable {X : Cx} {CX : CXT} {C : Addr} {k : Nat} {kws : List Keyword} {te : TA} {p pos : Pos}
theorem tells_len {v : V} (h : Tells v) : (∃ y : Str, v = .str y ∧ y.length ≤ 100000) ∨ ∃ i : Int, v = .int i ∧ i.natAbs.log2 < 1920 ∧ (Str.ofString (toString i)).length ≤ 100000 := by
  rcases h with ⟨y, rfl, hy⟩ | ⟨i, rfl, hi⟩
  · exact .inl ⟨y, rfl, hy⟩
  · exact .inr ⟨i, rfl, hi, Nat.le_trans (PyProof.Rows.int_text_len_1921 hi) (by decide)⟩
theorem small_cat {a b : Str} {n m : Nat} (ha : a.length ≤ n) (hb : b.length ≤ m) : (a ++ b).length ≤ n + m := by
  rw [PySem.Str.length_append]
  omega
theorem pmk_inv (EC : ErrC X.prog X.K X.mg "InvalidStay" "index" nfInv C) (hr : Room (k + 2) X.A) (hx : Passes CX X (fun _ _ _ => False)) (hg : Gl X "InvalidStay")
    (hkw : PK X kws te) (hall : (backToKw pos (keywordEach kws X.env)).all (·.1.isSome) = true) (hks : (backToKw pos (keywordEach kws X.env)).filterMap (·.1) = [("index" : Str)])
    (hpl : ((backTo pos (starEach [] X.env)).any (·.1) || (backToKw pos (keywordEach kws X.env)).any (·.1.isNone)) = false) : PMk X (.Call (.Name "InvalidStay" p) [] kws pos) (tMkW C "index" te) := by
  obtain ⟨f, cc, cda, T, iC, tI⟩ := EC.txt
  have S : NScope ["self", "index", "__class__"] ["self", "index"] ["__class__"] (defScope sInvInit) := nscope_by (by decide +kernel)
  refine pmk_kw (F := nfInv cc cda) (fld := "index") (k := k) T EC.cls EC.xf EC.no iC tI S hr hx hg EC.gm hkw hall hks hpl rfl (fun s doc pm an ct xa u => .of_eq rfl) (fun A outer s H E xa v hv => ?_) (fun L => rfl) (fun L => rfl) (fun L => rfl)
  refine ⟨_, pa_cons (pe_joined (.cons pe_str (.cons (pe_fmt (pv 1)) (.cons pe_str .nil)))) pa_nil, fun R hR => ?_⟩
  have e0 : (Str.empty ++ Str.ofString "stay ").length ≤ 10 := by decide +kernel
  have e2 : (Str.ofString " is not allowed").length ≤ 20 := by decide +kernel
  refine ⟨_, rfl, Nat.le_trans e0 (by decide), v, rfl, ?_⟩
  rcases tells_len hv with ⟨y, rfl, hy⟩ | ⟨i, rfl, hi, hl⟩
  · have l1 := small_cat e0 hy
    have l2 := small_cat l1 e2
    exact .inl ⟨y, rfl, Nat.le_trans hy (by decide), y, rfl, Nat.le_trans l1 (by decide), _, rfl, Nat.le_trans l2 (by decide), hR _⟩
  · have l1 := small_cat e0 hl
    have l2 := small_cat l1 e2
    exact .inr ⟨i, rfl, hi, _, rfl, Nat.le_trans l1 (by decide), _, rfl, Nat.le_trans l2 (by decide), hR _⟩
theorem pmk_unk (EC : ErrC X.prog X.K X.mg "UnknownGuest" "name" nfUnk C) (hr : Room (k + 2) X.A) (hx : Passes CX X (fun _ _ _ => False)) (hg : Gl X "UnknownGuest")
    (hkw : PK X kws te) (hall : (backToKw pos (keywordEach kws X.env)).all (·.1.isSome) = true) (hks : (backToKw pos (keywordEach kws X.env)).filterMap (·.1) = [("name" : Str)])
    (hpl : ((backTo pos (starEach [] X.env)).any (·.1) || (backToKw pos (keywordEach kws X.env)).any (·.1.isNone)) = false) : PMk X (.Call (.Name "UnknownGuest" p) [] kws pos) (tMkW C "name" te) := by
  obtain ⟨f, cc, cda, T, iC, tI⟩ := EC.txt
  have S : NScope ["self", "name", "__class__"] ["self", "name"] ["__class__"] (defScope sUnkInit) := nscope_by (by decide +kernel)
  refine pmk_kw (F := nfUnk cc cda) (fld := "name") (k := k) T EC.cls EC.xf EC.no iC tI S hr hx hg EC.gm hkw hall hks hpl rfl (fun s doc pm an ct xa u => .of_eq rfl) (fun A outer s H E xa v hv => ?_) (fun L => rfl) (fun L => rfl) (fun L => rfl)
  refine ⟨_, pa_cons (pe_joined (.cons pe_str (.cons (pe_fmt (pv 1)) .nil))) pa_nil, fun R hR => ?_⟩
  have e0 : (Str.empty ++ Str.ofString "there is no guest ").length ≤ 30 := by decide +kernel
  refine ⟨_, rfl, Nat.le_trans e0 (by decide), v, rfl, ?_⟩
  rcases tells_len hv with ⟨y, rfl, hy⟩ | ⟨i, rfl, hi, hl⟩
  · have l1 := small_cat e0 hy
    exact .inl ⟨y, rfl, Nat.le_trans hy (by decide), y, rfl, Nat.le_trans l1 (by decide), hR _⟩
  · have l1 := small_cat e0 hl
    exact .inr ⟨i, rfl, hi, _, rfl, Nat.le_trans l1 (by decide), hR _⟩
end
end Sh1
set_option Elab.async false
set_option linter.all false
set_option maxRecDepth 100000
set_option maxHeartbeats 2000000
namespace Sh1
open PySem L2 Sho NdefX
/-! ### stays as data -/
abbrev Stay := Str × Int × Int
def StayV (H : Hp) (v : V) (x : Stay) : Prop := ∃ t, v = .ref t ∧ H t = some (.tup [.str x.1, .int x.2.1, .int x.2.2])
abbrev StaysV (H : Hp) (vs : List V) (xs : List Stay) : Prop := PySem.Paired (StayV H) vs xs
theorem StayV.same {H H' : Hp} {v : V} {x : Stay} (s : Same H H') (h : StayV H v x) : StayV H' v x := by
  obtain ⟨t, e, ht⟩ := h
  exact ⟨t, e, s _ _ ht⟩
theorem StaysV.same {H H' : Hp} (s : Same H H') : ∀ {vs : List V} {xs : List Stay}, StaysV H vs xs → StaysV H' vs xs
  | _, _, .nil => .nil
  | _, _, .cons h r => .cons (h.same s) (StaysV.same s r)
theorem pair_len {α β : Type} {R : α → β → Prop} : ∀ {as : List α} {bs : List β}, PySem.Paired R as bs → as.length = bs.length
  | _, _, .nil => rfl
  | _, _, .cons _ r => congrArg Nat.succ (pair_len r)
theorem pair_get {α β : Type} {R : α → β → Prop} : ∀ {as : List α} {bs : List β} {i : Nat} {a : α}, PySem.Paired R as bs → as[i]? = some a → ∃ b, bs[i]? = some b ∧ R a b
  | _, _, i, a, .nil, h => by simp at h
  | _, _, 0, a, .cons h r, e => by
    simp at e
    subst e
    exact ⟨_, rfl, h⟩
  | _, _, i + 1, a, .cons h r, e => by
    simp at e
    obtain ⟨b, e2, r2⟩ := pair_get r e
    exact ⟨b, by simpa using e2, r2⟩
theorem log_small {i : Nat} (h : i ≤ sizeLine) : ((i : Int)).natAbs.log2 < 1920 := by
  rw [Int.natAbs_natCast]
  rw [sizeLine_eq] at h
  by_cases z : i = 0
  · rw [z]
    decide
  · refine (Nat.log2_lt z).mpr (Nat.lt_of_le_of_lt h ?_)
    exact Nat.lt_of_lt_of_le (show 16777216 < 2 ^ 25 by decide) (Nat.pow_le_pow_right (by decide) (by decide))
/-! ### tests whose answers are known -/
theorem ans_or {A B : TT} {σ : L2.St} {H : Hp} {Q : Bool → Hp → Prop} (a b : Bool) (hA : ∀ R : Bool → Hp → Prop, (∀ H', Same H H' → R a H') → A σ H R)
    (hB : ∀ H1, Same H H1 → a = false → ∀ R : Bool → Hp → Prop, (∀ H', Same H1 H' → R b H') → B σ H1 R) (hQ : ∀ H', Same H H' → Q (a || b) H') : tOr A B σ H Q := by
  refine hA _ fun H1 s1 => ?_
  cases a with
  | true =>
    refine iteT ?_
    have := hQ H1 s1
    rw [Bool.true_or] at this
    exact this
  | false =>
    refine iteF (hB H1 s1 rfl _ fun H2 s2 => ?_)
    have := hQ H2 (s1.trans s2)
    rw [Bool.false_or] at this
    exact this
/-! ### the first invalid stay -/
def badStay (i : Nat) (seen : List Str) (x : Stay) : Bool := decide ((i : Int) = 24) || (seen.any (fun y => y == x.1) || !okStay x.1 x.2.1 x.2.2)
def firstBadFrom : Nat → List Str → List Stay → Option Nat
  | _, _, [] => none
  | i, seen, x :: r => if badStay i seen x = true then some i else firstBadFrom (i + 1) (seen ++ [x.1]) r
def firstBad (xs : List Stay) : Option Nat := firstBadFrom 0 [] xs
theorem inV_strs (z : Str) (l : List Str) : inV (.str z) (l.map V.str) = l.any (fun y => y == z) := by
  unfold inV
  rw [List.any_map]
  rfl
theorem flat_strs (l : List Str) : (l.map V.str).all flatV = true := by
  rw [List.all_map]
  exact List.all_eq_true.mpr fun _ _ => rfl
section
variable {P : Program} {w : World} {K : PySem.W.Frag} {mg : Str → Option Value} {base : Heap}
/-- names of a reasonable length -/
def Short (xs : List Stay) : Prop := ∀ x ∈ xs, x.1.length ≤ 100000 ∧ x.1.cps.all (· < 0x110000) = true
def spCheck (CI : Addr) : Sp := fun vs H Q E => ∃ (a : Addr) (ws : List V) (xs : List Stay), vs = [.ref a, .int 24] ∧ H a = some (.tup ws) ∧ StaysV H ws xs ∧ Short xs ∧ xs.length ≤ sizeLine ∧
  (firstBad xs = none → ∀ H', Same H H' → Q .non H') ∧
  ∀ i, firstBad xs = some i → ∀ (H' : Hp) (d : Addr), Same H H' → H d = none → H' d = some (.xd [(("index" : Str), .int (i : Nat))]) → E (.ref CI) (some d) H'
theorem scCheck : FnScope ["stays", "most", "names", "index", "name", "come", "go"] ["stays", "most"] (defScope sCheck) := ⟨rfl, rfl, rfl, by decide +kernel, rfl, by decide +kernel, by decide +kernel⟩
theorem ok_check {f fS CI : Addr} {fd fdS : FuncData} (F : Fun K "_check_stays" "_check_stays" sCheck f fd) (B : Blt mg) (EC : ErrC P K mg "InvalidStay" "index" nfInv CI)
    (GS : FnOk P w K mg base CX0 3 fS fdS ["name", "come", "go"] spIsStay) (mS : mg "is_stay" = some (.ref fS)) (kS : PySem.W.keepIn K (.ref fS) = true) (bS : Binds K fdS ["name", "come", "go"] []) :
    FnOk P w K mg base (L2.CX P w) 4 f fd ["stays", "most"] (spCheck CI) := by
  refine F.okX scCheck (fun vs H Q E h => ?_) (fun cdv A outer s H vs Q E hr h => ?_)
  · obtain ⟨a, ws, xs, rfl, _⟩ := h
    rfl
  · obtain ⟨a, ws, xs, rfl, ha, hxs, hsh, hz, kOk, kBad⟩ := h
    have nd := scCheck.nd
    refine ⟨_, pss_cons (ps_set (i := 2) nd rfl (Or.inl rfl) (pe_lst pa_nil)) (pss_one (ps_for (passes_of rfl) rfl (pi_enumT (by rfl) B.enum (pa_cons (pv 0) pa_nil))
      (pg_tup rfl (pgs_cons (pg_name (i := 3) nd rfl (Or.inl rfl)) (pgs_cons (pg_tup rfl (pgs_cons (pg_name (i := 4) nd rfl (Or.inl rfl)) (pgs_cons (pg_name (i := 5) nd rfl (Or.inl rfl)) (pgs_cons (pg_name (i := 6) nd rfl (Or.inl rfl)) pgs_nil)))) pgs_nil)))
      (pss_cons (ps_if (PW.pt (pw_or (pt_cmpR op_eq (pv 3) (pv 1) (nomark _)) (pw_or (pt_cmpR op_in_seq (pv 4) (pv 2) rfl) (pw_or1 (pt_not (pt_val (pe_call GS hr rfl mS kS bS .nil pass0 (pa_cons (pv 4) (pa_cons (pv 5) (pa_cons (pv 6) pa_nil))))))))))
          (pss_one (ps_raise rfl (takes_of rfl rfl rfl rfl) (pmk_inv (k := 0) EC (hr.mono (by decide)) passL (by rfl) (pk_cons (pv 3) pk_nil) rfl rfl rfl))) pss_nil)
        (pss_one (ps_expr (pe_bm PySem.F.plainAttrs_list PySem.F.slot_list_append PySem.F.type_list_append mt_append (pv 2) (pa_cons (pv 4) pa_nil))))))), ?_⟩
    refine ⟨Nat.zero_le _, fun L hL => ?_⟩
    have s1 : Same H (upd H L (.lst [])) := fun b o e => by rw [upd_ne (ne_of_none e hL)]; exact e
    refine ⟨_, rfl, a, ws, rfl, SqT.of (s1 _ _ ha), for_it walk_enumT (fun i σ H2 => ∃ o3 o4 o5 o6, σ = [some (.ref a), some (.int 24), some (.ref L), o3, o4, o5, o6] ∧ Same H H2 ∧
      H2 L = some (.lst ((xs.take i).map fun x => .str x.1)) ∧ firstBadFrom i ((xs.take i).map fun x => x.1) (xs.drop i) = firstBad xs)
      ⟨none, none, none, none, rfl, s1, upd_same, rfl⟩ (fun i σ H2 _ ⟨_, _, _, _, _, s2, _⟩ => SqT.of (s2 _ _ ha)) ?_ ?_⟩
    · rintro i y σ H2 H3 hi ⟨o3, o4, o5, o6, rfl, s2, hL2, hb⟩ ⟨T, y1, y2, rfl, hT, rfl, e1, e2⟩
      cases e1
      obtain ⟨x, hx, t, rfl, ht⟩ := pair_get hxs e2
      have s3 : Same H2 (upd H2 T (.tup [.int (i : Nat), .ref t])) := fun b o e => by rw [upd_ne (ne_of_none e hT)]; exact e
      have hx1 : x.1.length ≤ 100000 := (hsh x (List.mem_of_getElem? hx)).1
      refine ⟨T, _, rfl, SqT.of upd_same, rfl, _, _, rfl, _, _, rfl, t, _, rfl, SqT.of (s3 _ _ (s2 _ _ ht)), rfl, _, _, rfl, _, _, rfl, _, _, rfl, rfl, rfl, ?_⟩
      have hL3 := s3 _ _ hL2
      refine ans_or (decide ((i : Int) = 24)) (((xs.take i).map fun x => x.1).any (fun y => y == x.1) || !okStay x.1 x.2.1 x.2.2) (fun R h => ⟨_, rfl, _, rfl, rfl, _, rfl, ?_⟩) (fun H4 s4 _ R h => ?_) fun H4 s4 => ?_
      · have e : decide (V.int (i : Int) = V.int 24) = decide ((i : Int) = 24) := by
          rw [dec_int]
          rfl
        rw [e]
        exact h _ (Same.refl _)
      · refine ans_or _ _ (fun R h => ⟨_, rfl, _, rfl, L, _, rfl, .inl (SqL.of (s4 _ _ hL3)), rfl, ?_, _, rfl, ?_⟩) (fun H5 s5 _ R h => ⟨_, rfl, _, rfl, _, rfl, x.1, x.2.1, x.2.2, rfl, Nat.le_trans hx1 (by decide), fun H6 s6 => ⟨_, rfl, h _ s6⟩⟩) h
        · have e : (xs.take i).map (fun x => V.str x.1) = ((xs.take i).map fun x => x.1).map V.str := by
            rw [List.map_map]
            rfl
          rw [e]
          exact flat_strs _
        · have e : (xs.take i).map (fun x => V.str x.1) = ((xs.take i).map fun x => x.1).map V.str := by
            rw [List.map_map]
            rfl
          rw [e, if_neg Bool.false_ne_true, inV_strs]
          exact h _ (Same.refl _)
      · have hdrop : xs.drop i = x :: xs.drop (i + 1) := by
          have lt := (List.getElem?_eq_some_iff.mp hx)
          obtain ⟨lt, e⟩ := lt
          rw [List.drop_eq_getElem_cons lt, e]
        rw [hdrop] at hb
        unfold firstBadFrom at hb
        have s24 : Same H H4 := (s2.trans s3).trans s4
        by_cases hbad : badStay i ((xs.take i).map fun x => x.1) x = true
        · rw [if_pos hbad] at hb
          have e : (decide ((i : Int) = 24) || (((xs.take i).map fun x => x.1).any (fun y => y == x.1) || !okStay x.1 x.2.1 x.2.2)) = true := hbad
          rw [e]
          refine iteT ⟨_, rfl, _, rfl, .inr ⟨_, rfl, ?_⟩, fun d hd => ?_⟩
          · have lt : i < xs.length := (List.getElem?_eq_some_iff.mp hx).1
            exact log_small (Nat.le_trans (Nat.le_of_lt lt) hz)
          · refine kBad i hb.symm _ d (fun b o z => ?_) (s24.free hd) upd_same
            rw [upd_ne (ne_of_none (s24 _ _ z) hd)]
            exact s24 _ _ z
        · rw [if_neg hbad] at hb
          have e : (decide ((i : Int) = 24) || (((xs.take i).map fun x => x.1).any (fun y => y == x.1) || !okStay x.1 x.2.1 x.2.2)) = false := Bool.eq_false_iff.mpr hbad
          rw [e]
          have hL4 := s4 _ _ hL3
          refine iteF ⟨_, rfl, .inl ⟨rfl, _, SqL.of hL4⟩, _, rfl, L, _, _, rfl, rfl, hL4, ?_, ?_⟩
          · rw [List.length_map, List.length_take]
            have : i < ws.length := hi
            have := pair_len hxs
            omega
          · have take1 : xs.take (i + 1) = xs.take i ++ [x] := by rw [List.take_add_one, hx]; rfl
            refine ⟨_, _, _, _, rfl, fun b o z => ?_, ?_, ?_⟩
            · rw [upd_ne (ne_of_none z hL)]
              exact s24 _ _ z
            · rw [upd_same, take1, List.map_append]
              rfl
            · rw [take1, List.map_append]
              exact hb
    · rintro σ H2 ⟨o3, o4, o5, o6, rfl, s2, hL2, hb⟩
      refine kOk ?_ _ s2
      rw [← hb, pair_len hxs, List.drop_length]
      rfl
end
end Sh1
set_option Elab.async false
set_option linter.all false
set_option maxRecDepth 100000
set_option maxHeartbeats 2000000
namespace Sh1
open PySem L2 Sho NdefX
/-- a Party of the stays xs stands at p -/
def PartyAt (C : Addr) (H : Hp) (p : Addr) (xs : List Stay) : Prop := ∃ dx a ws, H p = some (.ins C dx [(("_stays" : Str), .ref a)]) ∧ H a = some (.tup ws) ∧ StaysV H ws xs
theorem PartyAt.same {C : Addr} {H H' : Hp} {p : Addr} {xs : List Stay} (s : Same H H') (h : PartyAt C H p xs) : PartyAt C H' p xs := by
  obtain ⟨dx, a, ws, h1, h2, h3⟩ := h
  exact ⟨dx, a, ws, s _ _ h1, s _ _ h2, h3.same s⟩
theorem lk_stays (a : V) : List.lookup ("_stays" : Str) [(("_stays" : Str), a)] = some a := by simp [List.lookup]
theorem no_max (a : V) : List.lookup ("MAX_GUESTS" : Str) [(("_stays" : Str), a)] = none := by
  have e : (("MAX_GUESTS" : Str) == ("_stays" : Str)) = false := by decide +kernel
  simp [List.lookup, e]
/-- what the written part says of the class -/
structure PartyC (K : PySem.W.Frag) (mg : Str → Option Value) (C : Addr) : Prop where
  gm : mg "Party" = some (.ref C)
  cl : Cls K C
  nS : NoAttr K C "_stays"
  max : ∃ t, Con K C "MAX_GUESTS" (.int 24) (.int 24 t)
  ca : PySem.W.findIn K (.ref C) "__class__" = some (some (.builtin "object.__class__"))
  cn : PySem.W.specialIn K (.builtin "object.__class__") "__get__" = some (some (.builtin "getset_descriptor.__get__"))
  ct : PySem.W.takesIn K (.builtin "object.__class__") = some true
  mo : PySem.W.mroIn K C (.type "object") = some true
  kS : PySem.W.kitOne K (.ref C) (.ref C) = some true
  kT : PySem.W.kitOne K (.type "tuple") (.ref C) = some false
  sT : PySem.W.subIn K (.type "tuple") (.ref C) = some false
section
variable {P : Program} {w : World} {K : PySem.W.Frag} {mg : Str → Option Value} {base : Heap}
/-! ### Party.__init__ -/
def spPInit (C CI : Addr) : Sp := fun vs H Q E => ∃ (x dx a : Addr) (ws : List V) (xs : List Stay), vs = [.ref x, .ref a] ∧ H x = some (.ins C dx []) ∧ H a = some (.tup ws) ∧ StaysV H ws xs ∧ Short xs ∧ xs.length ≤ sizeLine ∧
  (firstBad xs = none → ∀ H', H' x = some (.ins C dx [(("_stays" : Str), .ref a)]) → (∀ b o, H b = some o → b ≠ x → H' b = some o) → Q .non H') ∧
  ∀ i, firstBad xs = some i → ∀ (H' : Hp) (d : Addr), Same H H' → H d = none → H' d = some (.xd [(("index" : Str), .int (i : Nat))]) → E (.ref CI) (some d) H'
theorem scPInit : FnScope ["self", "stays"] ["self", "stays"] (defScope sPInit) := ⟨rfl, rfl, rfl, by decide +kernel, rfl, by decide +kernel, by decide +kernel⟩
/-- a def of the class with a star parameter -/
structure FunS (K : PySem.W.Frag) (x qual : Str) (st : Stmt) (f : Addr) : Prop where
  ex : ∃ (oc : Value) (od : Option Addr) (doc pm : Value) (an : Option Addr) (cdv ct : Value) (osl : Array (Option Value)),
    K.lookup f = some ⟨oc, od, .func (PySem.W.fnOf x qual (defArgs st) (defBody st) (defScope st) .none .none doc pm an cdv ct), osl⟩ ∧ PySem.W.codeIn K cdv qual = true
theorem ok_pinit {f C CI fC : Addr} {fdC : FuncData} (F : FunS K "__init__" "Party.__init__" sPInit f) (PC : PartyC K mg C)
    (GC : FnOk P w K mg base (L2.CX P w) 4 fC fdC ["stays", "most"] (spCheck CI)) (mC : mg "_check_stays" = some (.ref fC)) (kC : PySem.W.keepIn K (.ref fC) = true) (bC : Binds K fdC ["stays", "most"] []) :
    FnR P w K mg base (L2.CX P w) 5 f (fun vs H Q E => ∃ ws rest, vs = ws ++ rest ∧ ws.length = (["self"] : List Str).length ∧ rest.length ≤ sizeLine ∧ ∀ p, H p = none → spPInit C CI (ws ++ [V.ref p]) (upd H p (.tup rest)) Q E) := by
  obtain ⟨oc, od, doc, pm, an, cdv, ct, osl, lk, hcd⟩ := F.ex
  refine StX.fn_star (ps := ["self"]) (pv := "stays") lk hcd scPInit StX.cxUp (StX.bind_star1 (B := fun us => bindArgs (PySem.W.fnOf "__init__" "Party.__init__" (defArgs sPInit) (defBody sPInit) (defScope sPInit) .none .none doc pm an cdv ct) ⟨us, []⟩) (p1 := "self") (pv := "stays") (fun a => rfl) fun a r rs => rfl) fun A outer s H vs Q E hr h => ?_
  obtain ⟨x, dx, a, ws, xs, rfl, hx, ha, hxs, hsh, hz, kOk, kBad⟩ := h
  obtain ⟨t24, c24⟩ := PC.max
  refine ⟨_, pss_cons (ps_expr (pe_call GC hr rfl mC kC bC .nil (passes_call (takes_of rfl rfl rfl rfl) fun _ _ _ _ z => z) (pa_cons (pv 1) (pa_cons (pe_con (pv 0) rfl) pa_nil)))) (pss_one (ps_fld (pv 0) (pv 1) rfl)), ?_⟩
  refine ⟨_, rfl, _, rfl, x, C, dx, [], .int 24, _, rfl, hx, PC.cl, c24, rfl, a, ws, xs, rfl, ha, hxs, hsh, hz, fun ok H' s' => ?_, kBad⟩
  refine ⟨_, rfl, _, rfl, x, C, dx, [], rfl, s' _ _ hx, PC.cl, PC.nS, by decide, ?_⟩
  exact kOk ok _ upd_same fun b o e hb => by rw [upd_ne hb]; exact s' _ _ e
abbrev spPNew (C CI : Addr) : Sp := fun vs H Q E => ∃ ws rest, vs = ws ++ rest ∧ ws.length = (["self"] : List Str).length ∧ rest.length ≤ sizeLine ∧ ∀ p, H p = none → spPInit C CI (ws ++ [V.ref p]) (upd H p (.tup rest)) Q E
/-- a new Party of these stays, or the error of the first invalid one -/
theorem party_new {C CI : Addr} {H : Hp} {Q : VK} {E : XK} {ys : List V} {xs : List Stay} (hxs : StaysV H ys xs) (hsh : Short xs) (hz : ys.length ≤ sizeLine)
    (ok : firstBad xs = none → ∀ (p : Addr) (H' : Hp), Same H H' → H p = none → PartyAt C H' p xs → Q (.ref p) H')
    (bad : ∀ i, firstBad xs = some i → ∀ (H' : Hp) (d : Addr), Same H H' → H d = none → H' d = some (.xd [(("index" : Str), .int (i : Nat))]) → E (.ref CI) (some d) H') :
    ∀ x dx, H x = none → H dx = none → dx ≠ x → spPNew C CI (V.ref x :: ys) (upd (upd H dx (.own x)) x (.ins C dx [])) (fun v H2 => v = .non ∧ Q (.ref x) H2) E := by
  intro x dx hx hdx ne
  refine ⟨[.ref x], ys, rfl, rfl, hz, fun p hp => ?_⟩
  have px : p ≠ x := fun z => by
    rw [z, upd_same] at hp
    cases hp
  have hp0 : H p = none := by
    rw [upd_ne px] at hp
    by_cases pd : p = dx
    · rw [pd]
      exact hdx
    · rw [upd_ne pd] at hp
      exact hp
  have pd : p ≠ dx := fun z => by
    rw [upd_ne px, z, upd_same] at hp
    cases hp
  have same : Same H (upd (upd (upd H dx (.own x)) x (.ins C dx [])) p (.tup ys)) := fun b o e => by
    rw [upd_ne (ne_of_none e hp0), upd_ne (ne_of_none e hx), upd_ne (ne_of_none e hdx)]
    exact e
  refine ⟨x, dx, p, ys, xs, rfl, by rw [upd_ne (Ne.symm px), upd_same], upd_same, hxs.same same, hsh, by rw [← pair_len hxs]; exact hz, fun h0 H' h1 h2 => ⟨rfl, ?_⟩, fun i hi H' d s' hd e => ?_⟩
  · have s2 : Same H H' := fun b o e => h2 b o (same b o e) (ne_of_none e hx)
    exact ok h0 x H' s2 hx ⟨dx, p, ys, h1, h2 _ _ upd_same px, hxs.same s2⟩
  · exact bad i hi H' d (same.trans s') (same.free hd) e
/-! ### the properties -/
theorem scPStays : FnScope ["self"] ["self"] (defScope sPStays) := ⟨rfl, rfl, rfl, by decide +kernel, rfl, by decide +kernel, by decide +kernel⟩
theorem ok_pstays {f C : Addr} {fd : FuncData} (F : Fun K "stays" "Party.stays" sPStays f fd) (PC : PartyC K mg C) : FnOk P w K mg base CX0 1 f fd ["self"] (getSp C "_stays") := by
  refine F.ok scPStays (fun vs H Q E h => ?_) (fun cdv A outer s H vs Q E hr h => ?_)
  · obtain ⟨a, dx, fs, v, rfl, _⟩ := h
    rfl
  · obtain ⟨a, dx, fs, v, rfl, h1, h2, k⟩ := h
    refine ⟨_, pss_one (ps_ret (pe_fld (pv 0) rfl)), _, rfl, a, C, dx, fs, v, rfl, h1, PC.cl, PC.nS, h2, k⟩
def spPNames (C : Addr) : Sp := fun vs H Q _ => ∃ (p : Addr) (xs : List Stay), vs = [.ref p] ∧ PartyAt C H p xs ∧ xs.length ≤ sizeLine ∧ ∀ H' t, Same H H' → H t = none → H' t = some (.tup (xs.map fun x => .str x.1)) → Q (.ref t) H'
theorem scPNames : FnScope ["self", "name", "come", "go"] ["self"] (defScope sPNames) := ⟨rfl, rfl, rfl, by decide +kernel, rfl, by decide +kernel, by decide +kernel⟩
theorem ok_pnames {f C : Addr} {fd : FuncData} (F : Fun K "names" "Party.names" sPNames f fd) (B : Blt mg) (PC : PartyC K mg C) : FnOk P w K mg base CX0 1 f fd ["self"] (spPNames C) := by
  refine F.ok scPNames (fun vs H Q E h => ?_) (fun cdv A outer s H vs Q E hr h => ?_)
  · obtain ⟨p, xs, rfl, _⟩ := h
    rfl
  · obtain ⟨p, xs, rfl, ⟨dx, a, ws, h1, h2, h3⟩, hz, k⟩ := h
    have nd := scPNames.nd
    refine ⟨_, pss_one (ps_ret (pe_callTy call_tuple_of (by rfl) B.tuple (by decide +kernel) (pa_cons (pe_lc (own := [("name", 1), ("come", 2), ("go", 3)]) (g := gTup K 3 (gCons (gName 1) (gCons (gName 2) (gCons (gName 3) gNil)))) (tt := tYes) rfl nd
      (pi_tup (pe_fld (pv 0) rfl)) (blkOk_by (own := [("name", 1), ("come", 2), ("go", 3)]) (N := ["self", "name", "come", "go"]) (sc := defScope sPNames) (by decide +kernel))
      (fun _ _ _ _ _ => pg_tup rfl (pgs_cons (pg_name (i := 1) nd rfl (Or.inl rfl)) (pgs_cons (pg_name (i := 2) nd rfl (Or.inl rfl)) (pgs_cons (pg_name (i := 3) nd rfl (Or.inl rfl)) pgs_nil))))
      (fun _ _ _ _ _ => pts_nil) (fun _ _ _ _ _ => pv 1)) pa_nil))), ?_⟩
    refine ⟨_, rfl, p, C, dx, _, .ref a, rfl, h1, PC.cl, PC.nS, lk_stays _, a, rfl, ⟨_, SqT.of h2⟩, fun D hD => ?_⟩
    refine lc_map walk_tup (fun i => (xs[i]?).map fun x => .str x.1) hD (by rw [pair_len h3]; exact hz) (fun H1 s1 => SqT.of (s1 _ _ h2)) (fun i x H1 H' hi s1 y R k1 => ?_) (fun i hi => ⟨_, by rw [List.getElem?_eq_getElem (by rw [← pair_len h3]; exact hi)]; rfl⟩) fun H1 s1 e1 => ?_
    · obtain ⟨rfl, e2⟩ := y
      obtain ⟨z, hz2, t, rfl, ht⟩ := pair_get h3 e2
      refine ⟨t, _, rfl, SqT.of (s1 _ _ ht), rfl, _, _, rfl, _, _, rfl, _, _, rfl, rfl, rfl, _, rfl, ?_⟩
      exact k1 _ _ (Same.refl _) (by rw [hz2]; rfl)
    · rw [pair_len h3, gather_map xs fun x => V.str x.1] at e1
      refine ⟨D, _, rfl, .inl ⟨SqL.of e1, fun l hl => ?_⟩⟩
      refine k _ l (fun b o e => ?_) (s1.free hl) upd_same
      rw [upd_ne (ne_of_none (s1 _ _ e) hl)]
      exact s1 _ _ e
end
end Sh1
set_option Elab.async false
set_option linter.all false
set_option maxRecDepth 100000
set_option maxHeartbeats 2000000
/-! bool(x), len(x), x[i], x == y of own instances by promises. -/
namespace ShB
open PySem
theorem meets_bool {prog : Program} {w : World} (v : Value) :
    MeetsIn prog w (Builtin.«bool.__new__» ⟨[.type "bool", v], []⟩) (fun A R s => wpAny (model prog w) A.in1 (truthy v) (fun b s' => R (.ok (.ret (.bool b))) s') (fun e s' => R (.error e) s') s) := by
  intro A R s h
  obtain ⟨hp, g, d, tk, os⟩ := s
  have f1 := F.conv_sub_bool
  unfold Builtin.«bool.__new__»
  repeat (any_goals (first | assumption | (with_reducible refine wpAny_mono h (fun b s' z => ?_) fun _ _ z => z) | wp_step))
  all_goals first | exact ⟨_, rfl, z⟩ | exact z | skip
theorem call_boolT {prog : Program} {w : World} {A : Around} {E : Value → Shared → Prop} {s : Shared} {v : Value} {Q : Value → Shared → Prop}
    (h : wpAny (model prog w) A.in1.in1 (truthy v) (fun b s' => Q (.bool b) s') E s) : wpAny (model prog w) A (call (.type "bool") [v]) Q E s :=
  callType_newIn F.called_bool F.newNe_bool (F.typeCall_bool_1 v) (F.newCall_bool_1 v) (fun obj => F.args_object_init_2 obj v) F.entry_bool_new (meets_bool v)
    (wpAny_mono h (fun b s' z => ⟨by rfl, z⟩) fun _ _ z => z)
end ShB

namespace Sho
open PySem PySem.Spec PyProof.Rows L2 StX
section
variable {X : Cx} {CX : CXT} {k : Nat} {f C : Addr} {sp : Sp} {E : XK}
/-- a promise, run around A (which bears the frames of X) -/
theorem run_at {A : Around} {pins : List (Addr × Obj)} {σ : L2.St} {H : Hp} {s : Shared} {Q : VK} {us : List Value} {vs : List V} (F : FnR X.prog X.w X.K X.mg X.base CX k f sp) (hr : Room k A) (e0 : Env0 X.prog X.w X.K X.mg X.base A X.stack s H) (hx : Passes CX X E)
    (I : Inv X pins σ H s) (r : Vals vs us) (h : sp vs H Q E) : wpAny (model X.prog X.w) A (call (.ref f) us) (EP X pins σ Q) X.xe s := by
  refine wpAny_call (codeAny_mono (F A X.stack s H us vs Q E hr e0 r h) fun r s' hq => ?_)
  cases r with
  | error e => exact hx pins σ H s e s' I hq
  | ok fl =>
    cases fl with
    | ret u => exact I.after hq
    | next => exact hq.elim
    | brk => exact hq.elim
    | cont => exact hq.elim
theorem inst_of {pins : List (Addr × Obj)} {σ : L2.St} {H : Hp} {s : Shared} {a : Addr} (I : Inv X pins σ H s) (h : InsAt H a C) : ∃ ox od, PySem.W.InstAt s.heap a ox C od := by
  obtain ⟨dx, fs, h⟩ := h
  obtain ⟨mA, J, _⟩ := ins_get I.hok h
  obtain ⟨od, J, _⟩ := J.look
  exact ⟨_, _, J⟩
/-- len(a), a's own __len__ -/
def rLenO (C : Addr) (sp : Sp) (E : XK) : List V → Hp → VK → Prop := fun xs H Q => ∃ a, xs = [.ref a] ∧ InsAt H a C ∧ sp [.ref a] H (fun r H' => ∃ n : Int, r = .int n ∧ 0 ≤ n ∧ n < 2 ^ 63 ∧ Q (.int n) H') E
theorem call_lenO (F : FnR X.prog X.w X.K X.mg X.base CX k f sp) (hr : Room (k + 1) X.A) (hx : Passes CX X E) (hs : PySem.W.findIn X.K (.ref C) "__len__" = some (some (.ref f))) (hf : PySem.W.isFn X.K (.ref f) = true) :
    CallR X (.builtin "len") (rLenO C sp E) := by
  rintro pins s σ H xs us Q I r ⟨a, rfl, ha, h⟩
  obtain rfl := Vals.ref1 r
  obtain ⟨ox, od, J⟩ := inst_of I ha
  obtain ⟨m, hF⟩ := I.fr
  refine PySem.W.len_K hF I.ok.mod.kin J hs hf (thn (run_at (vs := [.ref a]) F hr.in1 I.env0.in1 hx I (.cons rfl .nil) h) fun u s' q => ?_)
  obtain ⟨v, H', I', rv, n, rfl, n0, n1, q⟩ := q
  obtain ⟨t, rfl⟩ := rv
  exact ⟨⟨n0, n1⟩, .int n, H', I'.tok _, ⟨_, rfl⟩, q⟩
/-- bool(a), a's own __bool__ -/
def rBoolO (C : Addr) (sp : Sp) (E : XK) : List V → Hp → VK → Prop := fun xs H Q => ∃ a, xs = [.ref a] ∧ InsAt H a C ∧ sp [.ref a] H (fun r H' => ∃ b : Bool, r = .bl b ∧ Q (.bl b) H') E
theorem call_boolO (F : FnR X.prog X.w X.K X.mg X.base CX k f sp) (hr : Room (k + 2) X.A) (hx : Passes CX X E) (hs : PySem.W.findIn X.K (.ref C) "__bool__" = some (some (.ref f))) (hf : PySem.W.isFn X.K (.ref f) = true) :
    CallR X (.type "bool") (rBoolO C sp E) := by
  rintro pins s σ H xs us Q I r ⟨a, rfl, ha, h⟩
  obtain rfl := Vals.ref1 r
  obtain ⟨ox, od, J⟩ := inst_of I ha
  obtain ⟨m, hF⟩ := I.fr
  refine ShB.call_boolT (PySem.W.truthy_K hF I.ok.mod.kin J hs hf (thn (run_at (vs := [.ref a]) F hr.in1.in1 I.env0.in1.in1 hx I (.cons rfl .nil) h) fun u s' q => ?_))
  obtain ⟨v, H', I', rv, b, rfl, q⟩ := q
  cases rv
  exact ⟨.bl b, H', I', rfl, q⟩
/-- bool(a tuple) -/
theorem call_boolTup : CallR X (.type "bool") (fun xs H Q => ∃ (a : Addr) (zs : List V), xs = [.ref a] ∧ SqT X.K H a zs ∧ Q (.bl (!zs.isEmpty)) H) := by
  rintro pins s σ H xs us Q I r ⟨a, zs, rfl, hq, q⟩
  obtain rfl := Vals.ref1 r
  obtain ⟨its, rv, pl, hz⟩ := I.tuple hq
  have hl := line63
  have hlen := rv.length
  refine ShB.call_boolT (truthy_tuple pl (by simp only [List.size_toArray]; omega) ?_)
  exact ⟨.bl (!zs.isEmpty), H, I.tok _, by rw [isEmpty_of rv]; rfl, q⟩
/-- a[i], a's own __getitem__ -/
theorem pe_ixO {ea eb : Expr} {ta tb : TE} {pos : Pos} (F : FnR X.prog X.w X.K X.mg X.base CX k f sp) (hr : Room (k + 1) X.A) (hx : Passes CX X E) (hs : PySem.W.findIn X.K (.ref C) "__getitem__" = some (some (.ref f))) (hfn : PySem.W.fnIn X.K f = true) (hf : PySem.W.isFn X.K (.ref f) = true)
    (ha : PE X ea ta) (hb : PE X eb tb) (hsl : ∀ (a : Addr) (u : Value), subscripted eb true (.ref a) u = runValue (.builtin "lifetime.subscript" ⟨[.ref a, u], []⟩)) : PE X (.Subscript ea eb pos) (tOp (rOwnIx C sp E) ta tb) := by
  refine ⟨fun pins s σ H Q I h => ?_⟩
  refine Subscript_ (binT ha hb I h fun v u s2 x y H2 I2 rx ry q => ?_)
  obtain ⟨a, rfl, hi, h2⟩ := q
  cases rx
  obtain ⟨ox, od, J⟩ := inst_of I2 hi
  obtain ⟨m, hF⟩ := I2.fr
  exact PySem.W.sub_K hF I2.ok.mod.kin J hs hfn hf (run_at (vs := [.ref a, y]) F hr.in1 I2.env0.in1 hx I2 (.cons rfl (.cons ry .nil)) h2) (hsl a u)
/-- a == y, a's own __eq__; y of the own class, or of a built-in type -/
def TyEq (K : PySem.W.Frag) (H : Hp) (C : Addr) (y : V) : Prop := (∃ b, y = .ref b ∧ InsAt H b C) ∨ ∃ (b : Addr) (zs : List V), y = .ref b ∧ SqT K H b zs ∧ PySem.W.subIn K (.type "tuple") (.ref C) = some false
def rOwnEq (K : PySem.W.Frag) (C : Addr) (sp : Sp) (E : XK) : R2 := fun x y H Q => ∃ a, x = .ref a ∧ InsAt H a C ∧ TyEq K H C y ∧ sp [.ref a, y] H (fun r H' => ∃ b : Bool, r = .bl b ∧ Q (.bl b) H') E
theorem op_ownEq (F : FnR X.prog X.w X.K X.mg X.base CX k f sp) (hr : Room k X.A) (hx : Passes CX X E) (hs : PySem.W.findIn X.K (.ref C) "__eq__" = some (some (.ref f))) (hf : PySem.W.isFn X.K (.ref f) = true) :
    OpR X (compareOp .Eq) (rOwnEq X.K C sp E) := by
  rintro pins s σ H x y u v Q I rx ry ⟨a, rfl, ha, ht, h⟩
  cases rx
  obtain ⟨ox, od, J⟩ := inst_of I ha
  obtain ⟨m, hF⟩ := I.fr
  show wpAny (model X.prog X.w) X.A (richCompare .Eq (.ref a) v) (EP X pins σ Q) X.xe s
  have fin : ∀ (u : Value) (s' : Shared), EP X pins σ (fun r H' => ∃ b : Bool, r = .bl b ∧ Q (.bl b) H') u s' → PySem.W.CmpBack (EP X pins σ Q) u s' := fun u s' q => by
    obtain ⟨w2, H', I', rv, b, rfl, q⟩ := q
    cases rv
    exact ⟨.bl b, H', I', rfl, q⟩
  have run := run_at (vs := [.ref a, y]) F hr I.env0 hx I (.cons rfl (.cons ry .nil)) h
  rcases ht with ⟨b, rfl, hb⟩ | ⟨b, zs, rfl, hq, hsub⟩
  · cases ry
    obtain ⟨oy, od', J'⟩ := inst_of I hb
    exact PySem.W.cmp_K (op := .Eq) (tb := .ref C) hr.units0 hF I.ok.mod.kin J J'.type (by simp [PySem.W.notFirst]) hs hf (thn run fin)
  · cases ry
    obtain ⟨its, rv, ⟨o, ho, hc, _⟩, hz⟩ := I.tuple hq
    refine PySem.W.cmp_K (op := .Eq) (tb := .type "tuple") hr.units0 hF I.ok.mod.kin J (fun A Q E s k q => wpAny_typeOf_ref (k _ _ ho) (by rw [hc]; exact q)) ?_ hs hf (thn run fin)
    unfold PySem.W.notFirst
    rw [hsub]
    simp
end
end Sho
set_option Elab.async false
set_option linter.all false
set_option maxRecDepth 100000
set_option maxHeartbeats 2000000
namespace Sh1
open PySem L2 Sho NdefX
section
variable {P : Program} {w : World} {K : PySem.W.Frag} {mg : Str → Option Value} {base : Heap}
theorem no_meth (a : V) {m : Str} (h : (m == ("_stays" : Str)) = false) : List.lookup m [(("_stays" : Str), a)] = none := by simp [List.lookup, h]
/-! ### _stay_of -/
def guest (xs : List Stay) (z : Str) : Option Stay := xs.find? fun x => x.1 == z
def spStayOf (C CU : Addr) : Sp := fun vs H Q E => ∃ (p : Addr) (z : Str) (xs : List Stay), vs = [.ref p, .str z] ∧ PartyAt C H p xs ∧ z.length ≤ 100000 ∧
  (∀ x t, guest xs z = some x → H t = some (.tup [.str x.1, .int x.2.1, .int x.2.2]) → Q (.ref t) H) ∧
  (guest xs z = none → ∀ (H' : Hp) (d : Addr), Same H H' → H d = none → H' d = some (.xd [(("name" : Str), .str z)]) → E (.ref CU) (some d) H')
theorem scPStayOf : FnScope ["self", "name", "stay"] ["self", "name"] (defScope sPStayOf) := ⟨rfl, rfl, rfl, by decide +kernel, rfl, by decide +kernel, by decide +kernel⟩
theorem dec_str {a b : Str} : decide (V.str a = V.str b) = (a == b) := by
  rw [Bool.eq_iff_iff]
  simp
theorem ok_stayOf {f C CU : Addr} {fd : FuncData} (F : Fun K "_stay_of" "Party._stay_of" sPStayOf f fd) (PC : PartyC K mg C) (EC : ErrC P K mg "UnknownGuest" "name" nfUnk CU) : FnOk P w K mg base (L2.CX P w) 3 f fd ["self", "name"] (spStayOf C CU) := by
  refine F.okX scPStayOf (fun vs H Q E h => ?_) (fun cdv A outer s H vs Q E hr h => ?_)
  · obtain ⟨p, z, xs, rfl, _⟩ := h
    rfl
  · obtain ⟨p, z, xs, rfl, ⟨dx, a, ws, h1, h2, h3⟩, hz, kOk, kBad⟩ := h
    have nd := scPStayOf.nd
    refine ⟨_, pss_cons (ps_for (passes_of rfl) rfl (pi_tup (pe_fld (pv 0) rfl)) (pg_name (i := 2) nd rfl (Or.inl rfl))
        (pss_one (ps_if (pt_cmpR op_eq (pe_ix ix_tup (pv 2) pe_int (fun _ _ => rfl)) (pv 1) (nomark _)) (pss_one (ps_ret (pv 2))) pss_nil)))
      (pss_one (ps_raise rfl (takes_of rfl rfl rfl rfl) (pmk_unk (k := 0) EC (hr.mono (by decide)) passL (by rfl) (pk_cons (pv 1) pk_nil) rfl rfl rfl))), ?_⟩
    refine ⟨_, rfl, p, C, dx, _, .ref a, rfl, h1, PC.cl, PC.nS, lk_stays _, a, rfl, ⟨_, SqT.of h2⟩, for_it walk_tup (fun i σ H2 => ∃ o, σ = [some (.ref p), some (.str z), o] ∧ H2 = H ∧ guest (xs.take i) z = none)
      ⟨none, rfl, rfl, rfl⟩ (fun i σ H2 _ ⟨_, _, e, _⟩ => by rw [e]; exact SqT.of h2) ?_ ?_⟩
    · rintro i y σ H2 H3 hi ⟨o, rfl, rfl, hb⟩ ⟨rfl, e2⟩
      obtain ⟨x, hx, t, rfl, ht⟩ := pair_get h3 e2
      refine ⟨_, rfl, t, _, 0, .str x.1, rfl, rfl, SqT.of ht, atI_nat (j := 0) rfl, _, rfl, rfl, _, rfl, ?_⟩
      rw [dec_str]
      have take1 : xs.take (i + 1) = xs.take i ++ [x] := by rw [List.take_add_one, hx]; rfl
      cases e : (x.1 == z) with
      | true =>
        refine iteT ⟨_, rfl, kOk x t ?_ ht⟩
        have q : guest (xs.take (i + 1)) z = some x := by
          unfold guest at hb ⊢
          rw [take1, List.find?_append, hb]
          simp [e]
        have q2 : xs = xs.take (i + 1) ++ xs.drop (i + 1) := (List.take_append_drop _ _).symm
        unfold guest at q ⊢
        rw [q2, List.find?_append, q]
        rfl
      | false =>
        refine iteF ⟨_, rfl, rfl, ?_⟩
        unfold guest at hb ⊢
        rw [take1, List.find?_append, hb]
        simp [e]
    · rintro σ H2 ⟨o, rfl, rfl, hb⟩
      rw [pair_len h3, List.take_length] at hb
      refine ⟨_, rfl, _, rfl, .inl ⟨z, rfl, hz⟩, fun d hd => kBad hb _ d (fun b o e => ?_) hd upd_same⟩
      rw [upd_ne (ne_of_none e hd)]
      exact e
/-! ### __len__, __bool__, __contains__, __getitem__ -/
def spPLen (C : Addr) : Sp := fun vs H Q _ => ∃ (p : Addr) (xs : List Stay), vs = [.ref p] ∧ PartyAt C H p xs ∧ Q (.int (xs.length : Nat)) H
theorem scPLen : FnScope ["self"] ["self"] (defScope sPLen) := ⟨rfl, rfl, rfl, by decide +kernel, rfl, by decide +kernel, by decide +kernel⟩
theorem ok_plen {f C : Addr} {fd : FuncData} (F : Fun K "__len__" "Party.__len__" sPLen f fd) (B : Blt mg) (PC : PartyC K mg C) : FnOk P w K mg base CX0 1 f fd ["self"] (spPLen C) := by
  refine F.ok scPLen (fun vs H Q E h => ?_) (fun cdv A outer s H vs Q E hr h => ?_)
  · obtain ⟨p, xs, rfl, _⟩ := h
    rfl
  · obtain ⟨p, xs, rfl, ⟨dx, a, ws, h1, h2, h3⟩, k⟩ := h
    refine ⟨_, pss_one (ps_ret (pe_callB call_len_seq (by rfl) B.len PySem.boot_len (pa_cons (pe_fld (pv 0) rfl) pa_nil))), ?_⟩
    refine ⟨_, rfl, p, C, dx, _, .ref a, rfl, h1, PC.cl, PC.nS, lk_stays _, a, ws, rfl, .inr (SqT.of h2), ?_⟩
    rw [pair_len h3]
    exact k
def spPBool (C : Addr) : Sp := fun vs H Q _ => ∃ (p : Addr) (xs : List Stay), vs = [.ref p] ∧ PartyAt C H p xs ∧ Q (.bl (!xs.isEmpty)) H
theorem scPBool : FnScope ["self"] ["self"] (defScope sPBool) := ⟨rfl, rfl, rfl, by decide +kernel, rfl, by decide +kernel, by decide +kernel⟩
theorem ok_pbool {f C : Addr} {fd : FuncData} (F : Fun K "__bool__" "Party.__bool__" sPBool f fd) (B : Blt mg) (PC : PartyC K mg C) : FnOk P w K mg base CX0 1 f fd ["self"] (spPBool C) := by
  refine F.ok scPBool (fun vs H Q E h => ?_) (fun cdv A outer s H vs Q E hr h => ?_)
  · obtain ⟨p, xs, rfl, _⟩ := h
    rfl
  · obtain ⟨p, xs, rfl, ⟨dx, a, ws, h1, h2, h3⟩, k⟩ := h
    refine ⟨_, pss_one (ps_ret (pe_callTy call_boolTup (by rfl) B.bool (by decide +kernel) (pa_cons (pe_fld (pv 0) rfl) pa_nil))), ?_⟩
    refine ⟨_, rfl, p, C, dx, _, .ref a, rfl, h1, PC.cl, PC.nS, lk_stays _, a, ws, rfl, SqT.of h2, ?_⟩
    have e : ws.isEmpty = xs.isEmpty := by
      have := pair_len h3
      cases ws <;> cases xs <;> simp at this <;> rfl
    rw [e]
    exact k
def named (xs : List Stay) (z : Str) : Bool := xs.any fun x => x.1 == z
def spPIn (C : Addr) : Sp := fun vs H Q _ => ∃ (p : Addr) (z : Str) (xs : List Stay), vs = [.ref p, .str z] ∧ PartyAt C H p xs ∧ xs.length ≤ sizeLine ∧ ∀ H', Same H H' → Q (.bl (named xs z)) H'
theorem scPIn : FnScope ["self", "name"] ["self", "name"] (defScope sPIn) := ⟨rfl, rfl, rfl, by decide +kernel, rfl, by decide +kernel, by decide +kernel⟩
theorem ok_pin {f C fN pN : Addr} {fd fdN : FuncData} (F : Fun K "__contains__" "Party.__contains__" sPIn f fd) (PC : PartyC K mg C) (GN : FnOk P w K mg base CX0 1 fN fdN ["self"] (spPNames C)) (hN : PropOf K C "names" pN fN) (bN : Binds K fdN ["self"] []) :
    FnOk P w K mg base CX0 3 f fd ["self", "name"] (spPIn C) := by
  refine F.ok scPIn (fun vs H Q E h => ?_) (fun cdv A outer s H vs Q E hr h => ?_)
  · obtain ⟨p, z, xs, rfl, _⟩ := h
    rfl
  · obtain ⟨p, z, xs, rfl, PA, hz, k⟩ := h
    refine ⟨_, pss_one (ps_ret (pe_cmpR op_in_seq (pv 1) (pe_prop (pv 0) PC.cl hN GN hr bN .nil pass0 rfl) rfl)), ?_⟩
    obtain ⟨dx, a, ws, h1, h2, h3⟩ := id PA
    refine ⟨_, rfl, _, rfl, p, dx, _, rfl, h1, p, xs, rfl, PA, hz, fun H' t s' nt e => ?_⟩
    refine ⟨t, _, rfl, .inr (SqT.of e), rfl, ?_, ?_⟩
    · have := flat_strs (xs.map fun x => x.1)
      rw [List.map_map] at this
      exact this
    · have e2 : inV (.str z) (xs.map fun x => V.str x.1) = named xs z := by
        have := inV_strs z (xs.map fun x => x.1)
        rw [List.map_map, List.any_map] at this
        exact this
      rw [if_neg Bool.false_ne_true, e2]
      exact k _ s'
def spPIx (C CU : Addr) : Sp := fun vs H Q E => ∃ (p : Addr) (z : Str) (xs : List Stay), vs = [.ref p, .str z] ∧ PartyAt C H p xs ∧ z.length ≤ 100000 ∧
  (∀ x, guest xs z = some x → ∀ H' t, Same H H' → H t = none → H' t = some (.tup [.int x.2.1, .int x.2.2]) → Q (.ref t) H') ∧
  (guest xs z = none → ∀ (H' : Hp) (d : Addr), Same H H' → H d = none → H' d = some (.xd [(("name" : Str), .str z)]) → E (.ref CU) (some d) H')
theorem scPIx : FnScope ["self", "name"] ["self", "name"] (defScope sPIx) := ⟨rfl, rfl, rfl, by decide +kernel, rfl, by decide +kernel, by decide +kernel⟩
theorem guest_at {C : Addr} {H : Hp} {p : Addr} {xs : List Stay} {z : Str} (h : PartyAt C H p xs) : ∀ {x : Stay}, guest xs z = some x → ∃ t, H t = some (.tup [.str x.1, .int x.2.1, .int x.2.2]) := by
  obtain ⟨dx, a, ws, _, _, h3⟩ := h
  intro x hx
  have key : ∀ {ws : List V} {xs : List Stay}, StaysV H ws xs → x ∈ xs → ∃ t, H t = some (.tup [.str x.1, .int x.2.1, .int x.2.2]) := by
    intro ws xs r
    induction r with
    | nil => intro hm; cases hm
    | cons h r ih =>
      intro hm
      rcases List.mem_cons.mp hm with rfl | hm
      · obtain ⟨t, _, ht⟩ := h
        exact ⟨t, ht⟩
      · exact ih hm
  exact key h3 (List.mem_of_find?_eq_some hx)
theorem ok_pix {f C CU fS : Addr} {fd fdS : FuncData} (F : Fun K "__getitem__" "Party.__getitem__" sPIx f fd) (PC : PartyC K mg C) (GS : FnOk P w K mg base (L2.CX P w) 3 fS fdS ["self", "name"] (spStayOf C CU)) (mS : Meth K C "_stay_of" fS) (bS : Binds K fdS ["self", "name"] []) :
    FnOk P w K mg base (L2.CX P w) 4 f fd ["self", "name"] (spPIx C CU) := by
  refine F.okX scPIx (fun vs H Q E h => ?_) (fun cdv A outer s H vs Q E hr h => ?_)
  · obtain ⟨p, z, xs, rfl, _⟩ := h
    rfl
  · obtain ⟨p, z, xs, rfl, PA, hz, kOk, kBad⟩ := h
    refine ⟨_, pss_one (ps_ret (pe_slice sl_tup (pe_meth (pv 0) PC.cl mS GS hr bS .nil (passes_call (takes_of rfl rfl rfl rfl) fun _ _ _ _ z => z) (pa_cons (pv 1) pa_nil)) (po_some pe_int) po_none)), ?_⟩
    obtain ⟨dx, a, ws, h1, h2, h3⟩ := id PA
    refine ⟨_, rfl, p, dx, _, rfl, h1, no_meth _ (by decide +kernel), _, rfl, p, z, xs, rfl, PA, hz, fun x t hx ht => ?_, kBad⟩
    refine ⟨1, rfl, t, _, rfl, SqT.of ht, ?_, fun q hq => ?_⟩
    · exact fun h => absurd h.1 (by show ¬ HT.sIx 3 0 (some 1) = 0; decide +kernel)
    · refine kOk x hx _ q (fun b o e => ?_) hq ?_
      · rw [upd_ne (ne_of_none e hq)]
        exact e
      · rw [upd_same]
        rfl
end
end Sh1
set_option Elab.async false
set_option linter.all false
set_option maxRecDepth 100000
set_option maxHeartbeats 2000000
namespace Sh1
open PySem L2 Sho NdefX
/-! ### stays compared -/
def stayD (x : Stay) : PyData := .tuple [.str x.1, .int x.2.1, .int x.2.2]
theorem dp_stays {K : PySem.W.Frag} {H : Hp} : ∀ {ws : List V} {xs : List Stay}, StaysV H ws xs → DpAll K H ws (xs.map stayD)
  | _, _, .nil => .nil
  | _, _, .cons ⟨t, e, ht⟩ r => by
    subst e
    exact .cons (.tup (SqT.of ht) (.cons (.str _) (.cons (.int _) (.cons (.int _) .nil)))) (dp_stays r)
theorem lay_stays : ∀ {xs : List Stay}, Short xs → PyData.canLayAll0 (xs.map stayD) = true
  | [], _ => rfl
  | x :: xs, h => by
    have h1 := (h x List.mem_cons_self).2
    have h2 := lay_stays (xs := xs) fun y hy => h y (List.mem_cons_of_mem _ hy)
    show (PyData.canLay0 (stayD x) && PyData.canLayAll0 (xs.map stayD)) = true
    rw [h2, Bool.and_true]
    show (PyData.canLay0 (.str x.1) && (true && (true && true))) = true
    simp only [Bool.and_true]
    exact h1
theorem depth_stays : ∀ xs : List Stay, PyData.depthAll (xs.map stayD) ≤ 1
  | [] => Nat.zero_le _
  | x :: xs => by
    have h := depth_stays xs
    show max (PyData.depth (stayD x)) (PyData.depthAll (xs.map stayD)) ≤ 1
    have e : PyData.depth (stayD x) = 1 := rfl
    rw [e]
    omega
theorem shaped_tup {xs : List Stay} (h : Short xs) : SeqAt.shaped (.tuple (xs.map stayD)) = true := by
  unfold SeqAt.shaped
  have h1 : PyData.canLay0 (.tuple (xs.map stayD)) = true := lay_stays h
  have h2 : PyData.depth (.tuple (xs.map stayD)) ≤ 64 := Nat.le_trans (Nat.succ_le_succ (depth_stays xs)) (by decide)
  rw [h1, decide_eq_true h2]
  rfl
theorem shaped_lst {xs : List Stay} (h : Short xs) : SeqAt.shaped (.list (xs.map stayD)) = true := by
  unfold SeqAt.shaped
  have h1 : PyData.canLay0 (.list (xs.map stayD)) = true := lay_stays h
  have h2 : PyData.depth (.list (xs.map stayD)) ≤ 64 := Nat.le_trans (Nat.succ_le_succ (depth_stays xs)) (by decide)
  rw [h1, decide_eq_true h2]
  rfl
theorem shaped_stay {x : Stay} (h : x.1.cps.all (· < 0x110000) = true) : SeqAt.shaped (stayD x) = true := by
  unfold SeqAt.shaped
  have h1 : PyData.canLay0 (stayD x) = true := by
    show (PyData.canLay0 (.str x.1) && (true && (true && true))) = true
    simp only [Bool.and_true]
    exact h
  rw [h1]
  rfl
theorem eqv_stay (x y : Stay) : PyData.eqv (stayD x) (stayD y) = decide (x = y) := by
  obtain ⟨x1, x2, x3⟩ := x
  obtain ⟨y1, y2, y3⟩ := y
  show ((x1 == y1) && ((x2 == y2) && ((x3 == y3) && true))) = _
  rw [Bool.eq_iff_iff]
  simp
theorem eqv_stays : ∀ xs ys : List Stay, PyData.eqvAll (xs.map stayD) (ys.map stayD) = decide (xs = ys)
  | [], [] => rfl
  | [], y :: ys => by
    rw [decide_eq_false (by simp)]
    rfl
  | x :: xs, [] => by
    rw [decide_eq_false (by simp)]
    rfl
  | x :: xs, y :: ys => by
    show (PyData.eqv (stayD x) (stayD y) && PyData.eqvAll (xs.map stayD) (ys.map stayD)) = _
    rw [eqv_stay, eqv_stays xs ys, Bool.eq_iff_iff]
    simp
section
variable {P : Program} {w : World} {K : PySem.W.Frag} {mg : Str → Option Value} {base : Heap}
/-! ### __eq__ -/
def spPEq (C : Addr) : Sp := fun vs H Q _ => ∃ (p : Addr) (xs : List Stay) (y : V), vs = [.ref p, y] ∧ PartyAt C H p xs ∧ Short xs ∧
  ((∃ q ys, y = .ref q ∧ PartyAt C H q ys ∧ Short ys ∧ Q (.bl (decide (xs = ys))) H) ∨ ∃ b zs, y = .ref b ∧ H b = some (.tup zs) ∧ Q (.bl false) H)
theorem scPEq : FnScope ["self", "other"] ["self", "other"] (defScope sPEq) := ⟨rfl, rfl, rfl, by decide +kernel, rfl, by decide +kernel, by decide +kernel⟩
theorem ok_peq {f C : Addr} {fd : FuncData} (F : Fun K "__eq__" "Party.__eq__" sPEq f fd) (B : Blt mg) (PC : PartyC K mg C) : FnOk P w K mg base CX0 1 f fd ["self", "other"] (spPEq C) := by
  refine F.ok scPEq (fun vs H Q E h => ?_) (fun cdv A outer s H vs Q E hr h => ?_)
  · obtain ⟨p, xs, y, rfl, _⟩ := h
    rfl
  · obtain ⟨p, xs, y, rfl, ⟨dx, a, ws, h1, h2, h3⟩, hsx, k⟩ := h
    refine ⟨_, pss_one (ps_ret (pe_and (pe_callB call_isi (by rfl) B.isi (by decide +kernel) (pa_cons (pv 1) (pa_cons (pe_glob (v := .ref C) rfl PC.gm rfl) pa_nil)))
      (pe_one (pe_cmpR (op_eqD hr.units) (pe_fld (pv 0) rfl) (pe_fld (pv 1) rfl) (nomark _))))), ?_⟩
    rcases k with ⟨q, ys, rfl, ⟨dy, b, zs, g1, g2, g3⟩, hsy, k⟩ | ⟨b, zs, rfl, hb, k⟩
    · refine ⟨_, rfl, .ref q, .ref C, .ref C, .ref C, true, rfl, .own C, .base (.ins g1 PC.cl PC.ca PC.cn PC.ct PC.mo), PC.kS, _, rfl, iteT ?_⟩
      refine ⟨_, rfl, p, C, dx, _, .ref a, rfl, h1, PC.cl, PC.nS, lk_stays _, _, rfl, q, C, dy, _, .ref b, rfl, g1, PC.cl, PC.nS, lk_stays _, ?_⟩
      refine ⟨.tuple (xs.map stayD), .tuple (ys.map stayD), .tup (SqT.of h2) (dp_stays h3), .tup (SqT.of g2) (dp_stays g3), shaped_tup hsx, shaped_tup hsy, ?_⟩
      have e : PyData.eqv (.tuple (xs.map stayD)) (.tuple (ys.map stayD)) = decide (xs = ys) := eqv_stays xs ys
      rw [e]
      exact k
    · refine ⟨_, rfl, .ref b, .ref C, .type "tuple", .ref C, false, rfl, .own C, .base (.tup hb), PC.kT, _, rfl, iteF k⟩
end
end Sh1
set_option Elab.async false
set_option linter.all false
set_option maxRecDepth 100000
set_option maxHeartbeats 2000000
namespace Sh1
open PySem L2 Sho NdefX
/-! ### valid lists of stays -/
structure Valid (xs : List Stay) : Prop where
  len : xs.length ≤ 24
  nd : (xs.map fun x => x.1).Nodup
  ok : ∀ x ∈ xs, okStay x.1 x.2.1 x.2.2 = true
theorem any_mem {l : List Str} {z : Str} : l.any (fun y => y == z) = true ↔ z ∈ l := by
  rw [List.any_eq_true]
  constructor
  · rintro ⟨y, hy, e⟩
    have := eq_of_beq e
    rw [← this]
    exact hy
  · intro h
    exact ⟨z, h, by simp⟩
theorem fbf_none : ∀ (xs : List Stay) (i : Nat) (seen : List Str), i ≤ 24 → firstBadFrom i seen xs = none →
    i + xs.length ≤ 24 ∧ (∀ x ∈ xs, x.1 ∉ seen) ∧ (xs.map fun x => x.1).Nodup ∧ ∀ x ∈ xs, okStay x.1 x.2.1 x.2.2 = true
  | [], i, seen, hi, _ => ⟨hi, by simp, by simp, by simp⟩
  | x :: r, i, seen, hi, h => by
    unfold firstBadFrom at h
    by_cases hb : badStay i seen x = true
    · rw [if_pos hb] at h
      cases h
    · rw [if_neg hb] at h
      have hb2 := Bool.eq_false_iff.mpr hb
      unfold badStay at hb2
      rw [Bool.or_eq_false_iff, Bool.or_eq_false_iff] at hb2
      obtain ⟨b1, b2, b3⟩ := hb2
      have n24 : (i : Int) ≠ 24 := of_decide_eq_false b1
      have ns : x.1 ∉ seen := fun m => by
        rw [any_mem.mpr m] at b2
        cases b2
      have ok1 : okStay x.1 x.2.1 x.2.2 = true := by
        cases e : okStay x.1 x.2.1 x.2.2 with
        | true => rfl
        | false => rw [e] at b3; cases b3
      obtain ⟨c1, c2, c3, c4⟩ := fbf_none r (i + 1) (seen ++ [x.1]) (by omega) h
      refine ⟨by rw [List.length_cons]; omega, fun y hy => ?_, ?_, fun y hy => ?_⟩
      · rcases List.mem_cons.mp hy with rfl | hy
        · exact ns
        · exact fun m => c2 y hy (List.mem_append_left _ m)
      · rw [List.map_cons, List.nodup_cons]
        refine ⟨fun m => ?_, c3⟩
        obtain ⟨y, hy, e⟩ := List.mem_map.mp m
        exact c2 y hy (by rw [e]; simp)
      · rcases List.mem_cons.mp hy with rfl | hy
        · exact ok1
        · exact c4 y hy
theorem fbf_of : ∀ (xs : List Stay) (i : Nat) (seen : List Str), i + xs.length ≤ 24 → (∀ x ∈ xs, x.1 ∉ seen) → (xs.map fun x => x.1).Nodup → (∀ x ∈ xs, okStay x.1 x.2.1 x.2.2 = true) → firstBadFrom i seen xs = none
  | [], _, _, _, _, _, _ => rfl
  | x :: r, i, seen, h1, h2, h3, h4 => by
    rw [List.length_cons] at h1
    have hb : badStay i seen x = false := by
      unfold badStay
      rw [h4 x List.mem_cons_self, decide_eq_false (by omega)]
      have e : seen.any (fun y => y == x.1) = false := by
        rw [Bool.eq_false_iff]
        exact fun q => h2 x List.mem_cons_self (any_mem.mp q)
      rw [e]
      rfl
    unfold firstBadFrom
    rw [if_neg (by rw [hb]; exact Bool.false_ne_true)]
    rw [List.map_cons, List.nodup_cons] at h3
    refine fbf_of r (i + 1) _ (by omega) (fun y hy m => ?_) h3.2 fun y hy => h4 y (List.mem_cons_of_mem _ hy)
    rcases List.mem_append.mp m with m | m
    · exact h2 y (List.mem_cons_of_mem _ hy) m
    · rw [List.mem_singleton] at m
      exact h3.1 (List.mem_map.mpr ⟨y, hy, m⟩)
theorem valid_iff {xs : List Stay} : firstBad xs = none ↔ Valid xs := by
  constructor
  · intro h
    obtain ⟨a, _, b, c⟩ := fbf_none xs 0 [] (by decide) h
    exact ⟨by omega, b, c⟩
  · intro h
    exact fbf_of xs 0 [] (by have := h.len; omega) (by simp) h.nd h.ok
theorem Valid.filter {xs : List Stay} (h : Valid xs) (p : Stay → Bool) : Valid (xs.filter p) :=
  ⟨Nat.le_trans (List.length_filter_le ..) h.len, (List.Nodup.sublist (List.Sublist.map _ List.filter_sublist) h.nd), fun x hx => h.ok x (List.mem_filter.mp hx).1⟩
theorem Short.filter {xs : List Stay} (h : Short xs) (p : Stay → Bool) : Short (xs.filter p) := fun x hx => h x (List.mem_filter.mp hx).1
/-- what is kept of paired lists -/
theorem stays_filter {H : Hp} (p : Stay → Bool) : ∀ {ws : List V} {xs : List Stay}, StaysV H ws xs → StaysV H ((ws.zip xs).filterMap fun q => if p q.2 = true then some q.1 else none) (xs.filter p)
  | _, _, .nil => .nil
  | _, _, .cons (a := v) (b := x) h r => by
    have ih := stays_filter p r
    rw [List.zip_cons_cons, List.filterMap_cons, List.filter_cons]
    by_cases e : p x = true
    · simp only [e, if_true]
      exact .cons h ih
    · simp only [e, if_false]
      exact ih
section
variable {P : Program} {w : World} {K : PySem.W.Frag} {mg : Str → Option Value} {base : Heap}
/-! ### __sub__ -/
def without (xs : List Stay) (x : Stay) : List Stay := xs.filter fun y => !decide (y = x)
def spPSub (C CU : Addr) : Sp := fun vs H Q E => ∃ (p : Addr) (z : Str) (xs : List Stay), vs = [.ref p, .str z] ∧ PartyAt C H p xs ∧ Short xs ∧ Valid xs ∧ z.length ≤ 100000 ∧
  (∀ x, guest xs z = some x → ∀ q H', Same H H' → H q = none → PartyAt C H' q (without xs x) → Q (.ref q) H') ∧
  (guest xs z = none → ∀ (H' : Hp) (d : Addr), Same H H' → H d = none → H' d = some (.xd [(("name" : Str), .str z)]) → E (.ref CU) (some d) H')
theorem scPSub : FnScope ["self", "name", "gone", "stays", "stay"] ["self", "name"] (defScope sPSub) := ⟨rfl, rfl, rfl, by decide +kernel, rfl, by decide +kernel, by decide +kernel⟩
theorem ok_psub {f C CI CU fS fI : Addr} {fd fdS : FuncData} (F : Fun K "__sub__" "Party.__sub__" sPSub f fd) (PC : PartyC K mg C)
    (GS : FnOk P w K mg base (L2.CX P w) 3 fS fdS ["self", "name"] (spStayOf C CU)) (mS : Meth K C "_stay_of" fS) (bS : Binds K fdS ["self", "name"] [])
    (M : Mk K C fI) (GI : FnR P w K mg base (L2.CX P w) 5 fI (spPNew C CI)) : FnOk P w K mg base (L2.CX P w) 7 f fd ["self", "name"] (spPSub C CU) := by
  refine F.okX scPSub (fun vs H Q E h => ?_) (fun cdv A outer s H vs Q E hr h => ?_)
  · obtain ⟨p, z, xs, rfl, _⟩ := h
    rfl
  · obtain ⟨p, z, xs, rfl, PA, hsh, hv, hz, kOk, kBad⟩ := h
    have nd := scPSub.nd
    have pass : Passes (L2.CX P w) (cxOf (L2.CX P w) P w K mg base ["self", "name", "gone", "stays", "stay"] "Party.__sub__" (defScope sPSub) f cdv A outer s H E) E := passes_call (takes_of rfl rfl rfl rfl) fun _ _ _ _ z => z
    refine ⟨_, pss_cons (ps_set (i := 2) nd rfl (Or.inr rfl) (pe_meth (pv 0) PC.cl mS GS (hr.mono (by decide)) bS .nil pass (pa_cons (pv 1) pa_nil)))
      (pss_cons (ps_setLc (i := 3) (own := [("stay", 4)]) (g := gName 4) (tt := tTest (tOp (rNeD K) (tVar 4) (tVar 2))) rfl nd rfl rfl (sw_true rfl rfl rfl (by decide +kernel)) (pi_tup (pe_fld (pv 0) rfl)) (blkOk_by (own := [("stay", 4)]) (N := ["self", "name", "gone", "stays", "stay"]) (sc := defScope sPSub) (by decide +kernel))
        (fun _ _ _ _ _ => pg_name (i := 4) nd rfl (Or.inl rfl)) (fun _ _ _ _ _ => pts_one (pt_cmpR (op_neD hr.units) (pv 4) (pv 2) (nomark _))) (fun _ _ _ _ _ => pv 4))
      (pss_one (ps_ret (pe_makeS M GI hr rfl PC.gm pass (pv 3))))), ?_⟩
    obtain ⟨dx, a, ws, h1, h2, h3⟩ := id PA
    refine ⟨_, rfl, p, dx, _, rfl, h1, no_meth _ (by decide +kernel), _, rfl, p, z, xs, rfl, PA, hz, fun x t hx ht => ?_, kBad⟩
    refine ⟨_, rfl, p, C, dx, _, .ref a, rfl, h1, PC.cl, PC.nS, lk_stays _, a, rfl, ⟨_, SqT.of h2⟩, fun D hD => ?_⟩
    have lenE := pair_len h3
    have hz24 : ws.length ≤ sizeLine := by
      rw [lenE]
      exact Nat.le_trans hv.len (by decide)
    have hxs : x.1.cps.all (· < 0x110000) = true := (hsh x (List.mem_of_find?_eq_some hx)).2
    have dpx : ∀ {t : Addr} {y : Stay} {H1 : Hp}, H1 t = some (.tup [.str y.1, .int y.2.1, .int y.2.2]) → Dp K H1 (.ref t) (stayD y) := fun {t y H1} e => .tup (SqT.of e) (.cons (.str _) (.cons (.int _) (.cons (.int _) .nil)))
    refine lc_gather walk_tup (fun i => ((ws.zip xs)[i]?).bind fun q => if (!decide (q.2 = x)) = true then some q.1 else none) hD hz24 (fun H1 s1 => SqT.of (s1 _ _ h2)) (fun i v H1 H' hi s1 y R k1 => ?_) fun H1 s1 e1 => ?_
    · obtain ⟨rfl, e2⟩ := y
      obtain ⟨y, hy, t', rfl, ht'⟩ := pair_get h3 e2
      have k2 := k1 _ (Same.refl _)
      have ez : (ws.zip xs)[i]? = some (.ref t', y) := by
        rw [List.getElem?_zip_eq_some]
        exact ⟨e2, hy⟩
      rw [ez] at k2
      refine ⟨rfl, _, rfl, _, rfl, stayD y, stayD x, dpx (s1 _ _ ht'), dpx (s1 _ _ ht), shaped_stay (hsh y (List.mem_of_getElem? hy)).2, shaped_stay hxs, _, rfl, ?_⟩
      rw [eqv_stay]
      by_cases e : y = x
      · have : decide (y = x) = true := decide_eq_true e
        rw [this]
        refine iteF ?_
        simp only [Option.bind_some, this] at k2
        exact k2
      · have : decide (y = x) = false := decide_eq_false e
        rw [this]
        refine iteT ⟨_, rfl, ?_⟩
        simp only [Option.bind_some, this] at k2
        exact k2
    · have e2 : (ws.zip xs).length = ws.length := by
        rw [List.length_zip, lenE]
        exact Nat.min_self _
      rw [← e2, gather_list] at e1
      have sv := stays_filter (fun y => !decide (y = x)) (h3.same s1)
      refine ⟨_, rfl, D, _, rfl, .inr (SqL.of e1), ?_⟩
      refine party_new sv (hsh.filter _) ?_ (fun _ q H' s' hq PQ => ?_) (fun i hi => ?_)
      · rw [pair_len sv]
        exact Nat.le_trans (hv.filter _).len (by decide)
      · exact kOk x hx q H' (s1.trans s') (s1.free hq) PQ
      · rw [valid_iff.mpr (hv.filter _)] at hi
        cases hi
end
end Sh1
set_option Elab.async false
set_option linter.all false
set_option maxRecDepth 100000
set_option maxHeartbeats 2000000
namespace Sh1
open PySem L2 Sho NdefX
theorem cat_one {K : PySem.W.Frag} {H : Hp} {a b : Addr} {xs ys : List V} {Q : VK} (ha : SqT K H a xs) (hb : SqT K H b ys) (hz : xs.length + ys.length ≤ sizeLine) (h : ∀ c H', Same H H' → SqT K H' c (xs ++ ys) → Q (.ref c) H') : rCatA K (.ref a) (.ref b) H Q := by
  refine ⟨a, b, xs, ys, rfl, rfl, ha, hb, hz, fun e => ?_, fun _ e => ?_, fun _ _ p hp => ?_⟩
  · exact h b H (Same.refl _) (by rw [e]; exact hb)
  · exact h a H (Same.refl _) (by rw [e, List.append_nil]; exact ha)
  · refine h p _ (fun c o e => ?_) (SqT.of upd_same)
    rw [upd_ne (ne_of_none e hp)]
    exact e
theorem paired_append {α β : Type} {R : α → β → Prop} : ∀ {a c : List α} {b d : List β}, PySem.Paired R a b → PySem.Paired R c d → PySem.Paired R (a ++ c) (b ++ d)
  | _, _, _, _, .nil, h => h
  | _, _, _, _, .cons x r, h => .cons x (paired_append r h)
theorem Short.append {xs ys : List Stay} (h : Short xs) (k : Short ys) : Short (xs ++ ys) := fun x hx => (List.mem_append.mp hx).elim (h x) (k x)
/-- stays moved -/
def moved (n : Int) (xs : List Stay) : List Stay := xs.map fun x => (x.1, x.2.1 + n, x.2.2 + n)
theorem Short.moved {xs : List Stay} (h : Short xs) (n : Int) : Short (moved n xs) := fun x hx => by
  obtain ⟨y, hy, e⟩ := List.mem_map.mp hx
  subst e
  exact h y hy
theorem stays_of {H : Hp} : ∀ {ys : List V} {xs : List Stay}, ys.length = xs.length → (∀ (i : Nat) (y : V), ys[i]? = some y → ∃ x, xs[i]? = some x ∧ StayV H y x) → StaysV H ys xs
  | [], [], _, _ => .nil
  | [], _ :: _, h, _ => by simp at h
  | _ :: _, [], h, _ => by simp at h
  | y :: ys, x :: xs, h, k => by
    obtain ⟨x', e, r⟩ := k 0 y rfl
    simp at e
    subst e
    exact .cons r (stays_of (by simpa using h) fun i y' e => by
      obtain ⟨x', e2, r2⟩ := k (i + 1) y' (by simpa using e)
      exact ⟨x', by simpa using e2, r2⟩)
section
variable {P : Program} {w : World} {K : PySem.W.Frag} {mg : Str → Option Value} {base : Heap}
/-- what making a Party of xs may end in -/
def Making (C CI : Addr) (H : Hp) (xs : List Stay) (Q : VK) (E : XK) : Prop :=
  (firstBad xs = none → ∀ (p : Addr) (H' : Hp), Same H H' → H p = none → PartyAt C H' p xs → Q (.ref p) H') ∧
  ∀ i, firstBad xs = some i → ∀ (H' : Hp) (d : Addr), Same H H' → H d = none → H' d = some (.xd [(("index" : Str), .int (i : Nat))]) → E (.ref CI) (some d) H'
theorem Making.after {C CI : Addr} {H H1 : Hp} {xs : List Stay} {Q : VK} {E : XK} (m : Making C CI H xs Q E) (s : Same H H1) : Making C CI H1 xs Q E :=
  ⟨fun h p H' s' hp P => m.1 h p H' (s.trans s') (s.free hp) P, fun i h H' d s' hd e => m.2 i h H' d (s.trans s') (s.free hd) e⟩
def spPAdd (C CI : Addr) : Sp := fun vs H Q E => ∃ (p q : Addr) (xs ys : List Stay), vs = [.ref p, .ref q] ∧ PartyAt C H p xs ∧ PartyAt C H q ys ∧ Short xs ∧ Short ys ∧ xs.length + ys.length ≤ 1000 ∧ Making C CI H (xs ++ ys) Q E
theorem scPAdd : FnScope ["self", "other", "stays"] ["self", "other"] (defScope sPAdd) := ⟨rfl, rfl, rfl, by decide +kernel, rfl, by decide +kernel, by decide +kernel⟩
theorem ok_padd {f C CI fI : Addr} {fd : FuncData} (F : Fun K "__add__" "Party.__add__" sPAdd f fd) (PC : PartyC K mg C) (M : Mk K C fI) (GI : FnR P w K mg base (L2.CX P w) 5 fI (spPNew C CI)) :
    FnOk P w K mg base (L2.CX P w) 7 f fd ["self", "other"] (spPAdd C CI) := by
  refine F.okX scPAdd (fun vs H Q E h => ?_) (fun cdv A outer s H vs Q E hr h => ?_)
  · obtain ⟨p, q, xs, ys, rfl, _⟩ := h
    rfl
  · obtain ⟨p, q, xs, ys, rfl, ⟨dx, a, ws, h1, h2, h3⟩, ⟨dy, b, zs, g1, g2, g3⟩, hsx, hsy, hz, k⟩ := h
    have nd := scPAdd.nd
    have pass : Passes (L2.CX P w) (cxOf (L2.CX P w) P w K mg base ["self", "other", "stays"] "Party.__add__" (defScope sPAdd) f cdv A outer s H E) E := passes_call (takes_of rfl rfl rfl rfl) fun _ _ _ _ z => z
    refine ⟨_, pss_cons (ps_set (i := 2) nd rfl (Or.inl rfl) (pe_op op_catA (pe_fld (pv 0) rfl) (pe_fld (pv 1) rfl))) (pss_one (ps_ret (pe_makeS M GI hr rfl PC.gm pass (pv 2)))), ?_⟩
    refine ⟨_, rfl, p, C, dx, _, .ref a, rfl, h1, PC.cl, PC.nS, lk_stays _, _, rfl, q, C, dy, _, .ref b, rfl, g1, PC.cl, PC.nS, lk_stays _, ?_⟩
    have l1 := pair_len h3
    have l2 := pair_len g3
    have l3 : ws.length + zs.length ≤ 1000 := by omega
    refine cat_one (SqT.of h2) (SqT.of g2) (Nat.le_trans l3 (by decide)) fun c H' s' hc => ?_
    have k' := k.after s'
    refine ⟨_, rfl, c, ws ++ zs, rfl, .inl hc, ?_⟩
    exact party_new (paired_append (h3.same s') (g3.same s')) (hsx.append hsy) (by rw [List.length_append]; exact Nat.le_trans l3 (by decide)) k'.1 k'.2
def spPShift (C CI : Addr) : Sp := fun vs H Q E => ∃ (p : Addr) (n : Int) (xs : List Stay), vs = [.ref p, .int n] ∧ PartyAt C H p xs ∧ Short xs ∧ xs.length ≤ 1000 ∧ Making C CI H (moved n xs) Q E
theorem scPShift : FnScope ["self", "ticks", "stays", "name", "come", "go"] ["self", "ticks"] (defScope sPShift) := ⟨rfl, rfl, rfl, by decide +kernel, rfl, by decide +kernel, by decide +kernel⟩
theorem ok_pshift {f C CI fI : Addr} {fd : FuncData} (F : Fun K "__rshift__" "Party.__rshift__" sPShift f fd) (PC : PartyC K mg C) (M : Mk K C fI) (GI : FnR P w K mg base (L2.CX P w) 5 fI (spPNew C CI)) :
    FnOk P w K mg base (L2.CX P w) 7 f fd ["self", "ticks"] (spPShift C CI) := by
  refine F.okX scPShift (fun vs H Q E h => ?_) (fun cdv A outer s H vs Q E hr h => ?_)
  · obtain ⟨p, n, xs, rfl, _⟩ := h
    rfl
  · obtain ⟨p, n, xs, rfl, ⟨dx, a, ws, h1, h2, h3⟩, hsx, hz, k⟩ := h
    have nd := scPShift.nd
    have pass : Passes (L2.CX P w) (cxOf (L2.CX P w) P w K mg base ["self", "ticks", "stays", "name", "come", "go"] "Party.__rshift__" (defScope sPShift) f cdv A outer s H E) E := passes_call (takes_of rfl rfl rfl rfl) fun _ _ _ _ z => z
    refine ⟨_, pss_cons (ps_setLc (i := 2) (own := [("name", 3), ("come", 4), ("go", 5)]) (g := gTup K 3 (gCons (gName 3) (gCons (gName 4) (gCons (gName 5) gNil)))) (tt := tYes) rfl nd rfl rfl (sw_true rfl rfl rfl (by decide +kernel))
        (pi_tup (pe_fld (pv 0) rfl)) (blkOk_by (own := [("name", 3), ("come", 4), ("go", 5)]) (N := ["self", "ticks", "stays", "name", "come", "go"]) (sc := defScope sPShift) (by decide +kernel))
        (fun _ _ _ _ _ => pg_tup rfl (pgs_cons (pg_name (i := 3) nd rfl (Or.inl rfl)) (pgs_cons (pg_name (i := 4) nd rfl (Or.inl rfl)) (pgs_cons (pg_name (i := 5) nd rfl (Or.inl rfl)) pgs_nil))))
        (fun _ _ _ _ _ => pts_nil) (fun _ _ _ _ _ => pe_tup (pa_cons (pv 3) (pa_cons (pe_op op_add (pv 4) (pv 1)) (pa_cons (pe_op op_add (pv 5) (pv 1)) pa_nil)))))
      (pss_one (ps_ret (pe_makeS M GI hr rfl PC.gm pass (pv 2)))), ?_⟩
    have l1 := pair_len h3
    refine ⟨_, rfl, p, C, dx, _, .ref a, rfl, h1, PC.cl, PC.nS, lk_stays _, a, rfl, ⟨_, SqT.of h2⟩, fun D hD => ?_⟩
    refine lc_rel walk_tup (fun i y H => ∃ x, (moved n xs)[i]? = some x ∧ StayV H y x) hD (by rw [l1]; exact Nat.le_trans hz (by decide)) (fun H1 s1 => SqT.of (s1 _ _ h2)) (fun i y H H' st r => ?_) (fun i v H1 H' hi s1 y R k1 => ?_) fun H1 ys s1 e1 e2 e3 => ?_
    · obtain ⟨x, e, t, e2, e3⟩ := r
      exact ⟨x, e, t, e2, st _ _ e3⟩
    · obtain ⟨rfl, e2⟩ := y
      obtain ⟨x, hx, t, rfl, ht⟩ := pair_get h3 e2
      refine ⟨t, _, rfl, SqT.of (s1 _ _ ht), rfl, _, _, rfl, _, _, rfl, _, _, rfl, rfl, rfl, _, rfl, _, rfl, _, rfl, _, _, rfl, rfl, _, rfl, _, rfl, _, _, rfl, rfl, by show 3 ≤ sizeLine; decide, fun q hq => ?_⟩
      refine k1 _ _ (fun b o e => by rw [upd_ne (ne_of_none e hq)]; exact e) ⟨(x.1, x.2.1 + n, x.2.2 + n), ?_, q, rfl, upd_same⟩
      unfold moved
      rw [List.getElem?_map, hx]
      rfl
    · have lm : (moved n xs).length = xs.length := by
        unfold moved
        rw [List.length_map]
      have sv : StaysV H1 ys (moved n xs) := stays_of (by rw [e2, lm, l1]) e3
      have k' := k.after s1
      refine ⟨_, rfl, D, ys, rfl, .inr (SqL.of e1), ?_⟩
      exact party_new sv (hsx.moved n) (by rw [e2, l1]; exact Nat.le_trans hz (by decide)) k'.1 k'.2
end
end Sh1
set_option Elab.async false
set_option linter.all false
set_option maxRecDepth 100000
set_option maxHeartbeats 2000000
namespace Sh1
open PySem L2 Sho NdefX
/-- a def of which nothing is promised -/
theorem ok_no {P : Program} {w : World} {K : PySem.W.Frag} {mg : Str → Option Value} {base : Heap} {CX : CXT} {k : Nat} {f : Addr} {fd : FuncData} {ps : List Str} : FnOk P w K mg base CX k f fd ps (fun _ _ _ _ => False) :=
  ⟨fun _ _ _ _ h => h.elim, fun _ _ _ _ _ _ _ _ _ _ _ _ _ h => h.elim⟩
/-- an own error without a field -/
structure ErrN (K : PySem.W.Frag) (mg : Str → Option Value) (x : Str) (C : Addr) : Prop where
  ex : PySem.W.excIn K C [.type "ValueError", .type "Exception", .type "BaseException", .type "object"] "ValueError.__new__" = true
  gm : mg x = some (.ref C)
  kp : PySem.W.keepIn K (.ref C) = true
  be : PySem.W.subIn K (.ref C) (.type "BaseException") = some true
  ty : PySem.W.typeIn K (.ref C) = some (.type "type")
  exm : PySem.W.exmOne K (.ref C) (.ref C) = some true
section
variable {P : Program} {w : World} {K : PySem.W.Frag} {mg : Str → Option Value} {base : Heap}
/-! ### unknown guests, wrong ticks -/
def Unknown (C CU : Addr) (vs : List V) (H : Hp) (E : XK) : Prop := ∃ (p : Addr) (z : Str) (xs : List Stay), vs = [.ref p, .str z] ∧ PartyAt C H p xs ∧ Short xs ∧ Valid xs ∧ z.length ≤ 100000 ∧ guest xs z = none ∧
  ∀ (H' : Hp) (d : Addr), Same H H' → H d = none → H' d = some (.xd [(("name" : Str), .str z)]) → E (.ref CU) (some d) H'
def spPCall (C CU : Addr) : Sp := fun vs H _ E => Unknown C CU vs H E
theorem scPCall : FnScope ["self", "name"] ["self", "name"] (defScope sPCall) := ⟨rfl, rfl, rfl, by decide +kernel, rfl, by decide +kernel, by decide +kernel⟩
theorem ok_pcall {f C CU fS fL : Addr} {fd fdS fdL : FuncData} (F : Fun K "__call__" "Party.__call__" sPCall f fd) (B : Blt mg) (PC : PartyC K mg C)
    (GS : FnOk P w K mg base (L2.CX P w) 3 fS fdS ["self", "name"] (spStayOf C CU)) (mS : Meth K C "_stay_of" fS) (bS : Binds K fdS ["self", "name"] [])
    (mL : mg "lifted_from" = some (.ref fL)) (kL : PySem.W.keepIn K (.ref fL) = true) (bL : Binds K fdL ["stays", "taker"] []) : FnOk P w K mg base (L2.CX P w) 4 f fd ["self", "name"] (spPCall C CU) := by
  refine F.okX scPCall (fun vs H Q E h => ?_) (fun cdv A outer s H vs Q E hr h => ?_)
  · obtain ⟨p, z, xs, rfl, _⟩ := h
    rfl
  · obtain ⟨p, z, xs, rfl, PA, _, _, hz, hg, kBad⟩ := h
    have pass : Passes (L2.CX P w) (cxOf (L2.CX P w) P w K mg base ["self", "name"] "Party.__call__" (defScope sPCall) f cdv A outer s H E) E := passes_call (takes_of rfl rfl rfl rfl) fun _ _ _ _ z => z
    refine ⟨_, pss_one (ps_ret (pe_callB call_len_seq (by rfl) B.len PySem.boot_len (pa_cons (pe_call (ok_no (CX := CX0) (k := 0) (fd := fdL) (ps := ["stays", "taker"])) (hr.mono (by decide)) rfl mL kL bL .nil pass0
      (pa_cons (pe_fld (pv 0) rfl) (pa_cons (pe_meth (pv 0) PC.cl mS GS hr bS .nil pass (pa_cons (pv 1) pa_nil)) pa_nil))) pa_nil))), ?_⟩
    obtain ⟨dx, a, ws, h1, h2, h3⟩ := id PA
    refine ⟨_, rfl, p, C, dx, _, .ref a, rfl, h1, PC.cl, PC.nS, lk_stays _, _, rfl, p, dx, _, rfl, h1, no_meth _ (by decide +kernel), _, rfl, p, z, xs, rfl, PA, hz, fun x t hx _ => ?_, fun _ => kBad⟩
    rw [hg] at hx
    cases hx
def spPPile (C CT : Addr) : Sp := fun vs H _ E => ∃ (p : Addr) (n : Int) (xs : List Stay), vs = [.ref p, .int n] ∧ okTick n = false ∧ n.natAbs.log2 < 1920 ∧ E (.ref CT) none H
theorem scPPile : FnScope ["self", "tick"] ["self", "tick"] (defScope sPPile) := ⟨rfl, rfl, rfl, by decide +kernel, rfl, by decide +kernel, by decide +kernel⟩
theorem ok_ppile {f C CT fT : Addr} {fd fdT : FuncData} (F : Fun K "pile_at" "Party.pile_at" sPPile f fd) (EC : ErrN K mg "InvalidTick" CT)
    (GT : FnOk P w K mg base CX0 2 fT fdT ["number"] spIsTick) (mT : mg "is_tick" = some (.ref fT)) (kT : PySem.W.keepIn K (.ref fT) = true) (bT : Binds K fdT ["number"] []) : FnOk P w K mg base (L2.CX P w) 3 f fd ["self", "tick"] (spPPile C CT) := by
  refine F.okX scPPile (fun vs H Q E h => ?_) (fun cdv A outer s H vs Q E hr h => ?_)
  · obtain ⟨p, n, xs, rfl, _⟩ := h
    rfl
  · obtain ⟨p, n, xs, rfl, hn, hl, kBad⟩ := h
    refine ⟨_, pss_cons (ps_if (pt_not (pt_val (pe_call GT (hr.mono (by decide)) rfl mT kT bT .nil pass0 (pa_cons (pv 1) pa_nil))))
        (pss_one (ps_raise rfl (takes_of rfl rfl rfl rfl) (SkE.pmk_own1 PySem.F.excBase_ValueError EC.ex EC.gm EC.kp (raises_own EC.be EC.ty) (by rfl) (pe_joined (.cons (pe_fmt (pv 1)) (.cons pe_str .nil)))))) pss_nil) (pss_one ps_never), ?_⟩
    refine ⟨_, rfl, n, rfl, _, rfl, ?_⟩
    rw [hn]
    refine iteT ⟨_, rfl, .inr ⟨n, rfl, hl, _, rfl, ?_, _, rfl, ?_, kBad⟩⟩
    · exact Nat.le_trans (small_cat (n := 0) (m := 1921) (by decide) (PyProof.Rows.int_text_len_1921 hl)) (by decide)
    · exact Nat.le_trans (small_cat (n := 1921) (m := 100) (small_cat (n := 0) (m := 1921) (by decide) (PyProof.Rows.int_text_len_1921 hl)) (by decide +kernel)) (by decide)
/-- what an operator of Party with a text or an int asks of the written part -/
structure OpC (K : PySem.W.Frag) (C : Addr) (op rop : Str) (T : String) (f : Addr) : Prop where
  one : PySem.W.findIn K (.ref C) op = some (some (.ref f))
  fn : PySem.W.isFn K (.ref f) = true
  r : ∃ rc, PySem.W.findIn K (.ref C) rop = some rc ∧ (rc = none ∨ ∃ g : Addr, rc = some (.ref g))
  t1 : ∃ fo, PySem.W.findIn K (.type T) op = some fo
  t2 : ∃ ro, PySem.W.findIn K (.type T) rop = some ro
  sub : PySem.W.subIn K (.type T) (.ref C) = some false
theorem sub_str {X : Cx} {CX : CXT} {k : Nat} {f C : Addr} {sp : Sp} {E : XK} (F : FnR X.prog X.w X.K X.mg X.base CX k f sp) (hr : Room k X.A) (hx : Passes CX X E) (hc : PySem.W.selfFirst X.K C = true) (O : OpC X.K C "__sub__" "__rsub__" "str" f) :
    OpR X (binaryOp .Sub) (rOwnT C sp E isStr) := by
  obtain ⟨rc, r1, r2⟩ := O.r
  obtain ⟨fo, t1⟩ := O.t1
  obtain ⟨ro, t2⟩ := O.t2
  exact op_ownT (op := .Sub) (T := "str") F hr hx hc ty_str O.one O.fn r1 r2 t1 t2 O.sub
theorem shift_int {X : Cx} {CX : CXT} {k : Nat} {f C : Addr} {sp : Sp} {E : XK} (F : FnR X.prog X.w X.K X.mg X.base CX k f sp) (hr : Room k X.A) (hx : Passes CX X E) (hc : PySem.W.selfFirst X.K C = true) (O : OpC X.K C "__rshift__" "__rrshift__" "int" f) :
    OpR X (binaryOp .RShift) (rOwnT C sp E isInt) := by
  obtain ⟨rc, r1, r2⟩ := O.r
  obtain ⟨fo, t1⟩ := O.t1
  obtain ⟨ro, t2⟩ := O.t2
  exact op_ownT (op := .RShift) (T := "int") F hr hx hc ty_int O.one O.fn r1 r2 t1 t2 O.sub
theorem ins_party {C : Addr} {H : Hp} {p : Addr} {xs : List Stay} (h : PartyAt C H p xs) : InsAt H p C := by
  obtain ⟨dx, a, ws, h1, _⟩ := h
  exact ⟨dx, _, h1⟩
theorem scChange : FnScope ["party", "name", "smaller", "changes", "other", "before", "after"] ["party", "name"] (defScope sChange) := ⟨rfl, rfl, rfl, by decide +kernel, rfl, by decide +kernel, by decide +kernel⟩
theorem ok_change {f C CU fS : Addr} {fd fdS : FuncData} (F : Fun K "change_without" "change_without" sChange f fd) (hc : PySem.W.selfFirst K C = true) (O : OpC K C "__sub__" "__rsub__" "str" fS)
    (GS : FnOk P w K mg base (L2.CX P w) 7 fS fdS ["self", "name"] (spPSub C CU)) (bS : Binds K fdS ["self", "name"] []) : FnOk P w K mg base (L2.CX P w) 8 f fd ["party", "name"] (fun vs H _ E => Unknown C CU vs H E) := by
  refine F.okX scChange (fun vs H Q E h => ?_) (fun cdv A outer s H vs Q E hr h => ?_)
  · obtain ⟨p, z, xs, rfl, _⟩ := h
    rfl
  · obtain ⟨p, z, xs, rfl, PA, hs, hv, hz, hg, kBad⟩ := h
    have pass : Passes (L2.CX P w) (cxOf (L2.CX P w) P w K mg base ["party", "name", "smaller", "changes", "other", "before", "after"] "change_without" (defScope sChange) f cdv A outer s H E) E := passes_call (takes_of rfl rfl rfl rfl) fun _ _ _ _ z => z
    refine ⟨_, pss_cons (ps_set (i := 2) scChange.nd rfl (Or.inl rfl) (pe_op (sub_str (fnr_of GS bS) hr pass hc O) (pv 0) (pv 1))) pss_never, ?_⟩
    refine ⟨_, rfl, _, rfl, p, rfl, ⟨z, rfl⟩, ins_party PA, p, z, xs, rfl, PA, hs, hv, hz, fun x hx => ?_, fun _ => kBad⟩
    rw [hg] at hx
    cases hx
end
end Sh1
set_option Elab.async false
set_option linter.all false
set_option maxRecDepth 100000
set_option maxHeartbeats 2000000
namespace Sh1
open PySem L2 Sho NdefX
/-! ### draws: the state is the list at l -/
structure DrawSt (K : PySem.W.Frag) (H : Hp) (l a : Addr) (ns : List Int) : Prop where
  ex : ∃ pos seed rest : Int, H l = some (.lst [.ref a, .int pos, .int seed, .int rest]) ∧ 0 ≤ pos ∧ (0 ≤ seed ∧ seed < 2147483647) ∧ 0 ≤ rest
  sc : SqL K H a (ns.map V.int)
  len : ns.length ≤ 63
/-- all but the object at l stays -/
def But (l : Addr) (H H' : Hp) : Prop := ∀ b o, H b = some o → b ≠ l → H' b = some o
theorem But.trans {l : Addr} {H H1 H2 : Hp} (a : But l H H1) (b : But l H1 H2) : But l H H2 := fun c o e n => b c o (a c o e n) n
theorem But.of {l : Addr} {H H' : Hp} (s : Same H H') : But l H H' := fun b o e _ => s b o e
theorem sql_but {K : PySem.W.Frag} {H H' : Hp} {l a : Addr} {ns : List Int} {r : List V} (hl : H l = some (.lst (.ref a :: r))) (h : SqL K H a (ns.map V.int)) (s : But l H H') : SqL K H' a (ns.map V.int) := by
  have ne : ∀ u, H a = some u → (∀ ys, u = .lst (V.ref a :: ys) → False) → a ≠ l := fun u e k z => by
    rw [z, hl] at e
    exact k r (by rw [← Option.some.inj e, z])
  rcases h with (h | ⟨o, h⟩) | h
  · refine .inl (.inl (s _ _ h (ne _ h fun ys e => ?_)))
    injection e with e
    cases ns with
    | nil => cases e
    | cons n ns => cases e
  · exact .inl (.inr ⟨o, s _ _ h (ne _ h fun ys e => by cases e)⟩)
  · exact .inr h
section
variable {P : Program} {w : World} {K : PySem.W.Frag} {mg : Str → Option Value} {base : Heap}
def spStart (K : PySem.W.Frag) : Sp := fun vs H Q _ => ∃ (a : Addr) (ns : List Int), vs = [.ref a] ∧ SqL K H a (ns.map V.int) ∧ ns.length ≤ 63 ∧ ∀ H' l, Same H H' → H l = none → DrawSt K H' l a ns → Q (.ref l) H'
theorem scStart : FnScope ["_law_script", "_law_mixed", "_law_cell"] ["_law_script"] (defScope sStart) := ⟨rfl, rfl, rfl, by decide +kernel, rfl, by decide +kernel, by decide +kernel⟩
theorem ok_start {f : Addr} {fd : FuncData} (F : Fun K "_law_start" "_law_start" sStart f fd) : FnOk P w K mg base CX0 1 f fd ["_law_script"] (spStart K) := by
  refine F.ok scStart (fun vs H Q E h => ?_) (fun cdv A outer s H vs Q E hr h => ?_)
  · obtain ⟨a, ns, rfl, _⟩ := h
    rfl
  · obtain ⟨a, ns, rfl, ha, hlen, k⟩ := h
    have nd := scStart.nd
    refine ⟨_, pss_cons (ps_set (i := 1) nd rfl (Or.inl rfl) pe_int) (pss_cons (ps_for PassesOwn.never rfl (pi_list (pv 0)) (pg_name (i := 2) nd rfl (Or.inl rfl))
        (pss_one (ps_set (i := 1) nd rfl (Or.inl rfl) (pe_op op_mod (pe_op op_add (pe_op op_add (pe_op op_mul (pv 1) pe_int) (pv 2)) pe_int) pe_int))))
      (pss_one (ps_ret (pe_lst (pa_cons (pv 0) (pa_cons pe_int (pa_cons (pv 1) (pa_cons pe_int pa_nil)))))))), ?_⟩
    refine ⟨_, rfl, a, rfl, ⟨_, ha⟩, for_it walk_list (fun i σ H2 => ∃ (m : Int) (o : Option V), σ = [some (.ref a), some (.int m), o] ∧ H2 = H ∧ 0 ≤ m ∧ m < 2147483647) ⟨1, none, rfl, rfl, by decide, by decide⟩
      (fun i σ H2 _ ⟨_, _, _, e, _⟩ => by rw [e]; exact ha) ?_ ?_⟩
    · rintro i y σ H2 H3 hi ⟨m, o, rfl, rfl, m0, m1⟩ ⟨rfl, e2⟩
      obtain ⟨c, rfl⟩ : ∃ c, y = V.int c := by
        rw [List.getElem?_map] at e2
        cases e : ns[i]? with
        | none =>
          rw [e] at e2
          cases e2
        | some c =>
          rw [e] at e2
          exact ⟨c, (Option.some.inj e2).symm⟩
      refine ⟨_, rfl, _, _, rfl, rfl, .inr ⟨by decide, by decide⟩, _, rfl, _, _, rfl, rfl, _, _, rfl, rfl, _, _, rfl, rfl, (by show (0 : Int) < 2147483647; decide), ?_⟩
      exact ⟨_, _, rfl, rfl, Int.emod_nonneg _ (by decide), Int.emod_lt_of_pos _ (by decide)⟩
    · rintro σ H2 ⟨m, o, rfl, rfl, m0, m1⟩
      refine ⟨_, rfl, _, rfl, by show 4 ≤ sizeLine; decide, fun l hl => ?_⟩
      have s1 : Same H2 (upd H2 l (.lst [.ref a, .int 0, .int m, .int 0])) := fun b o e => by rw [upd_ne (ne_of_none e hl)]; exact e
      exact k _ l s1 hl ⟨⟨0, m, 0, upd_same, by decide, ⟨m0, m1⟩, by decide⟩, s1.seq ha, hlen⟩
def spDrawn (K : PySem.W.Frag) : Sp := fun vs H Q _ => ∃ (l a : Addr) (ns : List Int) (n : Int), vs = [.ref l, .int n] ∧ DrawSt K H l a ns ∧ 0 < n ∧ n < 1073741824 ∧ ∀ (r : Int) H', 0 ≤ r → r < n → But l H H' → DrawSt K H' l a ns → Q (.int r) H'
theorem scDrawn : FnScope ["_law_state", "_law_count", "_law_result", "_law_cell"] ["_law_state", "_law_count"] (defScope sDrawn) := ⟨rfl, rfl, rfl, by decide +kernel, rfl, by decide +kernel, by decide +kernel⟩
theorem ok_drawn {f : Addr} {fd : FuncData} (F : Fun K "_law_drawn" "_law_drawn" sDrawn f fd) (B : Blt mg) : FnOk P w K mg base CX0 1 f fd ["_law_state", "_law_count"] (spDrawn K) := by
  refine F.ok scDrawn (fun vs H Q E h => ?_) (fun cdv A outer s H vs Q E hr h => ?_)
  · obtain ⟨l, a, ns, n, rfl, _⟩ := h
    rfl
  · obtain ⟨l, a, ns, n, rfl, ⟨⟨pos, seed, rest, hl, p0, ⟨s0, s1⟩, r0⟩, hsc, hlen⟩, n0, n1, k⟩ := h
    have nd := scDrawn.nd
    refine ⟨_, pss_cons (ps_if (pt_cmpR op_gt (pe_ix ix_list (pv 0) pe_int (fun _ _ => rfl)) pe_int (nomark _))
        (pss_cons (ps_set (i := 2) nd rfl (Or.inl rfl) (pe_op op_mod (pe_ix ix_list (pv 0) pe_int (fun _ _ => rfl)) (pv 1)))
          (pss_cons (ps_asg (pe_op op_fdiv (pe_ix ix_list (pv 0) pe_int (fun _ _ => rfl)) (pv 1)) (pg_sub (pv 0) pe_int set_list))
          (pss_one (ps_ret (pv 2))))) pss_nil)
      (pss_cons (ps_asg (pe_op op_add (pe_ix ix_list (pv 0) pe_int (fun _ _ => rfl)) pe_int) (pg_sub (pv 0) pe_int set_list))
      (pss_cons (ps_if (pt_cmpR op_le (pe_ix ix_list (pv 0) pe_int (fun _ _ => rfl)) (pe_callB call_len_seq (by rfl) B.len PySem.boot_len (pa_cons (pe_ix ix_list (pv 0) pe_int (fun _ _ => rfl)) pa_nil)) (nomark _))
        (pss_cons (ps_set (i := 3) nd rfl (Or.inl rfl) (pe_ix ix_list (pe_ix ix_list (pv 0) pe_int (fun _ _ => rfl)) (pe_op op_sub (pe_ix ix_list (pv 0) pe_int (fun _ _ => rfl)) pe_int) (fun _ _ => rfl)))
          (pss_cons (ps_asg (pe_ifExp (pt_cmpR op_ge (pv 3) (pe_op op_pow pe_int pe_int) (nomark _)) (pe_op op_fdiv (pv 3) (pv 1)) pe_int) (pg_sub (pv 0) pe_int set_list))
          (pss_one (ps_ret (pe_op op_mod (pv 3) (pv 1)))))) pss_nil)
      (pss_cons (ps_asg (pe_op op_mod (pe_op op_add (pe_op op_mul (pe_ix ix_list (pv 0) pe_int (fun _ _ => rfl)) pe_int) pe_int) pe_int) (pg_sub (pv 0) pe_int set_list))
      (pss_one (ps_ret (pe_op op_mod (pe_op op_fdiv (pe_ix ix_list (pv 0) pe_int (fun _ _ => rfl)) pe_int) (pv 1))))))), ?_⟩
    have upBut : ∀ {H1 : Hp} {o : HO}, But l H1 (upd H1 l o) := fun {H1 o} b u e nb => by rw [upd_ne nb]; exact e
    have fin : ∀ (r p' s' r' : Int) (H1 : Hp), 0 ≤ r → r < n → But l H H1 → H1 l = some (.lst [.ref a, .int p', .int s', .int r']) → 0 ≤ p' → 0 ≤ s' → s' < 2147483647 → 0 ≤ r' → Q (.int r) H1 := fun r p' s' r' H1 a1 a2 bu e b1 b2 b3 b4 =>
      k r H1 a1 a2 bu ⟨⟨p', s', r', e, b1, ⟨b2, b3⟩, b4⟩, sql_but hl hsc bu, hlen⟩
    refine ⟨_, rfl, l, _, 3, .int rest, rfl, rfl, SqL.of hl, atI_nat (j := 3) rfl, _, _, rfl, rfl, _, rfl, ?_⟩
    refine ite2 (fun h1 => ?_) (fun h1 => ?_)
    · refine ⟨_, rfl, l, _, 3, .int rest, rfl, rfl, SqL.of hl, atI_nat (j := 3) rfl, _, rfl, _, _, rfl, rfl, n0, _, rfl, l, _, 3, .int rest, rfl, rfl, SqL.of hl, atI_nat (j := 3) rfl, _, rfl, _, _, rfl, rfl, ⟨n0, n1⟩, _, rfl, l, _, 3, 3, rfl, rfl, hl, rfl, _, rfl, ?_⟩
      exact fin _ pos seed (rest / n) _ (Int.emod_nonneg _ (by omega)) (Int.emod_lt_of_pos _ n0) upBut upd_same p0 s0 s1 (Int.ediv_nonneg r0 (by omega))
    · refine ⟨_, rfl, l, _, 1, .int pos, rfl, rfl, SqL.of hl, atI_nat (j := 1) rfl, _, _, rfl, rfl, _, rfl, l, _, 1, 1, rfl, rfl, hl, rfl, ?_⟩
      generalize hH1 : upd H l (.lst ([V.ref a, .int pos, .int seed, .int rest].set 1 (.int (pos + 1)))) = H1
      have hl1 : H1 l = some (.lst [.ref a, .int (pos + 1), .int seed, .int rest]) := by rw [← hH1]; exact upd_same
      have b1 : But l H H1 := by rw [← hH1]; exact upBut
      have sc1 := sql_but hl hsc b1
      refine ⟨_, rfl, l, _, 1, .int (pos + 1), rfl, rfl, SqL.of hl1, atI_nat (j := 1) rfl, _, rfl, l, _, 0, .ref a, rfl, rfl, SqL.of hl1, atI_nat (j := 0) rfl, a, _, rfl, .inl sc1, _, _, rfl, rfl, _, rfl, ?_⟩
      refine ite2 (fun h2 => ?_) (fun h2 => ?_)
      · have h2' : pos + 1 ≤ ((ns.map V.int).length : Nat) := of_decide_eq_true h2
        rw [List.length_map] at h2'
        have lt : pos.toNat < ns.length := by omega
        obtain ⟨c, hc⟩ : ∃ c, ns[pos.toNat]? = some c := ⟨_, List.getElem?_eq_getElem lt⟩
        have hci : atI (ns.map V.int) (pos + 1 - 1) = some (.int c) := by
          have e : pos + 1 - 1 = ((pos.toNat : Nat) : Int) := by omega
          rw [e]
          refine atI_nat ?_
          rw [List.getElem?_map, hc]
          rfl
        refine ⟨_, rfl, l, _, 0, .ref a, rfl, rfl, SqL.of hl1, atI_nat (j := 0) rfl, _, rfl, l, _, 1, .int (pos + 1), rfl, rfl, SqL.of hl1, atI_nat (j := 1) rfl, _, _, rfl, rfl, a, _, _, .int c, rfl, rfl, sc1, hci, ?_⟩
        refine ⟨_, rfl, _, _, rfl, rfl, ⟨by decide, by decide, by decide⟩, _, _, rfl, rfl, _, rfl, ?_⟩
        have last : ∀ r' : Int, 0 ≤ r' → Q (.int (c % n)) (upd H1 l (.lst ([V.ref a, .int (pos + 1), .int seed, .int rest].set 3 (.int r')))) := fun r' hr' =>
          fin _ (pos + 1) seed r' _ (Int.emod_nonneg _ (by omega)) (Int.emod_lt_of_pos _ n0) (b1.trans upBut) upd_same (by omega) s0 s1 hr'
        refine ite2 (fun h3 => ?_) (fun h3 => ?_)
        · have c0 : 0 ≤ c := by
            have h3' := of_decide_eq_true h3
            have : (0 : Int) ≤ 10 ^ (Int.toNat 18) := by decide
            omega
          refine ⟨_, rfl, _, rfl, _, _, rfl, rfl, ⟨n0, n1⟩, _, rfl, l, _, 3, 3, rfl, rfl, hl1, rfl, _, rfl, _, rfl, _, _, rfl, rfl, n0, ?_⟩
          exact last _ (Int.ediv_nonneg c0 (by omega))
        · refine ⟨_, rfl, l, _, 3, 3, rfl, rfl, hl1, rfl, _, rfl, _, rfl, _, _, rfl, rfl, n0, ?_⟩
          exact last 0 (by decide)
      · refine ⟨_, rfl, l, _, 2, .int seed, rfl, rfl, SqL.of hl1, atI_nat (j := 2) rfl, _, _, rfl, rfl, .inr ⟨by decide, by decide⟩, _, _, rfl, rfl, _, _, rfl, rfl, (by show (0 : Int) < 2147483647; decide), _, rfl, l, _, 2, 2, rfl, rfl, hl1, rfl, ?_⟩
        refine ⟨_, rfl, l, _, 2, .int ((seed * 48271 + 11) % 2147483647), rfl, rfl, SqL.of upd_same, atI_nat (j := 2) rfl, _, _, rfl, rfl, ⟨by decide, by decide⟩, _, rfl, _, _, rfl, rfl, n0, ?_⟩
        exact fin _ (pos + 1) _ rest _ (Int.emod_nonneg _ (by omega)) (Int.emod_lt_of_pos _ n0) (b1.trans upBut) upd_same (by omega) (Int.emod_nonneg _ (by decide)) (Int.emod_lt_of_pos _ (by decide)) r0
end
end Sh1
set_option Elab.async false
set_option linter.all false
set_option maxRecDepth 100000
set_option maxHeartbeats 2000000
namespace Sh1
open PySem L2 Sho NdefX
/-- x stands for d, at most n deep: ints, texts, tuples, lists -/
def Leaf (x : V) (d : PyData) : Prop := (∃ i, x = .int i ∧ d = .int i) ∨ ∃ z, x = .str z ∧ d = .str z
def Stands (H : Hp) : Nat → V → PyData → Prop
  | 0, x, d => Leaf x d
  | n + 1, x, d => Leaf x d ∨ (∃ (a : Addr) (xs : List V) (ds : List PyData), x = .ref a ∧ d = .tuple ds ∧ H a = some (.tup xs) ∧ xs.length ≤ 1000 ∧ PySem.Paired (fun y e => Stands H n y e) xs ds)
theorem Stands.same {H H' : Hp} (s : Same H H') : ∀ {n : Nat} {x : V} {d : PyData}, Stands H n x d → Stands H' n x d
  | 0, _, _, h => h
  | n + 1, x, d, h => by
    rcases h with h | ⟨a, xs, ds, e1, e2, e3, e4, e5⟩
    · exact .inl h
    · refine .inr ⟨a, xs, ds, e1, e2, s _ _ e3, e4, ?_⟩
      clear e3 e4 e1 e2
      induction e5 with
      | nil => exact .nil
      | cons h r ih => exact .cons (Stands.same s h) ih
section
variable {P : Program} {w : World} {K : PySem.W.Frag} {mg : Str → Option Value} {base : Heap}
def spSame (n : Nat) : Sp := fun vs H Q _ => ∃ (x y : V) (d : PyData), vs = [x, y] ∧ Stands H n x d ∧ Stands H n y d ∧ ∀ H', Same H H' → Q (.bl true) H'
theorem scSame : FnScope ["_law_result", "_law_expected", "_law_k"] ["_law_result", "_law_expected"] (defScope sSame) := ⟨rfl, rfl, rfl, by decide +kernel, rfl, by decide +kernel, by decide +kernel⟩
theorem kA {K : PySem.W.Frag} {t : String} (h1 : kitB t "tuple" = some false) (h2 : kitB t "list" = some false) : PySem.W.kitAny K (.type t) [.type "tuple", .type "list"] = some false :=
  kitAny_cons (b := false) h1 (fun _ => kitAny_cons (b := false) h2 (fun _ => rfl) fun z => nomatch z) fun z => nomatch z
theorem kT {K : PySem.W.Frag} : PySem.W.kitAny K (.type "tuple") [.type "tuple", .type "list"] = some true :=
  kitAny_cons (b := true) (show kitB "tuple" "tuple" = some true by decide +kernel) (fun z => nomatch z) fun _ => rfl
/-- a leaf's class -/
theorem leaf_ty {K : PySem.W.Frag} {x : V} {d : PyData} (h : Leaf x d) : ∃ t : String, (∀ H, TyX K H x (.type t)) ∧ PySem.W.kitAny K (.type t) [.type "tuple", .type "list"] = some false ∧ kitB t "bool" = some false ∧ ∃ b, kitB t "int" = some b ∧ (b = true → ∃ i, d = .int i) ∧ (b = false → ∃ z, d = .str z) ∧ scal x x = true := by
  rcases h with ⟨i, rfl, rfl⟩ | ⟨z, rfl, rfl⟩
  · exact ⟨"int", fun _ => .base (.int i), kA (by decide +kernel) (by decide +kernel), by decide +kernel, true, by decide +kernel, fun _ => ⟨i, rfl⟩, (fun z => nomatch z), rfl⟩
  · exact ⟨"str", fun _ => .base (.str z), kA (by decide +kernel) (by decide +kernel), by decide +kernel, false, by decide +kernel, (fun z => nomatch z), fun _ => ⟨z, rfl⟩, rfl⟩
theorem leaf_eq {x y : V} {d : PyData} (h : Leaf x d) (k : Leaf y d) : x = y := by
  rcases h with ⟨i, rfl, rfl⟩ | ⟨z, rfl, rfl⟩ <;> rcases k with ⟨j, rfl, e⟩ | ⟨j, rfl, e⟩ <;> cases e <;> rfl
theorem stands_split {H : Hp} {n : Nat} {sp' : Sp} {x y : V} {d : PyData} (hn : n = 0 ∨ ∃ m, n = m + 1 ∧ sp' = spSame m) (hx : Stands H n x d) (hy : Stands H n y d) :
    (Leaf x d ∧ x = y) ∨ ∃ (m : Nat) (a b : Addr) (xs ys : List V) (ds : List PyData), sp' = spSame m ∧ x = .ref a ∧ y = .ref b ∧ H a = some (.tup xs) ∧ H b = some (.tup ys) ∧ xs.length ≤ 1000 ∧
      PySem.Paired (fun y e => Stands H m y e) xs ds ∧ PySem.Paired (fun y e => Stands H m y e) ys ds := by
  rcases hn with rfl | ⟨m, rfl, e⟩
  · exact .inl ⟨hx, leaf_eq hx hy⟩
  · rcases hx with hx | ⟨a, xs, ds, rfl, rfl, h1, h2, h3⟩
    · rcases hy with hy | ⟨b, ys, es, rfl, rfl, _⟩
      · exact .inl ⟨hx, leaf_eq hx hy⟩
      · rcases hx with ⟨i, _, z⟩ | ⟨i, _, z⟩ <;> cases z
    · rcases hy with hy | ⟨b, ys, es, rfl, e2, g1, g2, g3⟩
      · rcases hy with ⟨i, _, z⟩ | ⟨i, _, z⟩ <;> cases z
      · cases e2
        exact .inr ⟨m, a, b, xs, ys, ds, e, rfl, rfl, h1, g1, h2, h3, g3⟩
theorem same_step {k n : Nat} {sp' : Sp} {f : Addr} {fd : FuncData} (F : Fun K "_law_same" "_law_same" sSame f fd) (B : Blt mg) (mF : mg "_law_same" = some (.ref f)) (bF : Binds K fd ["_law_result", "_law_expected"] [])
    (ih : FnOk P w K mg base CX0 k f fd ["_law_result", "_law_expected"] sp') (hn : n = 0 ∨ ∃ m, n = m + 1 ∧ sp' = spSame m) : FnOk P w K mg base CX0 (k + 1) f fd ["_law_result", "_law_expected"] (spSame n) := by
  refine F.ok scSame (fun vs H Q E h => ?_) (fun cdv A outer s H vs Q E hr h => ?_)
  · obtain ⟨x, y, d, rfl, _⟩ := h
    rfl
  · obtain ⟨x, y, d, rfl, hx, hy, kk⟩ := h
    have nd := scSame.nd
    refine ⟨_, pss_cons (ps_if (pt_val (pe_callB call_isiT (by rfl) B.isi (by decide +kernel) (pa_cons (pv 1) (pa_cons (pe_tup (pa_cons (pe_bltn (v := .ty "tuple") (by rfl) B.tuple (by decide +kernel) rfl) (pa_cons (pe_bltn (v := .ty "list") (by rfl) B.list (by decide +kernel) rfl) pa_nil))) pa_nil))))
        (pss_cons (ps_if (PW.pt (pw_or (pt_not (pt_val (pe_callB call_isiT (by rfl) B.isi (by decide +kernel) (pa_cons (pv 0) (pa_cons (pe_tup (pa_cons (pe_bltn (v := .ty "tuple") (by rfl) B.tuple (by decide +kernel) rfl) (pa_cons (pe_bltn (v := .ty "list") (by rfl) B.list (by decide +kernel) rfl) pa_nil))) pa_nil)))))
            (pw_or1 (pt_cmpR op_ne (pe_callB call_isi (by rfl) B.isi (by decide +kernel) (pa_cons (pv 0) (pa_cons (pe_bltn (v := .ty "list") (by rfl) B.list (by decide +kernel) rfl) pa_nil))) (pe_callB call_isi (by rfl) B.isi (by decide +kernel) (pa_cons (pv 1) (pa_cons (pe_bltn (v := .ty "list") (by rfl) B.list (by decide +kernel) rfl) pa_nil))) (nomark _)))))
            (pss_one (ps_ret pe_bl)) pss_nil)
        (pss_cons (ps_if (pt_cmpR op_ne (pe_callB call_len_seq (by rfl) B.len PySem.boot_len (pa_cons (pv 0) pa_nil)) (pe_callB call_len_seq (by rfl) B.len PySem.boot_len (pa_cons (pv 1) pa_nil)) (nomark _)) (pss_one (ps_ret pe_bl)) pss_nil)
        (pss_one (ps_ret (pe_cmpR (op_eqD (hr.mono (Nat.zero_le _)).units) (pe_lc (own := [("_law_k", 2)]) (g := gName 2) (tt := tNot (tB (tCall sp' [] E0 (tCons (tOp (rIxT K) (tVar 0) (tVar 2)) (tCons (tOp (rIxT K) (tVar 1) (tVar 2)) tNil))))) rfl nd
            (pi_range1 (by rfl) B.range (pa_cons (pe_callB call_len_seq (by rfl) B.len PySem.boot_len (pa_cons (pv 1) pa_nil)) pa_nil)) (blkOk_by (own := [("_law_k", 2)]) (N := ["_law_result", "_law_expected", "_law_k"]) (sc := defScope sSame) (by decide +kernel))
            (fun _ _ _ _ _ => pg_name (i := 2) nd rfl (Or.inl rfl))
            (fun _ _ _ _ _ => pts_one (pt_not (pt_val (pe_call ih hr rfl mF F.kp bF .nil pass0 (pa_cons (pe_ix ix_tup (pv 0) (pv 2) (fun _ _ => rfl)) (pa_cons (pe_ix ix_tup (pv 1) (pv 2) (fun _ _ => rfl)) pa_nil))))))
            (fun _ _ _ _ _ => pv 2)) (pe_lst pa_nil) (nomark _)))))) pss_nil)
      (pss_cons (ps_if (pt_cmpR op_ne (pe_callB call_isi (by rfl) B.isi (by decide +kernel) (pa_cons (pv 0) (pa_cons (pe_bltn (v := .ty "bool") (by rfl) B.bool (by decide +kernel) rfl) pa_nil))) (pe_callB call_isi (by rfl) B.isi (by decide +kernel) (pa_cons (pv 1) (pa_cons (pe_bltn (v := .ty "bool") (by rfl) B.bool (by decide +kernel) rfl) pa_nil))) (nomark _)) (pss_one (ps_ret pe_bl)) pss_nil)
      (pss_one (ps_ret (pe_and (pe_cmpR op_eq (pe_callB call_isi (by rfl) B.isi (by decide +kernel) (pa_cons (pv 0) (pa_cons (pe_bltn (v := .ty "int") (by rfl) B.int (by decide +kernel) rfl) pa_nil))) (pe_callB call_isi (by rfl) B.isi (by decide +kernel) (pa_cons (pv 1) (pa_cons (pe_bltn (v := .ty "int") (by rfl) B.int (by decide +kernel) rfl) pa_nil))) (nomark _))
        (pe_one (pe_cmpR op_eq (pv 0) (pv 1) (nomark _))))))), ?_⟩
    rcases stands_split hn hx hy with ⟨hl, e⟩ | ⟨m, a, b, xs, ys, ds, e, rfl, rfl, h1, h2, h3, h4, h5⟩
    · subst e
      obtain ⟨t, ty, ka, kb, bi, ki, ki1, ki2, hsc⟩ := leaf_ty (K := K) hl
      refine ⟨_, rfl, by decide, fun tp htp => ?_⟩
      have s1 : Same H (upd H tp (.tup [.ty "tuple", .ty "list"])) := fun b o e => by rw [upd_ne (ne_of_none e htp)]; exact e
      refine ⟨x, tp, _, .type t, [.type "tuple", .type "list"], false, rfl, upd_same, .cons (.ty _) (.cons (.ty _) .nil), ty _, ka, _, rfl, iteF ?_⟩
      refine ⟨_, rfl, x, _, .type t, .type "bool", false, rfl, .ty _, ty _, kb, _, rfl, x, _, .type t, .type "bool", false, rfl, .ty _, ty _, kb, rfl, _, rfl, iteF ?_⟩
      refine ⟨_, rfl, x, _, .type t, .type "int", bi, rfl, .ty _, ty _, ki, _, rfl, x, _, .type t, .type "int", bi, rfl, .ty _, ty _, ki, rfl, true, by rw [decide_eq_true rfl], iteT ⟨_, rfl, _, rfl, hsc, ?_⟩⟩
      rw [decide_eq_true rfl]
      exact kk _ s1
    · subst e
      have lx := pair_len h4
      have ly := pair_len h5
      have new : ∀ {H1 : Hp} {p : Addr} {o : HO}, H1 p = none → Same H1 (upd H1 p o) := fun {H1 p o} hp b u e => by rw [upd_ne (ne_of_none e hp)]; exact e
      refine ⟨_, rfl, by decide, fun tp htp => ?_⟩
      have s1 := new (o := .tup [.ty "tuple", .ty "list"]) htp
      refine ⟨.ref b, tp, _, .type "tuple", [.type "tuple", .type "list"], true, rfl, upd_same, .cons (.ty _) (.cons (.ty _) .nil), .base (.tup (s1 _ _ h2)), kT, _, rfl, iteT ?_⟩
      refine ⟨_, rfl, by decide, fun tq htq => ?_⟩
      have s2 := s1.trans (new (o := .tup [.ty "tuple", .ty "list"]) htq)
      refine ⟨.ref a, tq, _, .type "tuple", [.type "tuple", .type "list"], true, rfl, upd_same, .cons (.ty _) (.cons (.ty _) .nil), .base (.tup (s2 _ _ h1)), kT, _, rfl, iteF ?_⟩
      refine ⟨_, rfl, .ref a, _, .type "tuple", .type "list", false, rfl, .ty _, .base (.tup (s2 _ _ h1)), kit_ty (by decide +kernel), _, rfl, .ref b, _, .type "tuple", .type "list", false, rfl, .ty _, .base (.tup (s2 _ _ h2)), kit_ty (by decide +kernel), rfl, _, rfl, iteF ?_⟩
      generalize upd (upd H tp (.tup [.ty "tuple", .ty "list"])) tq (.tup [.ty "tuple", .ty "list"]) = H2 at s2
      refine ⟨_, rfl, a, xs, rfl, .inr (SqT.of (s2 _ _ h1)), _, rfl, b, ys, rfl, .inr (SqT.of (s2 _ _ h2)), rfl, false, ?_, iteF ?_⟩
      · have e : (xs.length : Int) = (ys.length : Int) := by rw [lx, ly]
        rw [e, decide_eq_true rfl]
        rfl
      · have hlen : (ys.length : Int).toNat = ys.length := by simp
        have l1000 : ys.length ≤ 1000 := by omega
        refine ⟨_, rfl, b, ys, rfl, .inr (SqT.of (s2 _ _ h2)), (ys.length : Nat), rfl, by omega, by omega, fun D hD => ?_⟩
        refine lc_gather walk_range (fun _ => none) hD (by rw [hlen]; exact Nat.le_trans l1000 (by decide)) (fun _ _ => trivial) (fun i v H3 H4 hi s3 yv R k1 => ?_) fun H3 s3 e3 => ?_
        · obtain ⟨rfl, rfl⟩ := yv
          rw [hlen] at hi
          obtain ⟨y', hy'⟩ : ∃ y', ys[i]? = some y' := ⟨_, List.getElem?_eq_getElem hi⟩
          obtain ⟨x', hx'⟩ : ∃ x', xs[i]? = some x' := ⟨_, List.getElem?_eq_getElem (by omega)⟩
          obtain ⟨e1, he1, st1⟩ := pair_get h4 hx'
          obtain ⟨e2, he2, st2⟩ := pair_get h5 hy'
          rw [he1] at he2
          cases he2
          have s23 := s2.trans s3
          have zi : (0 : Int) + (i : Nat) = (i : Nat) := by omega
          refine ⟨rfl, _, rfl, _, rfl, a, xs, _, x', rfl, rfl, SqT.of (s23 _ _ h1), by rw [zi]; exact atI_nat hx', _, rfl, _, rfl, b, ys, _, y', rfl, rfl, SqT.of (s23 _ _ h2), by rw [zi]; exact atI_nat hy', ?_⟩
          exact ⟨x', y', e1, rfl, st1.same s23, st2.same s23, fun H5 s5 => ⟨_, rfl, iteF (k1 _ s5)⟩⟩
        · have g0 : gather (fun _ => none) ((ys.length : Int).toNat) = [] := by
            unfold gather
            simp
          rw [g0] at e3
          refine ⟨by decide, fun L hL => ?_⟩
          have s4 := new (o := .lst []) hL
          exact ⟨.list [], .list [], .lst (SqL.of (s4 _ _ e3)) .nil, .lst (SqL.of upd_same) .nil, rfl, rfl, kk _ ((s2.trans s3).trans s4)⟩
theorem ok_same {f : Addr} {fd : FuncData} (F : Fun K "_law_same" "_law_same" sSame f fd) (B : Blt mg) (mF : mg "_law_same" = some (.ref f)) (bF : Binds K fd ["_law_result", "_law_expected"] []) : ∀ n, FnOk P w K mg base CX0 (n + 1) f fd ["_law_result", "_law_expected"] (spSame n)
  | 0 => same_step F B mF bF ok_no (.inl rfl)
  | n + 1 => same_step F B mF bF (ok_same F B mF bF n) (.inr ⟨n, rfl, rfl⟩)
end
end Sh1
set_option Elab.async false
set_option linter.all false
set_option maxRecDepth 100000
set_option maxHeartbeats 2000000
/-! list(text). -/
namespace Sho
open PySem PySem.Spec PyProof.Rows L2
def signs (z : Str) : List V := z.cps.toList.map fun c => V.str ⟨#[c]⟩
theorem paired_of {α β : Type} {R : α → β → Prop} : ∀ {as : List α} {bs : List β}, as.length = bs.length → (∀ (i : Nat) (b : β), bs[i]? = some b → ∃ a, as[i]? = some a ∧ R a b) → PySem.Paired R as bs
  | [], [], _, _ => .nil
  | [], _ :: _, h, _ => by simp at h
  | _ :: _, [], h, _ => by simp at h
  | a :: as, b :: bs, h, k => by
    obtain ⟨a', e, r⟩ := k 0 b rfl
    simp at e
    subst e
    exact .cons r (paired_of (by simpa using h) fun i b' e => by
      obtain ⟨a', e2, r2⟩ := k (i + 1) b' (by simpa using e)
      exact ⟨a', by simpa using e2, r2⟩)
theorem vals_signs {z : Str} {acc : Array Value} (h : ItemsOf (SignAt z) acc z.cps.size) : Vals (signs z) acc.toList := by
  refine paired_of ?_ fun i v e => ?_
  · unfold signs
    rw [List.length_map, Array.length_toList, Array.length_toList]
    exact h.1.symm
  · rw [Array.getElem?_toList] at e
    obtain ⟨c, t, hc, rfl⟩ := h.2 i v e
    refine ⟨.str ⟨#[c]⟩, ?_, t, rfl⟩
    unfold signs
    rw [List.getElem?_map, Array.getElem?_toList, hc]
    rfl
theorem call_listStr {X : Cx} (hc : X.calm = true) : CallR X (.type "list") (fun xs H Q => ∃ z : Str, xs = [.str z] ∧ z.length ≤ sizeLine ∧ ∀ l, H l = none → Q (.ref l) (upd H l (.lst (signs z)))) := by
  intro pins s σ H xs us Q I r h
  obtain ⟨z, rfl, hz, q⟩ := h
  obtain ⟨u, rfl, rx⟩ := vals1 r
  obtain ⟨t, rfl⟩ := rx
  refine call_list_str (I.ok.hd hc) z t (fun h' tk acc' c' kp e hi => ?_) hz
  refine ⟨.ref s.heap.objs.size, _, I.laid (t' := tk) kp (Nat.le_refl _) (show ObjOk X.prog X.w _ h' _ (.lst (signs z)) from ⟨?_, acc'.toList, c', vals_signs hi, by simpa using e⟩), rfl, q _ (I.hok.fresh (Nat.le_refl _))⟩
  unfold signs
  rw [List.length_map, Array.length_toList]
  exact hz
end Sho
set_option Elab.async false
set_option linter.all false
set_option maxRecDepth 100000
set_option maxHeartbeats 2000000
namespace Sh1
open PySem L2 Sho NdefX
abbrev sg (c : Nat) : V := .str ⟨#[c]⟩
def l26 : List Nat := (List.range 26).map fun i => 97 + i
theorem signs_l26 : signs (Str.ofString "abcdefghijklmnopqrstuvwxyz") = l26.map sg := by
  have e : (Str.ofString "abcdefghijklmnopqrstuvwxyz").cps.toList = l26 := by decide +kernel
  unfold signs
  rw [e]
structure Rows (high : Int) (xs : List Stay) : Prop where
  nd : (xs.map fun x => x.1).Nodup
  one : ∀ x ∈ xs, ∃ c : Nat, x.1 = ⟨#[c]⟩ ∧ 97 ≤ c ∧ c ≤ 122
  tm : ∀ x ∈ xs, 0 ≤ x.2.1 ∧ x.2.1 < high ∧ x.2.1 < x.2.2 ∧ x.2.2 ≤ x.2.1 + high
theorem StayV.but {l : Addr} {H H' : Hp} {v : V} {x : Stay} {zs : List V} (hl : H l = some (.lst zs)) (s : But l H H') (h : StayV H v x) : StayV H' v x := by
  obtain ⟨t, e, ht⟩ := h
  refine ⟨t, e, s _ _ ht fun z => ?_⟩
  rw [z, hl] at ht
  cases ht
theorem StaysV.but {l : Addr} {H H' : Hp} {zs : List V} (hl : H l = some (.lst zs)) (s : But l H H') : ∀ {vs : List V} {xs : List Stay}, StaysV H vs xs → StaysV H' vs xs
  | _, _, .nil => .nil
  | _, _, .cons h r => .cons (h.but hl s) (StaysV.but hl s r)
theorem DrawSt.at {K : PySem.W.Frag} {H : Hp} {l a : Addr} {ns : List Int} (d : DrawSt K H l a ns) : ∃ zs, H l = some (.lst (V.ref a :: zs)) := by
  obtain ⟨⟨p, s, r, h, _⟩, _, _⟩ := d
  exact ⟨_, h⟩
theorem DrawSt.but {K : PySem.W.Frag} {H H' : Hp} {l a : Addr} {ns : List Int} (d : DrawSt K H l a ns) (h : H' l = H l) (b : But l H H') : DrawSt K H' l a ns := by
  obtain ⟨⟨p, s, r, e, k⟩, sc, len⟩ := d
  exact ⟨⟨p, s, r, h.trans e, k⟩, sql_but e sc b, len⟩
section
variable {P : Program} {w : World} {K : PySem.W.Frag} {mg : Str → Option Value} {base : Heap}
def spRows (K : PySem.W.Frag) : Sp := fun vs H Q _ => ∃ (l a : Addr) (ns : List Int) (most high : Int), vs = [.ref l, .int most, .int high] ∧ DrawSt K H l a ns ∧ 0 ≤ most ∧ most ≤ 25 ∧ 0 < high ∧ high < 1073741824 ∧
  ∀ (H' : Hp) (R : Addr) (ws : List V) (xs : List Stay), But l H H' → DrawSt K H' l a ns → H R = none → H' R = some (.lst ws) → StaysV H' ws xs → (xs.length : Int) ≤ most → Rows high xs → Q (.ref R) H'
theorem scRows : FnScope ["_law_state", "_law_most", "_law_high", "_law_left", "_law_rows_here", "_law_k", "_law_come"] ["_law_state", "_law_most", "_law_high"] (defScope sRows) := ⟨rfl, rfl, rfl, by decide +kernel, rfl, by decide +kernel, by decide +kernel⟩
theorem map_erase {α β : Type} (f : α → β) : ∀ (l : List α) (k : Nat), (l.map f).eraseIdx k = (l.eraseIdx k).map f
  | [], k => by simp
  | x :: l, 0 => rfl
  | x :: l, k + 1 => by simp [map_erase f l k]
theorem seq_nat {j n : Nat} (h : j < n) : seqIndex? (j : Int) n = some j := by
  have e0 : (if (j : Int) < 0 then (j : Int) + n else (j : Int)) = (j : Int) := if_neg (by omega)
  show (if (decide (0 ≤ (if (j : Int) < 0 then (j : Int) + n else (j : Int))) && decide ((if (j : Int) < 0 then (j : Int) + n else (j : Int)) < (n : Int))) = true then some (if (j : Int) < 0 then (j : Int) + n else (j : Int)).toNat else none) = some j
  rw [e0]
  have e : (decide (0 ≤ (j : Int)) && decide ((j : Int) < (n : Int))) = true := by simp; omega
  rw [if_pos e]
  simp
theorem sql_fresh {K : PySem.W.Frag} {H : Hp} {a L : Addr} {xs : List V} (h : SqL K H a xs) (hL : H L = none) : a ≠ L ∨ ∀ H', SqL K H' a xs := by
  rcases h with (h | ⟨o, h⟩) | h
  · exact .inl (ne_of_none h hL)
  · exact .inl (ne_of_none h hL)
  · exact .inr fun _ => .inr h
theorem sql_to {K : PySem.W.Frag} {H H' : Hp} {a L : Addr} {xs : List V} (h : SqL K H a xs) (n : a ≠ L ∨ ∀ H', SqL K H' a xs) (b : But L H H') : SqL K H' a xs := by
  rcases n with n | n
  · rcases h with (h | ⟨o, h⟩) | h
    · exact .inl (.inl (b _ _ h n))
    · exact .inl (.inr ⟨o, b _ _ h n⟩)
    · exact .inr h
  · exact n H'
theorem DrawSt.to {K : PySem.W.Frag} {H H' : Hp} {l a L : Addr} {ns : List Int} (d : DrawSt K H l a ns) (nl : l ≠ L) (n : a ≠ L ∨ ∀ H', SqL K H' a (ns.map V.int)) (b : But L H H') : DrawSt K H' l a ns := by
  obtain ⟨⟨p, s, r, e, k⟩, sc, len⟩ := d
  exact ⟨⟨p, s, r, b _ _ e nl, k⟩, sql_to sc n b, len⟩
theorem but_upd {l : Addr} {H : Hp} {o : HO} : But l H (upd H l o) := fun b u e nb => by rw [upd_ne nb]; exact e
theorem same_upd {p : Addr} {H : Hp} {o : HO} (hp : H p = none) : Same H (upd H p o) := fun b u e => by rw [upd_ne (ne_of_none e hp)]; exact e
theorem DrawSt.same {K : PySem.W.Frag} {H H' : Hp} {l a : Addr} {ns : List Int} (d : DrawSt K H l a ns) (s : Same H H') : DrawSt K H' l a ns := by
  obtain ⟨⟨p, s', r, e, k⟩, sc, len⟩ := d
  exact ⟨⟨p, s', r, s _ _ e, k⟩, s.seq sc, len⟩
theorem Rows.snoc {high : Int} {xs : List Stay} {c : Nat} {a t : Int} (h : Rows high xs) (hc : 97 ≤ c ∧ c ≤ 122) (hx : ∀ x ∈ xs, x.1 ≠ ⟨#[c]⟩) (a0 : 0 ≤ a) (a1 : a < high) (t0 : 0 ≤ t) (t1 : t < high) : Rows high (xs ++ [(⟨#[c]⟩, a, a + 1 + t)]) := by
  refine ⟨?_, fun x hx' => ?_, fun x hx' => ?_⟩
  · rw [List.map_append, List.nodup_append]
    refine ⟨h.nd, by simp, fun z hz y hy e => ?_⟩
    simp at hy
    obtain ⟨x, hx', e2⟩ := List.mem_map.mp hz
    exact hx x hx' (e2.trans (e.trans hy))
  · rcases List.mem_append.mp hx' with q | q
    · exact h.one x q
    · rw [List.mem_singleton] at q
      subst q
      exact ⟨c, rfl, hc.1, hc.2⟩
  · rcases List.mem_append.mp hx' with q | q
    · exact h.tm x q
    · rw [List.mem_singleton] at q
      subst q
      exact ⟨a0, a1, by show a < a + 1 + t; omega, by show a + 1 + t ≤ a + high; omega⟩
theorem one_ne {c d : Nat} (h : c ≠ d) : (⟨#[c]⟩ : Str) ≠ ⟨#[d]⟩ := fun e => by
  injection e with e
  simp at e
  exact h e
/-- between two turns -/
def RowsIn (K : PySem.W.Frag) (H0 : Hp) (l a : Addr) (ns : List Int) (high : Int) (L R : Addr) (i : Nat) (H : Hp) : Prop :=
  ∃ (left : List Nat) (ws : List V) (xs : List Stay), But l H0 H ∧ DrawSt K H l a ns ∧ H L = some (.lst (left.map sg)) ∧ H R = some (.lst ws) ∧ StaysV H ws xs ∧ xs.length = i ∧ left.length + i = 26 ∧ left.Nodup ∧ (∀ c ∈ left, 97 ≤ c ∧ c ≤ 122) ∧
    Rows high xs ∧ ∀ x ∈ xs, ∀ c ∈ left, x.1 ≠ ⟨#[c]⟩
theorem ok_rows {f fD : Addr} {fd fdD : FuncData} (F : Fun K "_law_rows" "_law_rows" sRows f fd) (B : Blt mg)
    (GD : FnOk P w K mg base CX0 1 fD fdD ["_law_state", "_law_count"] (spDrawn K)) (mD : mg "_law_drawn" = some (.ref fD)) (kD : PySem.W.keepIn K (.ref fD) = true) (bD : Binds K fdD ["_law_state", "_law_count"] []) :
    FnOk P w K mg base CX0 2 f fd ["_law_state", "_law_most", "_law_high"] (spRows K) := by
  refine F.ok scRows (fun vs H Q E h => ?_) (fun cdv A outer s H vs Q E hr h => ?_)
  · obtain ⟨l, a, ns, most, high, rfl, _⟩ := h
    rfl
  · obtain ⟨l, a, ns, most, high, rfl, hD, m0, m1, h0, h1, k⟩ := h
    have nd := scRows.nd
    refine ⟨_, pss_cons (ps_set (i := 3) nd rfl (Or.inl rfl) (pe_callTy (call_listStr rfl) (by rfl) B.list (by decide +kernel) (pa_cons pe_str pa_nil)))
      (pss_cons (ps_set (i := 4) nd rfl (Or.inl rfl) (pe_lst pa_nil))
      (pss_cons (ps_for PassesOwn.never rfl (pi_range1 (by rfl) B.range (pa_cons (pe_call GD hr rfl mD kD bD .nil pass0 (pa_cons (pv 0) (pa_cons (pe_op op_add (pv 1) pe_int) pa_nil))) pa_nil)) (pg_name (i := 5) nd rfl (Or.inl rfl))
        (pss_cons (ps_set (i := 6) nd rfl (Or.inl rfl) (pe_call GD hr rfl mD kD bD .nil pass0 (pa_cons (pv 0) (pa_cons (pv 2) pa_nil))))
        (pss_one (ps_expr (pe_bm PySem.F.plainAttrs_list PySem.F.slot_list_append PySem.F.type_list_append mt_append (pv 4) (pa_cons (pe_tup (pa_cons
            (pe_bm PySem.F.plainAttrs_list PySem.F.slot_list_pop PySem.F.type_list_pop mt_popAt (pv 3) (pa_cons (pe_call GD hr rfl mD kD bD .nil pass0 (pa_cons (pv 0) (pa_cons (pe_callB call_len_seq (by rfl) B.len PySem.boot_len (pa_cons (pv 3) pa_nil)) pa_nil))) pa_nil))
            (pa_cons (pv 6) (pa_cons (pe_op op_add (pe_op op_add (pv 6) pe_int) (pe_call GD hr rfl mD kD bD .nil pass0 (pa_cons (pv 0) (pa_cons (pv 2) pa_nil)))) pa_nil)))) pa_nil))))))
      (pss_one (ps_ret (pv 4))))), ?_⟩
    refine ⟨_, rfl, by decide +kernel, fun L hL => ⟨Nat.zero_le _, fun R hR => ?_⟩⟩
    rw [signs_l26] at hR ⊢
    obtain ⟨zs, hl⟩ := hD.at
    have hL0 : H L = none := hL
    have nLR : L ≠ R := fun z => by
      rw [← z, upd_same] at hR
      cases hR
    have hR0 : H R = none := by
      rw [upd_ne (Ne.symm nLR)] at hR
      exact hR
    have nl1 : l ≠ L := ne_of_none hl hL0
    have nl2 : l ≠ R := ne_of_none hl hR0
    have aL := sql_fresh hD.sc hL0
    have aR := sql_fresh hD.sc hR0
    have sm : Same H (upd (upd H L (.lst (l26.map sg))) R (.lst [])) := fun b o e => by
      rw [upd_ne (ne_of_none e hR0), upd_ne (ne_of_none e hL0)]
      exact e
    have hD1 : DrawSt K (upd (upd H L (.lst (l26.map sg))) R (.lst [])) l a ns := hD.but (by rw [upd_ne nl2, upd_ne nl1]) (But.of sm)
    have hL1 : (upd (upd H L (.lst (l26.map sg))) R (.lst [])) L = some (.lst (l26.map sg)) := by rw [upd_ne nLR, upd_same]
    have hR1 : (upd (upd H L (.lst (l26.map sg))) R (.lst [])) R = some (.lst []) := upd_same
    generalize upd (upd H L (.lst (l26.map sg))) R (.lst []) = H1 at *
    refine ⟨_, rfl, _, rfl, _, _, rfl, rfl, l, a, ns, most + 1, rfl, hD1, by omega, by omega, fun r H2 r0 r1 b2 hD2 => ⟨r, rfl, by omega, by omega, ?_⟩⟩
    refine for_it walk_range (fun i σ H2 => ∃ o5 o6, σ = [some (.ref l), some (.int most), some (.int high), some (.ref L), some (.ref R), o5, o6] ∧ RowsIn K H l a ns high L R i H2)
      ⟨none, none, rfl, l26, [], [], (But.of sm).trans b2, hD2, b2 _ _ hL1 (Ne.symm nl1), b2 _ _ hR1 (Ne.symm nl2), .nil, rfl, by decide +kernel, by decide +kernel, by decide +kernel, ⟨List.nodup_nil, by simp, by simp⟩, by simp⟩ (fun _ _ _ _ _ => trivial) ?_ ?_
    · rintro i v σ H3' H3 hi ⟨o5, o6, rfl, left, ws, xs, b3, d3, hL3, hR3, sv3, lx, ll, ln, lr, rows, sep⟩ ⟨rfl, rfl⟩
      have hleft : 0 < left.length := by omega
      have lw : ws.length = i := by rw [pair_len sv3]; exact lx
      -- come
      refine ⟨_, rfl, _, rfl, l, a, ns, high, rfl, d3, h0, h1, fun c H4 c0 c1 b4 d4 => ?_⟩
      obtain ⟨z3, hl3⟩ := d3.at
      have hL4 := b4 _ _ hL3 (Ne.symm nl1)
      have hR4 := b4 _ _ hR3 (Ne.symm nl2)
      have sv4 := sv3.but hl3 b4
      refine ⟨_, rfl, .inl ⟨rfl, _, SqL.of hR4⟩, _, rfl, .inl ⟨rfl, _, SqL.of hL4⟩, _, rfl, _, rfl, L, _, rfl, .inl (SqL.of hL4), ?_⟩
      rw [List.length_map]
      refine ⟨l, a, ns, (left.length : Nat), rfl, d4, by omega, by omega, fun q H5 q0 q1 b5 d5 => ?_⟩
      obtain ⟨z4, hl4⟩ := d4.at
      have hL5 := b5 _ _ hL4 (Ne.symm nl1)
      have hR5 := b5 _ _ hR4 (Ne.symm nl2)
      have sv5 := sv4.but hl4 b5
      obtain ⟨j, rfl⟩ : ∃ j : Nat, q = (j : Int) := ⟨q.toNat, by omega⟩
      have jl : j < left.length := by omega
      obtain ⟨g, hg⟩ : ∃ g, left[j]? = some g := ⟨_, List.getElem?_eq_getElem jl⟩
      have hgm : g ∈ left := List.mem_of_getElem? hg
      refine ⟨L, _, (j : Int), j, sg g, rfl, rfl, hL5, by omega, by omega, ?_, by rw [List.getElem?_map, hg]; rfl, ?_⟩
      · rw [List.length_map]
        exact seq_nat jl
      rw [map_erase]
      have bL : But L H5 (upd H5 L (.lst ((left.eraseIdx j).map sg))) := but_upd
      have sv6 := sv5.but hL5 bL
      have d6 := d5.to nl1 aL bL
      have hR6 := bL _ _ hR5 (Ne.symm nLR)
      have hL6 : (upd H5 L (.lst ((left.eraseIdx j).map sg))) L = some (.lst ((left.eraseIdx j).map sg)) := upd_same
      have b36 : ∀ b o, H3 b = some o → b ≠ l → b ≠ L → (upd H5 L (.lst ((left.eraseIdx j).map sg))) b = some o := fun b o e n1 n2 => bL _ _ (b5 _ _ (b4 _ _ e n1) n1) n2
      generalize upd H5 L (.lst ((left.eraseIdx j).map sg)) = H6 at *
      -- the other items of the tuple
      refine ⟨_, rfl, _, rfl, _, _, rfl, rfl, _, rfl, _, rfl, l, a, ns, high, rfl, d6, h0, h1, fun t H7 t0 t1 b7 d7 => ⟨_, _, rfl, rfl, by show 3 ≤ sizeLine; decide, fun p hp => ?_⟩⟩
      obtain ⟨z6, hl6⟩ := d6.at
      have s8 : Same H7 (upd H7 p (.tup [sg g, .int c, .int (c + 1 + t)])) := same_upd hp
      have hp8 : (upd H7 p (.tup [sg g, .int c, .int (c + 1 + t)])) p = some (.tup [sg g, .int c, .int (c + 1 + t)]) := upd_same
      have hR8 := s8 _ _ (b7 _ _ hR6 (Ne.symm nl2))
      have hL8 := s8 _ _ (b7 _ _ hL6 (Ne.symm nl1))
      have d8 := d7.same s8
      have sv8 := (sv6.but hl6 b7).same s8
      have b38 : ∀ b o, H3 b = some o → b ≠ l → b ≠ L → (upd H7 p (.tup [sg g, .int c, .int (c + 1 + t)])) b = some o := fun b o e n1 n2 => s8 _ _ (b7 _ _ (b36 _ _ e n1 n2) n1)
      generalize upd H7 p (.tup [sg g, .int c, .int (c + 1 + t)]) = H8 at *
      refine ⟨R, ws, _, rfl, rfl, hR8, ?_, ?_⟩
      · rw [lw]
        have : (i : Int) < r := by omega
        exact Nat.lt_of_lt_of_le (show i < 26 by omega) (by decide)
      · have bR : But R H8 (upd H8 R (.lst (ws ++ [.ref p]))) := but_upd
        have np : p ≠ R := fun z => by
          rw [z, hR8] at hp8
          cases hp8
        refine ⟨_, _, rfl, left.eraseIdx j, ws ++ [.ref p], xs ++ [(⟨#[g]⟩, c, c + 1 + t)], fun b o e nb => ?_, d8.to nl2 aR bR, bR _ _ hL8 nLR, upd_same, ?_, by simp [lx], ?_, ln.sublist (List.eraseIdx_sublist ..), fun d hd => lr d ((List.eraseIdx_sublist ..).subset hd), rows.snoc (lr g hgm) (fun x hx => sep x hx g hgm) c0 c1 t0 t1, fun x hx d hd => ?_⟩
        · have n1 : b ≠ L := ne_of_none e hL0
          have n2 : b ≠ R := ne_of_none e hR0
          exact bR _ _ (b38 _ _ (b3 _ _ e nb) nb n1) n2
        · exact paired_append (sv8.but hR8 bR) (.cons ⟨p, rfl, bR _ _ hp8 np⟩ .nil)
        · rw [List.length_eraseIdx, if_pos jl]
          omega
        · have hdl := (List.eraseIdx_sublist left j).subset hd
          rcases List.mem_append.mp hx with q | q
          · exact sep x q d hdl
          · rw [List.mem_singleton] at q
            subst q
            refine one_ne fun z => ?_
            subst z
            obtain ⟨i2, hi2, ne2, e2⟩ := List.mem_eraseIdx_iff_getElem.mp hd
            have e3 := (List.getElem?_eq_some_iff.mp hg).2
            exact ne2 ((List.getElem_inj ln).mp (e2.trans e3.symm))
    · rintro σ H3 ⟨o5, o6, rfl, left, ws, xs, b3, d3, hL3, hR3, sv3, lx, ll, ln, lr, rows, sep⟩
      refine ⟨_, rfl, k H3 R ws xs b3 d3 hR0 hR3 sv3 ?_ rows⟩
      rw [lx]
      omega
end
end Sh1
set_option Elab.async false
set_option linter.all false
set_option maxRecDepth 100000
set_option maxHeartbeats 2000000
namespace Sh1
open PySem L2 Sho NdefX
theorem Valid.take {xs : List Stay} (h : Valid xs) (n : Nat) : Valid (xs.take n) :=
  ⟨Nat.le_trans (List.length_take_le' ..) h.len, h.nd.sublist (List.Sublist.map _ (List.take_sublist ..)), fun x hx => h.ok x (List.mem_of_mem_take hx)⟩
theorem Valid.one {x : Stay} (h : okStay x.1 x.2.1 x.2.2 = true) : Valid [x] :=
  ⟨by simp, by simp, fun y hy => by rw [List.mem_singleton] at hy; rw [hy]; exact h⟩
theorem Short.take {xs : List Stay} (h : Short xs) (n : Nat) : Short (xs.take n) := fun x hx => h x (List.mem_of_mem_take hx)
theorem new0 {C CI : Addr} {E : XK} {σ : L2.St} {H : Hp} {Q : VK} (h : ∀ (p : Addr) (H' : Hp), Same H H' → H p = none → PartyAt C H' p [] → Q (.ref p) H') : StX.tMakeR C (spPNew C CI) E tNil σ H Q := by
  intro x0 d0 n1 n2 n3
  exact party_new (C := C) (CI := CI) (H := H) (xs := []) (ys := []) .nil (by intro x hx; cases hx) (Nat.zero_le _) (fun _ => h) (fun i hi => nomatch hi) x0 d0 n1 n2 n3
theorem new1 {C CI : Addr} {E : XK} {σ : L2.St} {H : Hp} {Q : VK} {i : Nat} {v : V} {x : Stay} (e : σ[i]? = some (some v)) (hv : StayV H v x) (hs : Short [x]) (h : Making C CI H [x] Q E) : StX.tMakeR C (spPNew C CI) E (tCons (tVar i) tNil) σ H Q :=
  ⟨v, e, party_new (C := C) (CI := CI) (H := H) (xs := [x]) (ys := [v]) (.cons hv .nil) hs (by show 1 ≤ sizeLine; decide) h.1 h.2⟩
theorem asg_seq {te : TE} {g : TG} {u : TS} {D : Ends} {σ : L2.St} {H : Hp} (h : te σ H fun x H1 => g x σ H1 (u D)) : tSeq (tAsg te g) u D σ H := h
theorem asg_one {te : TE} {g : TG} {D : Ends} {σ : L2.St} {H : Hp} (h : te σ H fun x H1 => g x σ H1 D.nx) : tAsg te g D σ H := h
section
variable {P : Program} {w : World} {K : PySem.W.Frag} {mg : Str → Option Value} {base : Heap}
def spParty (K : PySem.W.Frag) (C : Addr) : Sp := fun vs H Q _ => ∃ (a : Addr) (ws : List V) (xs : List Stay), vs = [.ref a] ∧ SqL K H a ws ∧ StaysV H ws xs ∧ Short xs ∧ Valid xs ∧
  ∀ (p : Addr) (H' : Hp), Same H H' → H p = none → PartyAt C H' p xs → Q (.ref p) H'
theorem scParty : FnScope ["_law_rows_here", "_law_result", "_law_row"] ["_law_rows_here"] (defScope sLawParty) := ⟨rfl, rfl, rfl, by decide +kernel, rfl, by decide +kernel, by decide +kernel⟩
theorem ok_party {f C CI fI fA : Addr} {fd fdA : FuncData} (F : Fun K "_law_party" "_law_party" sLawParty f fd) (PC : PartyC K mg C) (M : Mk K C fI) (GI : FnR P w K mg base (L2.CX P w) 5 fI (spPNew C CI))
    (hc : PySem.W.selfFirst K C = true) (hA : PySem.W.findIn K (.ref C) "__add__" = some (some (.ref fA))) (iA : PySem.W.isFn K (.ref fA) = true)
    (GA : FnOk P w K mg base (L2.CX P w) 7 fA fdA ["self", "other"] (spPAdd C CI)) (bA : Binds K fdA ["self", "other"] []) :
    FnOk P w K mg base (L2.CX P w) 8 f fd ["_law_rows_here"] (spParty K C) := by
  refine F.okX scParty (fun vs H Q E h => ?_) (fun cdv A outer s H vs Q E hr h => ?_)
  · obtain ⟨a, ws, xs, rfl, _⟩ := h
    rfl
  · obtain ⟨a, ws, xs, rfl, ha, hxs, hsh, hv, k⟩ := h
    have nd := scParty.nd
    have pass : Passes (L2.CX P w) (cxOf (L2.CX P w) P w K mg base ["_law_rows_here", "_law_result", "_law_row"] "_law_party" (defScope sLawParty) f cdv A outer s H E) E := passes_call (takes_of rfl rfl rfl rfl) fun _ _ _ _ z => z
    refine ⟨_, pss_cons (ps_set (i := 1) nd rfl (Or.inl rfl) (pe_makeR0 M GI (hr.mono (by decide)) rfl PC.gm pass))
      (pss_cons (ps_for (passes_of rfl) rfl (pi_list (pv 0)) (pg_name (i := 2) nd rfl (Or.inl rfl))
        (pss_one (ps_set (i := 1) nd rfl (Or.inl rfl) (pe_op (op_own2 (fnr_of GA bA) hr pass hc hA iA) (pv 1) (StX.pe_makeR M GI (hr.mono (by decide)) rfl PC.gm pass (pa_cons (pv 2) pa_nil))))))
      (pss_one (ps_ret (pv 1)))), ?_⟩
    have len := pair_len hxs
    refine asg_seq (new0 fun p H1 s1 hp P1 => ?_)
    refine ⟨_, rfl, a, rfl, ⟨_, s1.seq ha⟩, for_it walk_list (fun i σ H2 => ∃ q o2, σ = [some (.ref a), some (.ref q), o2] ∧ Same H H2 ∧ H q = none ∧ PartyAt C H2 q (xs.take i))
      ⟨p, none, rfl, s1, hp, P1⟩ (fun i σ H2 _ ⟨_, _, _, s2, _⟩ => s2.seq ha) ?_ ?_⟩
    · rintro i y σ H2 H3 hi ⟨q, o2, rfl, s2, hq, P2⟩ ⟨rfl, e2⟩
      obtain ⟨x, hx, hy⟩ := pair_get hxs e2
      have hxm := List.mem_of_getElem? hx
      have take1 : xs.take (i + 1) = xs.take i ++ [x] := by rw [List.take_add_one, hx]; rfl
      refine ⟨_, rfl, new1 rfl (hy.same s2) (fun z hz => by rw [List.mem_singleton] at hz; rw [hz]; exact hsh x hxm) ⟨fun _ r H4 s4 hr4 P4 => ?_, fun i hi => ?_⟩⟩
      · refine ⟨q, r, rfl, rfl, ins_party (P2.same s4), ins_party P4, q, r, xs.take i, [x], rfl, P2.same s4, P4, hsh.take i, (fun z hz => by rw [List.mem_singleton] at hz; rw [hz]; exact hsh x hxm), ?_, ?_, ?_⟩
        · have := hv.len
          rw [List.length_take]
          simp only [List.length_cons, List.length_nil]
          omega
        · intro _ z H5 s5 hz P5
          refine ⟨_, _, rfl, (s2.trans s4).trans s5, ?_, by rw [take1]; exact P5⟩
          exact (s2.trans s4).free hz
        · intro j hj
          rw [← take1, valid_iff.mpr (hv.take _)] at hj
          cases hj
      · rw [valid_iff.mpr (Valid.one (hv.ok x hxm))] at hi
        cases hi
    · rintro σ H2 ⟨q, o2, rfl, s2, hq, P2⟩
      refine ⟨_, rfl, k q H2 s2 hq ?_⟩
      rw [len, List.take_length] at P2
      exact P2
end
end Sh1
set_option Elab.async false
set_option linter.all false
set_option maxRecDepth 100000
set_option maxHeartbeats 2000000
namespace Sh1
open PySem L2 Sho NdefX
theorem cons_of {te : TE} {ta : L2.TA} {σ : L2.St} {H : Hp} {Q : List V → Hp → Prop} (h : te σ H fun v H1 => ta σ H1 fun vs H2 => Q (v :: vs) H2) : tCons te ta σ H Q := h
theorem name_of {i : Nat} {v : V} {σ : L2.St} {H : Hp} {N : L2.St → Hp → Prop} {r : VK} {b c : L2.St → Hp → Prop} (h : N (σ.set i (some v)) H) : gName i v σ H (L2.Ends.nx { nx := N, rt := r, bk := b, ct := c }) := h
theorem name_at {i : Nat} {v : V} {σ : L2.St} {H : Hp} {N : L2.St → Hp → Prop} (h : N (σ.set i (some v)) H) : gName i v σ H N := h
theorem lst_of {t : L2.TA} {σ : L2.St} {H : Hp} {Q : VK} (h : t σ H fun xs H1 => xs.length ≤ sizeLine ∧ ∀ p, H1 p = none → Q (.ref p) (upd H1 p (.lst xs))) : tLst t σ H Q := h
def OkText (z : Str) : Prop := z.length ≤ 100000 ∧ z.cps.all (· < 0x110000) = true
theorem stay_more {t : L2.TA} {σ : L2.St} {H0 H : Hp} {Q : VK} {vs : List V} {xs : List Stay} (x : Stay) (s : Same H0 H) (sv : StaysV H vs xs) (h : ∀ R, R [.str x.1, .int x.2.1, .int x.2.2] H → t σ H R)
    (k : ∀ p H', Same H0 H' → StaysV H' (vs ++ [.ref p]) (xs ++ [x]) → Q (.ref p) H') : tTup t σ H Q :=
  h _ ⟨by show 3 ≤ sizeLine; decide, fun p hp => k p _ (s.trans (same_upd hp)) (paired_append (sv.same (same_upd hp)) (.cons ⟨p, rfl, upd_same⟩ .nil))⟩
theorem Short.cons {x : Stay} {xs : List Stay} (h : OkText x.1) (k : Short xs) : Short (x :: xs) := fun y hy => by
  rcases List.mem_cons.mp hy with e | e
  · rw [e]
    exact h
  · exact k y e
theorem if_str {c : Bool} {ta : TE} {σ : L2.St} {H : Hp} {Q : VK} {z0 : Str} (Ok : Str → Prop) (hA : c = true → ∃ z, Ok z ∧ ∀ Q' : VK, Q' (.str z) H → ta σ H Q') (h0 : Ok z0) (h : ∀ z : Str, Ok z → Q (.str z) H) : if c = true then ta σ H Q else tC (.str z0) σ H Q := by
  cases c with
  | true =>
    rw [if_pos rfl]
    obtain ⟨z, hz, k⟩ := hA rfl
    exact k _ (h z hz)
  | false =>
    rw [if_neg Bool.false_ne_true]
    exact h z0 h0
section
variable {P : Program} {w : World} {K : PySem.W.Frag} {mg : Str → Option Value} {base : Heap}
def spBad (K : PySem.W.Frag) : Sp := fun vs H Q _ => ∃ (l a b : Addr) (ns : List Int) (ws : List V) (xs : List Stay), vs = [.ref l, .ref b] ∧ DrawSt K H l a ns ∧ SqL K H b ws ∧ StaysV H ws xs ∧ Short xs ∧
  ∀ (H' : Hp) (v : V) (x : Stay), But l H H' → DrawSt K H' l a ns → StayV H' v x → Short [x] → Q v H'
theorem scBadStay : FnScope ["_law_state", "_law_rows_here", "_law_known", "_law_far", "_law_odd"] ["_law_state", "_law_rows_here"] (defScope sBadStay) := ⟨rfl, rfl, rfl, by decide +kernel, rfl, by decide +kernel, by decide +kernel⟩
theorem ok_badStay {f fD : Addr} {fd fdD : FuncData} (F : Fun K "_law_bad_stay" "_law_bad_stay" sBadStay f fd)
    (GD : FnOk P w K mg base CX0 1 fD fdD ["_law_state", "_law_count"] (spDrawn K)) (mD : mg "_law_drawn" = some (.ref fD)) (kD : PySem.W.keepIn K (.ref fD) = true) (bD : Binds K fdD ["_law_state", "_law_count"] []) :
    FnOk P w K mg base CX0 2 f fd ["_law_state", "_law_rows_here"] (spBad K) := by
  refine F.ok scBadStay (fun vs H Q E h => ?_) (fun cdv A outer s H vs Q E hr h => ?_)
  · obtain ⟨l, a, b, ns, ws, xs, rfl, _⟩ := h
    rfl
  · obtain ⟨l, a, b, ns, ws, xs, rfl, hD, hb, hxs, hsh, k⟩ := h
    have nd := scBadStay.nd
    refine ⟨_, pss_cons (ps_set (i := 2) nd rfl (Or.inl rfl) (pe_ifExp (pt_cmpR (op_neD hr.units) (pv 1) (pe_lst pa_nil) (nomark _)) (pe_ix ix_tup (pe_ix ix_list (pv 1) pe_int (fun _ _ => rfl)) pe_int (fun _ _ => rfl)) pe_str))
      (pss_cons (ps_set (i := 3) nd rfl (Or.inl rfl) (pe_op op_pow pe_int pe_int))
      (pss_cons (ps_set (i := 4) nd rfl (Or.inl rfl) (pe_lst (pa_cons (pe_tup (pa_cons pe_str (pa_cons pe_int (pa_cons pe_int pa_nil)))) (pa_cons (pe_tup (pa_cons pe_str (pa_cons pe_int (pa_cons pe_int pa_nil)))) (pa_cons (pe_tup (pa_cons pe_str (pa_cons pe_int (pa_cons pe_int pa_nil))))
          (pa_cons (pe_tup (pa_cons pe_str (pa_cons pe_int (pa_cons pe_int pa_nil)))) (pa_cons (pe_tup (pa_cons pe_str (pa_cons pe_int (pa_cons pe_int pa_nil)))) (pa_cons (pe_tup (pa_cons pe_str (pa_cons (pe_op op_sub pe_int pe_int) (pa_cons pe_int pa_nil)))) pa_nil))))))))
      (pss_cons (ps_set (i := 4) nd rfl (Or.inl rfl) (pe_op op_cat (pv 4) (pe_lst (pa_cons (pe_tup (pa_cons pe_str (pa_cons pe_int (pa_cons (pe_op op_add (pv 3) pe_int) pa_nil)))) (pa_cons (pe_tup (pa_cons (pv 2) (pa_cons pe_int (pa_cons pe_int pa_nil))))
          (pa_cons (pe_tup (pa_cons pe_str (pa_cons pe_int (pa_cons pe_int pa_nil)))) (pa_cons (pe_tup (pa_cons pe_str (pa_cons (pe_op op_sub (pv 3) pe_int) (pa_cons (pv 3) pa_nil)))) pa_nil)))))))
      (pss_one (ps_ret (pe_ix ix_list (pv 4) (pe_call GD hr rfl mD kD bD .nil pass0 (pa_cons (pv 0) (pa_cons pe_int pa_nil))) (fun _ _ => rfl))))))), ?_⟩
    refine ⟨_, rfl, Nat.zero_le _, fun L hL => ?_⟩
    have s1 : Same H (upd H L (.lst [])) := same_upd hL
    have hxs1 := hxs.same s1
    have hb1 := s1.seq hb
    refine ⟨.list (xs.map stayD), .list [], .lst hb1 (dp_stays hxs1), .lst (SqL.of upd_same) .nil, shaped_lst hsh, rfl, _, rfl, ?_⟩
    generalize upd H L (.lst []) = H1 at *
    refine if_str OkText (fun hc => ?_) ⟨by decide +kernel, by decide +kernel⟩ fun z hz => ?_
    · cases xs with
      | nil => cases hc
      | cons x xs =>
        obtain _ | ⟨⟨t, e, ht⟩, r⟩ := hxs1
        subst e
        exact ⟨x.1, hsh x List.mem_cons_self, fun Q' q => ⟨_, rfl, b, _, 0, .ref t, rfl, rfl, hb1, atI_nat (j := 0) rfl, t, _, 0, .str x.1, rfl, rfl, SqT.of ht, atI_nat (j := 0) rfl, q⟩⟩
    refine name_of (asg_seq ?_)
    refine ⟨_, _, rfl, rfl, ⟨by decide, by decide, by decide⟩, ?_⟩
    refine name_at (asg_seq ?_)
    refine lst_of ?_
    refine (cons_of (stay_more ("", 1, 2) s1 .nil (fun R r => r) fun p1 H2 s2 v2 => cons_of (stay_more ("A", 1, 2) s2 v2 (fun R r => r) fun p2 H3 s3 v3 => cons_of (stay_more ("abcdefghi", 1, 2) s3 v3 (fun R r => r) fun p3 H4 s4 v4 =>
      cons_of (stay_more ("new", 2, 2) s4 v4 (fun R r => r) fun p4 H5 s5 v5 => cons_of (stay_more ("new", 3, 2) s5 v5 (fun R r => r) fun p5 H6 s6 v6 => cons_of (stay_more ("new", 0 - 1, 2) s6 v6 (fun R r => ⟨_, _, rfl, rfl, r⟩) fun p6 H7 s7 v7 => ⟨by show 6 ≤ sizeLine; decide, fun L1 hL1 => ?_⟩)))))))
    have s8 : Same H7 (upd H7 L1 (.lst [.ref p1, .ref p2, .ref p3, .ref p4, .ref p5, .ref p6])) := same_upd hL1
    have v8 := v7.same s8
    have hL8 : (upd H7 L1 (.lst [.ref p1, .ref p2, .ref p3, .ref p4, .ref p5, .ref p6])) L1 = some (.lst [.ref p1, .ref p2, .ref p3, .ref p4, .ref p5, .ref p6]) := upd_same
    refine name_at (asg_seq ?_)
    refine ⟨_, rfl, lst_of ?_⟩
    generalize (upd H7 L1 (.lst [.ref p1, .ref p2, .ref p3, .ref p4, .ref p5, .ref p6])) = H8 at *
    refine (cons_of (stay_more ("new", 1, 10 ^ (9 : Int).toNat + 1) (Same.refl H8) v8 (fun R r => ⟨_, rfl, _, _, rfl, rfl, r⟩) fun p7 H9 s9 v9 => cons_of (stay_more (z, 1, 2) s9 v9 (fun R r => ⟨_, rfl, r⟩) fun p8 Ha sa va =>
      cons_of (stay_more ("a b", 1, 2) sa va (fun R r => r) fun p9 Hb sb vb => cons_of (stay_more ("new", 10 ^ (9 : Int).toNat - 1, 10 ^ (9 : Int).toNat) sb vb (fun R r => ⟨_, rfl, _, _, rfl, rfl, _, rfl, r⟩) fun pa Hc sc vc => ⟨by show 4 ≤ sizeLine; decide, fun L2 hL2 => ?_⟩)))))
    have sd : Same Hc (upd Hc L2 (.lst [.ref p7, .ref p8, .ref p9, .ref pa])) := same_upd hL2
    have vd := vc.same sd
    have hLd := sd _ _ (sc _ _ hL8)
    have s0d : Same H (upd Hc L2 (.lst [.ref p7, .ref p8, .ref p9, .ref pa])) := ((s7.trans s8).trans sc).trans sd
    have h2d : (upd Hc L2 (.lst [.ref p7, .ref p8, .ref p9, .ref pa])) L2 = some (.lst [.ref p7, .ref p8, .ref p9, .ref pa]) := upd_same
    generalize (upd Hc L2 (.lst [.ref p7, .ref p8, .ref p9, .ref pa])) = Hd at *
    refine ⟨L1, L2, _, _, rfl, rfl, hLd, h2d, by show 10 ≤ sizeLine; decide, fun L3 hL3 => ?_⟩
    have se : Same Hd (upd Hd L3 (.lst ([.ref p1, .ref p2, .ref p3, .ref p4, .ref p5, .ref p6] ++ [.ref p7, .ref p8, .ref p9, .ref pa]))) := same_upd hL3
    have ve := vd.same se
    have hLe : (upd Hd L3 (.lst ([.ref p1, .ref p2, .ref p3, .ref p4, .ref p5, .ref p6] ++ [.ref p7, .ref p8, .ref p9, .ref pa]))) L3 = some (.lst ([.ref p1, .ref p2, .ref p3, .ref p4, .ref p5, .ref p6] ++ [.ref p7, .ref p8, .ref p9, .ref pa])) := upd_same
    generalize (upd Hd L3 (.lst ([.ref p1, .ref p2, .ref p3, .ref p4, .ref p5, .ref p6] ++ [.ref p7, .ref p8, .ref p9, .ref pa]))) = He at *
    have s0e := s0d.trans se
    have hDe := hD.same s0e
    obtain ⟨pos, seed, rst, hl, _⟩ := hDe.ex
    refine ⟨_, rfl, _, rfl, l, a, ns, 10, rfl, hDe, by decide, by decide, fun r Hf r0 r1 bf df => ?_⟩
    obtain ⟨j, rfl⟩ : ∃ j : Nat, r = (j : Int) := ⟨r.toNat, by omega⟩
    have nL : L3 ≠ l := fun e => by
      rw [e, hl] at hLe
      exact nomatch hLe
    have vf := ve.but hl bf
    have hj : j < 10 := by omega
    obtain ⟨v, hv⟩ : ∃ v, ([V.ref p1, .ref p2, .ref p3, .ref p4, .ref p5, .ref p6] ++ [V.ref p7, .ref p8, .ref p9, .ref pa])[j]? = some v := ⟨_, List.getElem?_eq_getElem hj⟩
    obtain ⟨x, hx, hs⟩ := pair_get vf hv
    have sh : Short ([("", 1, 2), ("A", 1, 2), ("abcdefghi", 1, 2), ("new", 2, 2), ("new", 3, 2), ("new", 0 - 1, 2), ("new", 1, 10 ^ (9 : Int).toNat + 1), (z, 1, 2), ("a b", 1, 2), ("new", 10 ^ (9 : Int).toNat - 1, 10 ^ (9 : Int).toNat)] : List Stay) := by
      refine Short.cons ⟨by decide +kernel, by decide +kernel⟩ (Short.cons ⟨by decide +kernel, by decide +kernel⟩ (Short.cons ⟨by decide +kernel, by decide +kernel⟩ (Short.cons ⟨by decide +kernel, by decide +kernel⟩ (Short.cons ⟨by decide +kernel, by decide +kernel⟩
        (Short.cons ⟨by decide +kernel, by decide +kernel⟩ (Short.cons ⟨by decide +kernel, by decide +kernel⟩ (Short.cons hz (Short.cons ⟨by decide +kernel, by decide +kernel⟩ (Short.cons ⟨by decide +kernel, by decide +kernel⟩ ?_)))))))))
      intro y hy
      cases hy
    refine ⟨L3, _, (j : Int), v, rfl, rfl, SqL.of (bf _ _ hLe nL), atI_nat hv, ?_⟩
    exact k _ v x ((But.of s0e).trans bf) df hs fun y hy => by
      rw [List.mem_singleton] at hy
      rw [hy]
      exact sh x (List.mem_of_getElem? hx)
end
end Sh1
set_option Elab.async false
set_option linter.all false
set_option maxRecDepth 100000
set_option maxHeartbeats 2000000
/-! a op b op c op d as a test -/
namespace Sho
open PySem PySem.Spec PyProof.Rows L2 StX
section
variable {X : Cx} {a b c d : Expr} {ta tb tc td : TE} {pos : Pos}
def tChain3 (r1 r2 r3 : R2) (ta tb tc td : TE) : TT := fun σ H Q => ta σ H fun x H1 => tb σ H1 fun y H2 => r1 x y H2 fun z H3 => ∃ k, z = .bl k ∧
  (if k = true then tc σ H3 fun w H4 => r2 y w H4 fun z2 H5 => ∃ k2, z2 = .bl k2 ∧ (if k2 = true then td σ H5 fun u H6 => r3 w u H6 fun z3 H7 => ∃ k3, z3 = .bl k3 ∧ Q k3 H7 else Q false H5) else Q false H3)
theorem pt_chain3 {op1 op2 op3 : CmpOp} {r1 r2 r3 : R2} (h1 : OpR X (compareOp op1) r1) (h2 : OpR X (compareOp op2) r2) (h3 : OpR X (compareOp op3) r3) (ha : PE X a ta) (hb : PE X b tb) (hc : PE X c tc) (hd : PE X d td)
    (hm : lastMarks [op1, op2, op3] [b, c, d] = false := by with_unfolding_all rfl) : PT X (.Compare a [op1, op2, op3] [b, c, d] pos) (tChain3 r1 r2 r3 ta tb tc td) := by
  refine ⟨fun pins s σ H Q I h => ?_⟩
  refine isTrue_chain (thn (ha.run pins s σ H _ I h) fun v s1 ⟨x, H1, I1, rx, q1⟩ => test_link (thn (hb.run pins s1 σ H1 _ I1 q1) fun u s2 ⟨y, H2, I2, ry, q2⟩ =>
    thn (h1 pins s2 σ H2 x y v u _ I2 rx ry q2) fun e s3 ⟨z, H3, I3, rz, k, ez, q3⟩ => ?_)) hm
  subst ez
  cases rz
  refine wpAny_truthy_bool ?_
  cases k with
  | false => exact ite_ff ⟨H3, I3, q3⟩
  | true =>
    refine ite_tt (test_link (thn (hc.run pins s3 σ H3 _ I3 q3) fun v' s4 ⟨w, H4, I4, rw, q4⟩ => thn (h2 pins s4 σ H4 y w u v' _ I4 ry rw q4) fun e2 s5 ⟨z2, H5, I5, rz2, k2, ez2, q5⟩ => ?_))
    subst ez2
    cases rz2
    refine wpAny_truthy_bool ?_
    cases k2 with
    | false => exact ite_ff ⟨H5, I5, q5⟩
    | true =>
      refine ite_tt (test_last (thn (hd.run pins s5 σ H5 _ I5 q5) fun u' s6 ⟨w2, H6, I6, rw2, q6⟩ => thn (h3 pins s6 σ H6 w w2 v' u' _ I6 rw rw2 q6) fun e3 s7 ⟨z3, H7, I7, rz3, k3, ez3, q7⟩ => ?_))
      subst ez3
      cases rz3
      exact wpAny_truthy_bool ⟨H7, I7, q7⟩
end
end Sho
set_option Elab.async false
set_option linter.all false
set_option maxRecDepth 100000
set_option maxHeartbeats 2000000
namespace Sh1
open PySem L2 Sho NdefX
abbrev rLeStr : R2 := fun x y H Q => ∃ i j, x = .str i ∧ y = .str j ∧ Q (.bl (!decide (j.cps.toList < i.cps.toList))) H
theorem nx_of {N : L2.St → Hp → Prop} {r : VK} {b c : L2.St → Hp → Prop} {σ : L2.St} {H : Hp} (h : N σ H) : L2.Ends.nx { nx := N, rt := r, bk := b, ct := c } σ H := h
theorem asg_val {te : TE} {g : TG} {u : TS} {D : Ends} {σ : L2.St} {H : Hp} (v : V) (h1 : ∀ R : VK, (∀ H', Same H H' → R v H') → te σ H R) (h2 : ∀ H', Same H H' → g v σ H' (u D)) : tSeq (tAsg te g) u D σ H := h1 _ h2
theorem dp_signs {K : PySem.W.Frag} {H : Hp} : ∀ cs : List Nat, DpAll K H (cs.map sg) (cs.map fun c => .str ⟨#[c]⟩)
  | [] => .nil
  | c :: cs => .cons (.str _) (dp_signs cs)
theorem lay_signs : ∀ {cs : List Nat}, (∀ c ∈ cs, c < 0x110000) → PyData.canLayAll0 (cs.map fun c => .str ⟨#[c]⟩) = true
  | [], _ => rfl
  | c :: cs, h => by
    have h1 := h c List.mem_cons_self
    have h2 := lay_signs (cs := cs) fun y hy => h y (List.mem_cons_of_mem _ hy)
    show (PyData.canLay0 (.str ⟨#[c]⟩) && PyData.canLayAll0 (cs.map fun c => .str ⟨#[c]⟩)) = true
    rw [h2, Bool.and_true]
    show (#[c].all fun x => decide (x < 0x110000)) = true
    simpa using h1
theorem depth_signs : ∀ cs : List Nat, PyData.depthAll (cs.map fun c => .str ⟨#[c]⟩) = 0
  | [] => rfl
  | c :: cs => by
    have h := depth_signs cs
    show max (PyData.depth (.str ⟨#[c]⟩)) (PyData.depthAll (cs.map fun c => .str ⟨#[c]⟩)) = 0
    rw [h]
    rfl
theorem shaped_signs {cs : List Nat} (h : ∀ c ∈ cs, c < 0x110000) : SeqAt.shaped (.list (cs.map fun c => .str ⟨#[c]⟩)) = true := by
  unfold SeqAt.shaped
  have h1 : PyData.canLay0 (.list (cs.map fun c => .str ⟨#[c]⟩)) = true := lay_signs h
  have h2 : PyData.depth (.list (cs.map fun c => .str ⟨#[c]⟩)) ≤ 64 := by
    show PyData.depthAll (cs.map fun c => .str ⟨#[c]⟩) + 1 ≤ 64
    rw [depth_signs]
    decide
  rw [h1, decide_eq_true h2]
  rfl
def timeOk (a b : Int) : Bool := decide (0 ≤ a) && (decide (a < b) && decide (b ≤ 1000000000))
theorem okStay_time (z : Str) (a b : Int) : okStay z a b = (okName z && timeOk a b) := by
  unfold okStay timeOk okTick
  congr 1
  rw [Bool.eq_iff_iff]
  simp only [Bool.and_eq_true, decide_eq_true_eq]
  omega
section
variable {P : Program} {w : World} {K : PySem.W.Frag} {mg : Str → Option Value} {base : Heap}
def optV : Option Nat → V
  | none => .non
  | some i => .int (i : Nat)
def spFirst (K : PySem.W.Frag) : Sp := fun vs H Q _ => ∃ (a : Addr) (ws : List V) (xs : List Stay), vs = [.ref a] ∧ SqL K H a ws ∧ StaysV H ws xs ∧ Short xs ∧ xs.length ≤ 1000 ∧ ∀ H', Same H H' → Q (optV (firstBad xs)) H'
theorem scFirst : FnScope ["_law_stays", "_law_k", "_law_name", "_law_come", "_law_go", "_law_good", "_law_one"] ["_law_stays"] (defScope sFirstBad) := ⟨rfl, rfl, rfl, by decide +kernel, rfl, by decide +kernel, by decide +kernel⟩
theorem ok_first {f : Addr} {fd : FuncData} (F : Fun K "_law_first_bad" "_law_first_bad" sFirstBad f fd) (B : Blt mg) : FnOk P w K mg base CX0 1 f fd ["_law_stays"] (spFirst K) := by
  refine F.ok scFirst (fun vs H Q E h => ?_) (fun cdv A outer s H vs Q E hr h => ?_)
  · obtain ⟨a, ws, xs, rfl, _⟩ := h
    rfl
  · obtain ⟨a, ws, xs, rfl, ha, hxs, hsh, hz, k⟩ := h
    have nd := scFirst.nd
    refine ⟨_, pss_cons (ps_for PassesOwn.never rfl (pi_range1 (by rfl) B.range (pa_cons (pe_callB call_len_seq (by rfl) B.len PySem.boot_len (pa_cons (pv 0) pa_nil)) pa_nil)) (pg_name (i := 1) nd rfl (Or.inl rfl))
        (pss_cons (ps_asg (pe_ix ix_list (pv 0) (pv 1) (fun _ _ => rfl)) (pg_tup rfl (pgs_cons (pg_name (i := 2) nd rfl (Or.inl rfl)) (pgs_cons (pg_name (i := 3) nd rfl (Or.inl rfl)) (pgs_cons (pg_name (i := 4) nd rfl (Or.inl rfl)) pgs_nil)))))
        (pss_cons (ps_set (i := 5) nd rfl (Or.inl rfl) (pe_and (pe_chain op_le op_le pe_int (pe_callB call_len_str (by rfl) B.len PySem.boot_len (pa_cons (pv 2) pa_nil)) pe_int)
            (pe_one (pe_cmpR (op_eqD hr.units) (pe_lc (own := [("_law_one", 6)]) (g := gName 6) (tt := tNot (tTest (tChain rLeStr rLeStr (tC (.str "a")) (tVar 6) (tC (.str "z"))))) rfl nd (pi_str (pv 2)) (blkOk_by (own := [("_law_one", 6)]) (N := ["_law_stays", "_law_k", "_law_name", "_law_come", "_law_go", "_law_good", "_law_one"]) (sc := defScope sFirstBad) (by decide +kernel))
              (fun _ _ _ _ _ => pg_name (i := 6) nd rfl (Or.inl rfl)) (fun _ _ _ _ _ => pts_one (pt_not (pt_chain op_le_str op_le_str pe_str (pv 6) pe_str))) (fun _ _ _ _ _ => pv 6)) (pe_lst pa_nil) (nomark _)))))
        (pss_one (ps_if (PW.pt (pw_or (pt_cmpR op_eq (pv 1) pe_int (nomark _)) (pw_or (pt_not (pt_val (pv 5))) (pw_or (pt_not (pt_chain3 op_le op_lt op_le pe_int (pv 3) (pv 4) (pe_op op_pow pe_int pe_int)))
            (pw_or1 (pt_cmpR op_in_seq (pv 2) (pe_lc (own := [("_law_one", 6)]) (g := gName 6) (tt := tYes) (te := tOp (rIxT K) (tVar 6) (tC (.int 0))) rfl nd (pi_list (pe_slice sl_list (pv 0) po_none (po_some (pv 1)))) (blkOk_by (own := [("_law_one", 6)]) (N := ["_law_stays", "_law_k", "_law_name", "_law_come", "_law_go", "_law_good", "_law_one"]) (sc := defScope sFirstBad) (by decide +kernel))
              (fun _ _ _ _ _ => pg_name (i := 6) nd rfl (Or.inl rfl)) (fun _ _ _ _ _ => pts_nil) (fun _ _ _ _ _ => pe_ix ix_tup (pv 6) pe_int (fun _ _ => rfl))) rfl))))))
          (pss_one (ps_ret (pv 1))) pss_nil)))))
      (pss_one (ps_ret pe_non)), ?_⟩
    have len := pair_len hxs
    refine ⟨_, rfl, a, ws, rfl, .inl ha, _, rfl, ?_, ?_, for_it walk_range (fun i σ H2 => ∃ o1 o2 o3 o4 o5 o6, σ = [some (.ref a), o1, o2, o3, o4, o5, o6] ∧ Same H H2 ∧ firstBadFrom i ((xs.take i).map fun x => x.1) (xs.drop i) = firstBad xs)
      ⟨none, none, none, none, none, none, rfl, Same.refl _, rfl⟩ (fun _ _ _ _ _ => trivial) ?_ ?_⟩
    · omega
    · omega
    · rintro i v σ H3' H3 hi ⟨o1, o2, o3, o4, o5, o6, rfl, s3, hb⟩ ⟨rfl, ev⟩
      have ev' : v = V.int (i : Int) := ev.trans (by show V.int (0 + (i : Int)) = _; rw [Int.zero_add])
      clear ev
      subst ev'
      have hi' : i < ws.length := by simpa using hi
      obtain ⟨y, hy⟩ : ∃ y, ws[i]? = some y := ⟨_, List.getElem?_eq_getElem hi'⟩
      obtain ⟨x, hx, t, rfl, ht⟩ := pair_get hxs hy
      have hxm := List.mem_of_getElem? hx
      refine ⟨_, rfl, _, rfl, a, ws, _, _, rfl, rfl, s3.seq ha, atI_nat hy, ?_⟩
      refine ⟨t, _, rfl, SqT.of (s3 _ _ ht), rfl, _, _, rfl, _, _, rfl, _, _, rfl, rfl, ?_⟩
      refine nx_of (asg_val (.bl (okName x.1)) (fun R h => ?_) (fun H4 s4 => ?_))
      · have hx1 : x.1.length ≤ sizeLine := Nat.le_trans (hsh x hxm).1 (by decide)
        refine ⟨_, rfl, x.1, rfl, hx1, _, _, rfl, rfl, _, rfl, ?_⟩
        refine ite2 (fun h1 => ?_) (fun h1 => ?_)
        · refine ⟨_, _, rfl, rfl, _, rfl, ?_⟩
          refine ite2 (fun h2 => ?_) (fun h2 => ?_)
          · refine ⟨_, rfl, x.1, rfl, fun D hD => ?_⟩
            refine lc_gather (walk_str (z := x.1)) (fun i => (x.1.cps.toList[i]?).bind fun c => if letter c = true then none else some (sg c)) hD hx1 (fun _ _ => trivial) (fun i y H1 H' hi s1 yy R' k1 => ?_) fun H1 s1 e1 => ?_
            · obtain ⟨rfl, c, hc, rfl⟩ := yy
              have k2 := k1 _ (Same.refl _)
              have fi : ((x.1.cps.toList[i]?).bind fun c => if letter c = true then none else some (sg c)) = if letter c = true then none else some (sg c) := by
                rw [Array.getElem?_toList, hc]
                rfl
              rw [fi] at k2
              have e1 : decide (({ cps := #[c] } : Str).cps.toList < (Str.ofString "a").cps.toList) = decide (c < 97) := by
                rw [cps_a]
                exact decide_eq_decide.mpr (one_lt c 97)
              have e2 : decide ((Str.ofString "z").cps.toList < ({ cps := #[c] } : Str).cps.toList) = decide (122 < c) := by
                rw [cps_z]
                exact decide_eq_decide.mpr (one_lt 122 c)
              refine ⟨rfl, _, rfl, _, _, rfl, rfl, _, rfl, ?_⟩
              rw [e1]
              by_cases h3 : c < 97
              · have l3 : letter c = false := by simp [letter, h3]
                rw [l3, if_neg Bool.false_ne_true] at k2
                rw [decide_eq_true h3]
                exact iteF ⟨_, rfl, iteT ⟨_, rfl, k2⟩⟩
              · rw [decide_eq_false h3]
                refine iteT ⟨_, _, rfl, rfl, _, rfl, ?_⟩
                rw [e2]
                by_cases h4 : 122 < c
                · have l3 : letter c = false := by simp [letter, h4]
                  rw [l3, if_neg Bool.false_ne_true] at k2
                  rw [decide_eq_true h4]
                  exact iteT ⟨_, rfl, k2⟩
                · have l3 : letter c = true := by simp [letter, h3, h4]
                  rw [l3, if_pos rfl] at k2
                  rw [decide_eq_false h4]
                  exact iteF k2
            · have e4 : gather (fun i => (x.1.cps.toList[i]?).bind fun c => if letter c = true then none else some (sg c)) x.1.cps.size = (x.1.cps.toList.filter fun c => !letter c).map sg := by
                have e := gather_list x.1.cps.toList fun c => if letter c = true then none else some (sg c)
                rw [Array.length_toList] at e
                rw [e]
                generalize x.1.cps.toList = cs
                induction cs with
                | nil => rfl
                | cons c cs ih =>
                  rw [List.filterMap_cons, List.filter_cons, ih]
                  cases letter c <;> rfl
              rw [e4] at e1
              refine ⟨Nat.zero_le _, fun L hL => ⟨_, .list [], .lst (SqL.of ?_) (dp_signs (x.1.cps.toList.filter fun c => !letter c)), .lst (SqL.of upd_same) .nil, shaped_signs (cs := x.1.cps.toList.filter fun c => !letter c) fun c hc => ?_, rfl, ?_⟩⟩
              · rw [upd_ne (ne_of_none e1 hL)]
                exact e1
              · have hc2 := (List.mem_filter.mp hc).1
                have hx2 := (hsh x hxm).2
                rw [← Array.all_toList, List.all_eq_true] at hx2
                exact of_decide_eq_true (hx2 c hc2)
              · have e5 : okName x.1 = PyData.eqv (.list ((x.1.cps.toList.filter fun c => !letter c).map fun c => .str ⟨#[c]⟩)) (.list []) := by
                  have h1' : (1 : Int) ≤ x.1.length := of_decide_eq_true h1
                  have h2' : (x.1.length : Int) ≤ 8 := of_decide_eq_true h2
                  unfold okName
                  rw [decide_eq_true h1', decide_eq_true h2']
                  generalize x.1.cps.toList = cs
                  show (true && (true && cs.all letter)) = PyData.eqvAll _ []
                  induction cs with
                  | nil => rfl
                  | cons c cs ih =>
                    rw [List.all_cons, List.filter_cons]
                    cases letter c with
                    | true => simpa using ih
                    | false => rfl
                rw [← e5]
                exact h _ (s1.trans (same_upd hL))
          · have e3 : okName x.1 = false := by
              unfold okName
              have h2' : ¬ (x.1.length : Int) ≤ 8 := fun q => h2 (decide_eq_true q)
              rw [decide_eq_false h2']
              simp
            have := h _ (Same.refl _)
            rw [e3] at this
            exact this
        · have e3 : okName x.1 = false := by
            unfold okName
            have h1' : ¬ (1 : Int) ≤ x.1.length := fun q => h1 (decide_eq_true q)
            rw [decide_eq_false h1']
            rfl
          have := h _ (Same.refl _)
          rw [e3] at this
          exact ⟨_, rfl, iteF this⟩
      · refine name_at ?_
        have hbad : (decide ((i : Int) = 24) || (!okName x.1 || (!timeOk x.2.1 x.2.2 || ((xs.take i).map fun x => x.1).any (fun y => y == x.1)))) = badStay i ((xs.take i).map fun x => x.1) x := by
          unfold badStay
          rw [okStay_time]
          cases decide ((i : Int) = 24) <;> cases okName x.1 <;> cases timeOk x.2.1 x.2.2 <;> simp
        refine ans_or (decide ((i : Int) = 24)) (!okName x.1 || (!timeOk x.2.1 x.2.2 || ((xs.take i).map fun x => x.1).any (fun y => y == x.1))) (fun R h => ⟨_, rfl, rfl, _, rfl, ?_⟩) (fun H5 s5 _ R h => ?_) fun H5 s5 => ?_
        · have e : decide (V.int (i : Int) = V.int 24) = decide ((i : Int) = 24) := by
            rw [dec_int]
            rfl
          rw [e]
          exact h _ (Same.refl _)
        · refine ans_or _ _ (fun R h => ⟨_, rfl, _, rfl, h _ (Same.refl _)⟩) (fun H6 s6 _ R h => ?_) h
          refine ans_or _ _ (fun R h => ?_) (fun H7 s7 _ R h => ?_) h
          · refine ⟨_, rfl, _, _, rfl, rfl, _, rfl, ?_⟩
            refine ite2 (fun h1 => ?_) (fun h1 => ?_)
            · refine ⟨_, rfl, _, _, rfl, rfl, _, rfl, ?_⟩
              refine ite2 (fun h2 => ?_) (fun h2 => ?_)
              · refine ⟨_, _, rfl, rfl, ⟨by decide, by decide, by decide⟩, _, _, rfl, rfl, _, rfl, ?_⟩
                have e : timeOk x.2.1 x.2.2 = decide (x.2.2 ≤ 10 ^ (9 : Int).toNat) := by
                  unfold timeOk
                  rw [h1, h2]
                  rfl
                have := h _ (Same.refl _)
                rw [e] at this
                exact this
              · have e : timeOk x.2.1 x.2.2 = false := by
                  unfold timeOk
                  rw [Bool.eq_false_iff.mpr h2]
                  simp
                have := h _ (Same.refl _)
                rw [e] at this
                exact this
            · have e : timeOk x.2.1 x.2.2 = false := by
                unfold timeOk
                rw [Bool.eq_false_iff.mpr h1]
                simp
              have := h _ (Same.refl _)
              rw [e] at this
              exact this
          · have s37 := (((s3.trans s4).trans s5).trans s6).trans s7
            refine ⟨_, rfl, _, rfl, _, rfl, _, rfl, a, ws, rfl, s37.seq ha, fun p hp => ?_⟩
            have s8 : Same H7 (upd H7 p (.lst (cutV ws none (some (i : Int))))) := same_upd hp
            have hp8 : (upd H7 p (.lst (cutV ws none (some (i : Int))))) p = some (.lst (cutV ws none (some (i : Int)))) := upd_same
            have cut : cutV ws none (some (i : Int)) = ws.take i := by
              unfold cutV
              rw [HT.sIx_none, HT.sIx_nat, List.drop_zero, Nat.sub_zero, Nat.min_eq_left (Nat.le_of_lt hi')]
            rw [cut] at hp8 s8 ⊢
            generalize upd H7 p (.lst (ws.take i)) = H8 at *
            have s38 := s37.trans s8
            have lt : (ws.take i).length = i := by rw [List.length_take]; omega
            refine ⟨p, rfl, ⟨_, SqL.of hp8⟩, fun D hD => ?_⟩
            refine lc_map walk_list (fun j => ((xs.take i)[j]?).map fun y => V.str y.1) hD (Nat.le_trans (Nat.le_of_eq lt) (by rw [sizeLine_eq]; omega)) (fun H1 s1 => SqL.of (s1 _ _ hp8)) (fun j v H1 H' hj s1 yy R' k1 => ?_) (fun j hj => ?_) fun H1 s1 e1 => ?_
            · obtain ⟨rfl, e2⟩ := yy
              rw [lt] at hj
              rw [List.getElem?_take_of_lt hj] at e2
              obtain ⟨y, hy2, t', rfl, ht'⟩ := pair_get hxs e2
              refine ⟨rfl, _, rfl, t', _, 0, .str y.1, rfl, rfl, SqT.of (s1 _ _ (s38 _ _ ht')), atI_nat (j := 0) rfl, ?_⟩
              refine k1 _ _ (Same.refl _) ?_
              rw [List.getElem?_take_of_lt hj, hy2]
              rfl
            · rw [lt] at hj
              exact ⟨_, by rw [List.getElem?_take_of_lt hj, List.getElem?_eq_getElem (by omega)]; rfl⟩
            · have e3 := gather_map (xs.take i) fun y => V.str y.1
              have lt2 : (xs.take i).length = (ws.take i).length := by rw [List.length_take, List.length_take, len]
              rw [lt2] at e3
              rw [e3] at e1
              have e : (xs.take i).map (fun y => V.str y.1) = ((xs.take i).map fun y => y.1).map V.str := by
                rw [List.map_map]
                rfl
              rw [e] at e1
              refine ⟨D, _, rfl, .inl (SqL.of e1), rfl, flat_strs _, _, rfl, ?_⟩
              rw [if_neg Bool.false_ne_true, inV_strs]
              exact h _ (s8.trans s1)
        · rw [hbad]
          have hdrop : xs.drop i = x :: xs.drop (i + 1) := by
            obtain ⟨lt, e⟩ := List.getElem?_eq_some_iff.mp hx
            rw [List.drop_eq_getElem_cons lt, e]
          rw [hdrop] at hb
          unfold firstBadFrom at hb
          have s35 := (s3.trans s4).trans s5
          by_cases hB : badStay i ((xs.take i).map fun x => x.1) x = true
          · rw [if_pos hB] at hb
            rw [hB]
            have e := k H5 s35
            rw [← hb] at e
            exact iteT ⟨_, rfl, e⟩
          · rw [if_neg hB] at hb
            rw [Bool.eq_false_iff.mpr hB]
            have take1 : xs.take (i + 1) = xs.take i ++ [x] := by rw [List.take_add_one, hx]; rfl
            refine iteF ⟨_, _, _, _, _, _, rfl, s35, ?_⟩
            rw [take1, List.map_append]
            exact hb
    · rintro σ H2 ⟨o1, o2, o3, o4, o5, o6, rfl, s2, hb⟩
      have e := k H2 s2
      have e0 : firstBad xs = none := by
        rw [← hb, len, Int.toNat_natCast, List.drop_length]
        rfl
      rw [e0] at e
      exact e
end
end Sh1
set_option Elab.async false
set_option linter.all false
set_option maxRecDepth 100000
set_option maxHeartbeats 2000000
namespace Sh1
open PySem L2 Sho NdefX
/-- what the three clauses need -/
structure Errs (K : PySem.W.Frag) (mg : Str → Option Value) (CI CT CU : Addr) : Prop where
  gI : mg "InvalidStay" = some (.ref CI)
  gT : mg "InvalidTick" = some (.ref CT)
  gU : mg "UnknownGuest" = some (.ref CU)
  xI : XfC K CI
  xU : XfC K CU
  nI : PySem.W.findIn K (.ref CI) "index" = some none
  nU : PySem.W.findIn K (.ref CU) "name" = some none
  ii : PySem.W.exmOne K (.ref CI) (.ref CI) = some true
  ti : PySem.W.exmOne K (.ref CT) (.ref CI) = some false
  tt : PySem.W.exmOne K (.ref CT) (.ref CT) = some true
  ui : PySem.W.exmOne K (.ref CU) (.ref CI) = some false
  ut : PySem.W.exmOne K (.ref CU) (.ref CT) = some false
  uu : PySem.W.exmOne K (.ref CU) (.ref CU) = some true
def Out (CI CT CU : Addr) (Q : VK) : XK := fun cls d H1 =>
  (cls = .ref CI ∧ ∃ (dd : Addr) (i : Int), d = some dd ∧ H1 dd = some (.xd [(("index" : Str), .int i)]) ∧ ∀ p H2, Same H1 H2 → H2 p = some (.tup [.str "InvalidStay", .int i]) → Q (.ref p) H2) ∨
  (cls = .ref CT ∧ ∀ p H2, Same H1 H2 → H2 p = some (.tup [.str "InvalidTick"]) → Q (.ref p) H2) ∨
  (cls = .ref CU ∧ ∃ (dd : Addr) (z : Str), d = some dd ∧ H1 dd = some (.xd [(("name" : Str), .str z)]) ∧ ∀ p H2, Same H1 H2 → H2 p = some (.tup [.str "UnknownGuest", .str z]) → Q (.ref p) H2)
section
variable {P : Program} {w : World} {K : PySem.W.Frag} {mg : Str → Option Value} {base : Heap}
theorem scOut : FnScope ["_law_work", "e"] ["_law_work"] (defScope sOut) := ⟨rfl, rfl, rfl, by decide +kernel, rfl, by decide +kernel, by decide +kernel⟩
theorem outcome_run {g CI CT CU : Addr} {fd : FuncData} (F : Fun K "_law_outcome" "_law_outcome" sOut g fd) (bF : Binds K fd ["_law_work"] []) (EE : Errs K mg CI CT CU)
    {cl : List (Str × Addr)} {fr : List Str} {ws : List (Option V)} {sp : SpL} {k : Nat} {A : Around} {outer : List Env} {s : Shared} {H : Hp} {f : Addr} {Q : VK} {E : XK} (hr : Room (k + 1) A) (e0 : Env0 P w K mg base A outer s H)
    (C : CellsAt cl fr ws s.heap H) (hact : Act P w K mg base (L2.CX P w) k cl fr sp f H) (q : ∀ E' : XK, (∀ cls d H1, Out CI CT CU Q cls d H1 → E' cls d H1) → sp ws H Q E') :
    codeAny (model P w) A (.call (.ref g) ⟨[.ref f], []⟩) (CR (L2.CX P w) outer P w H s Q E) s := by
  obtain ⟨oc, od, kV, doc, pm, an, cdv, ct, osl, rfl, lk, hcd⟩ := F.ex
  have KX : K.In s.heap := e0.mod.kin.keeps fun b o e => (e0.bs b o e).1
  refine LamX.run_ofS (N := ["_law_work", "e"]) (ps := ["_law_work"]) (us := [.ref f]) (vs := [.ref f]) lk hcd scOut hr e0 (bF s [.ref f] KX rfl) (.cons rfl .nil) rfl fun hr' => ?_
  have nd := scOut.nd
  refine ⟨_, pss_one (ps_try (Wout := fun cls d _ H' => E cls d H') (tb := fun W => tRet (tAct P w K mg base (L2.CX P w) k 0 cl fr ws fun σ => WE W σ)) rfl rfl nd (takes_of rfl rfl rfl rfl) (fun W pn xe tk po => pss_one (ps_ret (pe_act (i := 0) (CX := L2.CX P w) (k := k) (E := fun σ => WE W σ) hr' C (fun _ _ _ => List.not_mem_nil) (fun σ => passAt tk σ) rfl (.inl rfl)))) (l := [⟨.ref CI, some 1, _⟩, ⟨.ref CT, none, _⟩, ⟨.ref CU, some 1, _⟩])
    (.cons ⟨rfl, by decide, .inl EE.gI⟩ ⟨rfl, rfl⟩ (fun a oe cls d pn hz hf => pss_one (ps_ret (pe_tup (pa_cons pe_str (pa_cons (pe_xf EE.xI EE.nI hz hf (pv 1)) pa_nil)))))
      (.cons ⟨rfl, by decide, .inl EE.gT⟩ trivial (fun a oe cls d pn hz hf => pss_one (ps_ret (pe_tup (pa_cons pe_str pa_nil))))
        (.cons ⟨rfl, by decide, .inl EE.gU⟩ ⟨rfl, rfl⟩ (fun a oe cls d pn hz hf => pss_one (ps_ret (pe_tup (pa_cons pe_str (pa_cons (pe_xf EE.xU EE.nU hz hf (pv 1)) pa_nil))))) .nil)))), ?_⟩
  refine ⟨f, sp, rfl, hact, q _ fun cls d H1 o => ?_⟩
  rcases o with ⟨rfl, dd, i, rfl, hd, k1⟩ | ⟨rfl, k1⟩ | ⟨rfl, dd, z, rfl, hd, k1⟩
  · refine ⟨true, EE.ii, fun _ a ha => ?_, fun z => nomatch z⟩
    refine ⟨_, rfl, rfl, rfl, dd, _, .int i, rfl, hd, rfl, by show 2 ≤ sizeLine; decide, fun p hp => ?_⟩
    exact k1 p _ (same_upd hp) upd_same
  · refine ⟨false, EE.ti, ?_, ?_⟩
    · intro z
      cases z
    intro _
    refine ⟨true, EE.tt, ?_, ?_⟩
    · intro _ a ha
      exact ⟨by show 1 ≤ sizeLine; decide, fun p hp => k1 p _ (same_upd hp) upd_same⟩
    · intro z
      cases z
  · refine ⟨false, EE.ui, ?_, ?_⟩
    · intro z
      cases z
    intro _
    refine ⟨false, EE.ut, ?_, ?_⟩
    · intro z
      cases z
    intro _
    refine ⟨true, EE.uu, ?_, ?_⟩
    · intro _ a ha
      refine ⟨_, rfl, rfl, rfl, dd, _, .str z, rfl, hd, rfl, by show 2 ≤ sizeLine; decide, fun p hp => ?_⟩
      exact k1 p _ (same_upd hp) upd_same
    · intro z
      cases z
end
end Sh1
set_option Elab.async false
set_option linter.all false
set_option maxRecDepth 100000
set_option maxHeartbeats 2000000
namespace Sh1
open PySem L2 Sho NdefX
/-- a def whose code object is known -/
structure FunL (K : PySem.W.Frag) (x qual : Str) (st : Stmt) (f c : Addr) (fd : FuncData) : Prop where
  ex : ∃ (oc : Value) (od : Option Addr) (kV doc pm : Value) (an : Option Addr) (ct : Value) (osl : Array (Option Value)),
    fd = PySem.W.fnOf x qual (defArgs st) (defBody st) (defScope st) .none kV doc pm an (.ref c) ct ∧ K.lookup f = some ⟨oc, od, .func (PySem.W.fnOf x qual (defArgs st) (defBody st) (defScope st) .none kV doc pm an (.ref c) ct), osl⟩ ∧ PySem.W.codeIn K (.ref c) qual = true
theorem free_by {sn os : List (Str × NameKind)} (h : (sn.all fun y => !decide (y.2 = .free) || (decide (os.lookup y.1 = some .cell) || decide (os.lookup y.1 = some .free))) = true) :
    ∀ y ∈ sn, y.2 = .free → os.lookup y.1 = some .cell ∨ os.lookup y.1 = some .free := fun y hy e => by
  have q := List.all_eq_true.mp h y hy
  rw [decide_eq_true e] at q
  simpa using q
abbrev fnames : List (Str × NameKind) := [("_law_party_here", .free)]
abbrev scL (l : List (Str × NameKind)) : Scope := { kind := .function, names := l, isGenerator := false, isCoroutine := false }
/-- the captured party -/
abbrev clP (sc : Scope) (n : Nat) : List (Str × Addr) := cloFrom (cellsFrom (n + 1) sc.names []) fnames []
abbrev frP : List Str := ["_law_party_here"]
theorem ne_lst {L b : Addr} {H : Hp} {xs : List V} {o : HO} (hL : H L = some (.lst xs)) (e : H b = some o) (n : ∀ ys, o ≠ .lst ys) : b ≠ L := fun z => by
  rw [z, hL] at e
  exact n xs (Option.some.inj e).symm
theorem lamAt_updL {L f : Addr} {H : Hp} {xs : List V} {o : HO} {Z : LF} (hL : H L = some (.lst xs)) (a : LamAt H f Z) : LamAt (upd H L o) f Z :=
  ⟨by rw [upd_ne (ne_lst hL a.o fun ys z => nomatch z)]; exact a.o, by rw [upd_ne (ne_lst hL a.c fun ys z => nomatch z)]; exact a.c, fun T h => by
    obtain ⟨ys, e, q⟩ := a.d T h
    exact ⟨ys, by rw [upd_ne (ne_lst hL e fun ys z => nomatch z)]; exact e, q⟩⟩
theorem act_updL {P : Program} {w : World} {K : PySem.W.Frag} {mg : Str → Option Value} {base : Heap} {CX : CXT} {k : Nat} {cl : List (Str × Addr)} {fr : List Str} {sp : SpL} {L f : Addr} {H : Hp} {xs : List V} {o : HO} (hL : H L = some (.lst xs))
    (a : Sho.Act P w K mg base CX k cl fr sp f H) : Sho.Act P w K mg base CX k cl fr sp f (upd H L o) := by
  obtain ⟨Z, h1, h2, h3⟩ := a
  exact ⟨Z, h1, lamAt_updL hL h2, h3⟩
theorem tabs_updL {T : List (Addr × Str)} {L : Addr} {H : Hp} {xs : List V} {o : HO} (hL : H L = some (.lst xs)) (t : LamX.Tabs T H) : LamX.Tabs T (upd H L o) := fun p hp => by
  obtain ⟨qs, q1, q2, q3⟩ := t p hp
  refine ⟨qs, by rw [upd_ne (ne_lst hL q1 fun ys z => nomatch z)]; exact q1, q2, fun p' cv h => ?_⟩
  obtain ⟨c, e1, e2⟩ := q3 p' cv h
  exact ⟨c, e1, by rw [upd_ne (ne_lst hL e2 fun ys z => nomatch z)]; exact e2⟩
section
variable {P : Program} {w : World} {K : PySem.W.Frag} {mg : Str → Option Value} {base : Heap}
theorem FunL.okX {x qual : Str} {st : Stmt} {f c : Addr} {fd : FuncData} {N ps : List Str} {k : Nat} {sp : Sp} (F : FunL K x qual st f c fd) (S : FnScope N ps (defScope st)) (len : ∀ vs H Q E, sp vs H Q E → vs.length = ps.length)
    (hbody : ∀ (A : Around) (outer : List Env) (s : Shared) (H : Hp) (vs : List V) (Q : VK) (E : XK), Room k (A.deeper (PyProof.Rows.envOfC qual (defScope st) s.heap.objs.size f (.ref c))) → sp vs H Q E →
      ∃ t, PSs (cxOf (L2.CX P w) P w K mg base N qual (defScope st) f (.ref c) A outer s H E) (defBody st) t ∧ t { nx := fun _ H' => Q .non H', rt := Q } (L2.start N vs) H) : FnOk P w K mg base (L2.CX P w) (k + 1) f fd ps sp := by
  obtain ⟨oc, od, kV, doc, pm, an, ct, osl, rfl, lk, hcd⟩ := F.ex
  exact fn_of lk hcd S len fun A outer s H vs Q E hr hsp => hbody A outer s H vs Q E hr hsp
abbrev qRef : Str := "_law_refused.<locals>.<lambda>"
def spU (C CU : Addr) : SpL := fun ws H _ E => ∃ p : Addr, ws = [some (.ref p)] ∧ Unknown C CU [.ref p, .str "nobody"] H E
def spT (C CT : Addr) : SpL := fun ws H _ E => ∃ (p : Addr) (xs : List Stay), ws = [some (.ref p)] ∧ PartyAt C H p xs ∧ E (.ref CT) none H
theorem dp_const {H : Hp} {vs : List V} {ds : List PyData} (hd : ∀ H, DpAll K H vs ds) : ∀ {ys : List V}, (∀ y ∈ ys, ∃ t, y = .ref t ∧ H t = some (.tup vs)) → DpAll K H ys (List.replicate ys.length (.tuple ds))
  | [], _ => .nil
  | y :: ys, h => by
    obtain ⟨t, rfl, ht⟩ := h y List.mem_cons_self
    exact .cons (.tup (SqT.of ht) (hd H)) (dp_const hd fun z hz => h z (List.mem_cons_of_mem _ hz))
theorem party_ext {C : Addr} {H H' : Hp} {p : Addr} {xs : List Stay} (e : LamX.ExtN H H') (h : PartyAt C H p xs) : PartyAt C H' p xs := by
  obtain ⟨dx, a, ws, h1, h2, h3⟩ := h
  refine ⟨dx, a, ws, e _ _ h1 (fun _ z => nomatch z), e _ _ h2 (fun _ z => nomatch z), ?_⟩
  clear h1 h2
  induction h3 with
  | nil => exact .nil
  | cons x r ih =>
    obtain ⟨t, e1, ht⟩ := x
    exact .cons ⟨t, e1, e _ _ ht (fun _ z => nomatch z)⟩ ih
/-- what an element of the comprehension asks -/
def teOut (P : Program) (w : World) (K : PySem.W.Frag) (mg : Str → Option Value) (base : Heap) (CI CT CU : Addr) (k : Nat) (cl : List (Str × Addr)) (σ : L2.St) : TE := fun σ' H' Q' => tCons (tVar 2) tNil σ' H' fun vs H1 => ∃ v, vs = [v] ∧
  ∃ f sp, v = .ref f ∧ Sho.Act P w K mg base (L2.CX P w) k cl frP sp f H1 ∧ ∀ E' : XK, (∀ cls d H2, Out CI CT CU Q' cls d H2 → E' cls d H2) → sp [slotAt σ 0] H1 Q' E'
theorem not_fp {cl : List (Str × Addr)} {fr : List Str} {ws : List (Option V)} {h : Heap} {H : Hp} {fp : List Addr} (C : CellsAt cl fr ws h H) (hfp : ∀ b ∈ fp, ∃ o, h.get? b = some o ∧ ∀ v, o.data ≠ .cell v) : ∀ y c, cl.lookup y = some c → c ∉ fp := fun y c e m => by
  obtain ⟨_, v, o, ho, hd⟩ := C.all y c e
  obtain ⟨o', ho', n⟩ := hfp c m
  rw [ho] at ho'
  cases ho'
  exact n v hd
def spRefused (T : List (Addr × Str)) (C : Addr) : Sp := fun vs H Q _ => ∃ (p : Addr) (xs : List Stay), vs = [.ref p] ∧ PartyAt C H p xs ∧ Short xs ∧ Valid xs ∧ guest xs "nobody" = none ∧ LamX.Tabs T H ∧ ∀ H', Grows T H H' → Q (.bl true) H'
theorem scRefused : FnScope ["_law_party_here", "_law_works", "_law_work"] ["_law_party_here"] (defScope sRefused) := ⟨rfl, rfl, rfl, by decide +kernel, rfl, by decide +kernel, by decide +kernel⟩
theorem ok_refused {f c TP C CI CT CU g : Addr} {fd fdO : FuncData} {T : List (Addr × Str)} (F : FunL K "_law_refused" "_law_refused" sRefused f c fd) (B : Blt mg) (PC : PartyC K mg C) (EE : Errs K mg CI CT CU)
    (TB : LamX.TabB base mg c TP) (hm : (TP, qRef) ∈ T) (hu : ∀ p ∈ T, p.1 = TP → p.2 = qRef)
    {fI fS fL fX fP : Addr} {fdI fdS fdL fdX fdP : FuncData} (hc : PySem.W.selfFirst K C = true) (O : OpC K C "__sub__" "__rsub__" "str" fS) (GS : FnOk P w K mg base (L2.CX P w) 7 fS fdS ["self", "name"] (spPSub C CU)) (bS : Binds K fdS ["self", "name"] [])
    (GI : FnOk P w K mg base (L2.CX P w) 4 fI fdI ["self", "name"] (spPIx C CU)) (bI : Binds K fdI ["self", "name"] []) (iI : PySem.W.findIn K (.ref C) "__getitem__" = some (some (.ref fI))) (jI : PySem.W.fnIn K fI = true) (kI : PySem.W.isFn K (.ref fI) = true)
    (GL : FnOk P w K mg base (L2.CX P w) 4 fL fdL ["self", "name"] (spPCall C CU)) (bL : Binds K fdL ["self", "name"] []) (oL : StX.CallO K C fL)
    (GX : FnOk P w K mg base (L2.CX P w) 8 fX fdX ["party", "name"] (fun vs H _ E => Unknown C CU vs H E)) (mX : mg "change_without" = some (.ref fX)) (kX : PySem.W.keepIn K (.ref fX) = true) (bX : Binds K fdX ["party", "name"] [])
    (GP : FnOk P w K mg base (L2.CX P w) 3 fP fdP ["self", "tick"] (spPPile C CT)) (mP : Meth K C "pile_at" fP) (bP : Binds K fdP ["self", "tick"] [])
    (FO : Fun K "_law_outcome" "_law_outcome" sOut g fdO) (bO : Binds K fdO ["_law_work"] []) (mO : mg "_law_outcome" = some (.ref g)) (kO : PySem.W.keepIn K (.ref g) = true) :
    FnOk P w K mg base (L2.CX P w) 11 f fd ["_law_party_here"] (spRefused T C) := by
  refine F.okX scRefused (fun vs H Q E h => ?_) (fun A outer s H vs Q E hr h => ?_)
  · obtain ⟨p, xs, rfl, _⟩ := h
    rfl
  · obtain ⟨p, xs, rfl, PA, hs, hv, hg, hT, k⟩ := h
    have nd := scRefused.nd
    refine ⟨_, pss_cons (ps_set (i := 1) nd rfl (Or.inl rfl) (pe_lst (pa_cons (pe_lam TB rfl hm hu (free_by (os := (defScope sRefused).names) (by decide +kernel))) (pa_cons (pe_lamD TB rfl hm hu (free_by (os := (defScope sRefused).names) (by decide +kernel)) pe_int) (pa_cons (pe_lamD TB rfl hm hu (free_by (os := (defScope sRefused).names) (by decide +kernel)) pe_int) pa_nil)))))
      (pss_cons (ps_expr (pe_bm PySem.F.plainAttrs_list PySem.F.slot_list_append PySem.F.type_list_append mt_append (pv 1) (pa_cons (pe_lamD TB rfl hm hu (free_by (os := (defScope sRefused).names) (by decide +kernel)) pe_int) pa_nil)))
      (pss_cons (ps_if (pt_cmpR (op_neD hr.units) (pe_lcS (P := fun σ s' H' => CellsAt (clP (defScope sRefused) s.heap.objs.size) frP [slotAt σ 0] s'.heap H') (own := [("_law_work", 2)]) (g := gName 2) (tt := tYes) (te := teOut P w K mg base CI CT CU 9 (clP (defScope sRefused) s.heap.objs.size)) rfl nd
          (pi_list (pv 1)) (blkOk_by (own := [("_law_work", 2)]) (N := ["_law_party_here", "_law_works", "_law_work"]) (sc := defScope sRefused) (by decide +kernel))
          (fun pins σ H' s' I => cells_of (js := [0]) (fr := frP) I (Caps.made (scope := scL fnames) I.ok (free_by (os := (defScope sRefused).names) (by decide +kernel)) (by decide +kernel) rfl))
          (fun _ _ _ _ _ => pg_name (i := 2) nd rfl (Or.inl rfl)) (fun _ _ _ _ _ => pts_nil)
          (fun σ s' H' C' cl' fp hC hfp => pe_callAt (CX := L2.CX P w) (E := fun _ _ _ => False) (know := fun _ s2 H2 => CellsAt (clP (defScope sRefused) s.heap.objs.size) frP [slotAt σ 0] s2.heap H2)
            (sp := fun _ v H1 Q' => ∃ f sp, v = .ref f ∧ Sho.Act P w K mg base (L2.CX P w) 9 (clP (defScope sRefused) s.heap.objs.size) frP sp f H1 ∧ ∀ E' : XK, (∀ cls d H2, Out CI CT CU Q' cls d H2 → E' cls d H2) → sp [slotAt σ 0] H1 Q' E')
            (by rfl) mO kO passL (fun pins σ2 H2 s2 I => cells_kept I hC (not_fp hC hfp)) (pa_cons (pv 2) pa_nil) (fun σ2 s2 H2 u v Q2 e0 kn rv h => by
              obtain ⟨f2, sp2, rfl, ac, q⟩ := h
              cases rv
              exact outcome_run FO bO EE hr e0 kn ac q))) (pe_op op_rep (pe_lst (pa_cons (pe_tup (pa_cons pe_str (pa_cons pe_str pa_nil))) pa_nil)) pe_int) (nomark _)) (pss_one (ps_ret pe_bl)) pss_nil)
      (pss_cons (ps_set (i := 1) nd rfl (Or.inl rfl) (pe_lst (pa_cons (pe_lam TB rfl hm hu (free_by (os := (defScope sRefused).names) (by decide +kernel))) (pa_cons (pe_lamD TB rfl hm hu (free_by (os := (defScope sRefused).names) (by decide +kernel)) pe_int) pa_nil))))
      (pss_one (ps_ret (pe_cmpR (op_eqD hr.units) (pe_lcS (P := fun σ s' H' => CellsAt (clP (defScope sRefused) s.heap.objs.size) frP [slotAt σ 0] s'.heap H') (own := [("_law_work", 2)]) (g := gName 2) (tt := tYes) (te := teOut P w K mg base CI CT CU 9 (clP (defScope sRefused) s.heap.objs.size)) rfl nd
          (pi_list (pv 1)) (blkOk_by (own := [("_law_work", 2)]) (N := ["_law_party_here", "_law_works", "_law_work"]) (sc := defScope sRefused) (by decide +kernel))
          (fun pins σ H' s' I => cells_of (js := [0]) (fr := frP) I (Caps.made (scope := scL fnames) I.ok (free_by (os := (defScope sRefused).names) (by decide +kernel)) (by decide +kernel) rfl))
          (fun _ _ _ _ _ => pg_name (i := 2) nd rfl (Or.inl rfl)) (fun _ _ _ _ _ => pts_nil)
          (fun σ s' H' C' cl' fp hC hfp => pe_callAt (CX := L2.CX P w) (E := fun _ _ _ => False) (know := fun _ s2 H2 => CellsAt (clP (defScope sRefused) s.heap.objs.size) frP [slotAt σ 0] s2.heap H2)
            (sp := fun _ v H1 Q' => ∃ f sp, v = .ref f ∧ Sho.Act P w K mg base (L2.CX P w) 9 (clP (defScope sRefused) s.heap.objs.size) frP sp f H1 ∧ ∀ E' : XK, (∀ cls d H2, Out CI CT CU Q' cls d H2 → E' cls d H2) → sp [slotAt σ 0] H1 Q' E')
            (by rfl) mO kO passL (fun pins σ2 H2 s2 I => cells_kept I hC (not_fp hC hfp)) (pa_cons (pv 2) pa_nil) (fun σ2 s2 H2 u v Q2 e0 kn rv h => by
              obtain ⟨f2, sp2, rfl, ac, q⟩ := h
              cases rv
              exact outcome_run FO bO EE hr e0 kn ac q))) (pe_op op_rep (pe_lst (pa_cons (pe_tup (pa_cons pe_str pa_nil)) pa_nil)) pe_int) (nomark _))))))), ?_⟩
    refine asg_seq (lst_of (cons_of ⟨hT, fun f0 c0 H1 G1 n0 l0 => cons_of ⟨G1.tab hT, fun f1 c1 t1 H2 G2 n1 l1 => ?_⟩⟩))
    have a0 : Act P w K mg base (L2.CX P w) 9 (clP (defScope sRefused) s.heap.objs.size) frP (spU C CU) f0 H1 :=
      Act.mono (act0 (k := 5) (N := ["_law_party_here"]) (fr := frP) (sp := spU C CU) l0 (nscope_by (sc := scL fnames) (by decide +kernel)) (fun _ _ => rfl) fun A outer s H ws Q E hr hw h => by
        obtain ⟨p, rfl, p', z, xs, e, PA, hs, hv, hz, hg, kBad⟩ := h
        cases e
        refine ⟨_, pe_ixO (fnr_of GI bI) hr (passes_call (takes_of rfl rfl rfl rfl) fun _ _ _ _ z => z) iI jI kI (pv 0) pe_str (fun _ _ => rfl), ?_⟩
        exact ⟨_, rfl, p, rfl, ins_party PA, p, "nobody", xs, rfl, PA, hz, fun x hx => (by rw [hg] at hx; cases hx), fun _ => kBad⟩) (by decide) fun _ _ _ _ h => h
    have a1 : Act P w K mg base (L2.CX P w) 9 (clP (defScope sRefused) s.heap.objs.size) frP (spU C CU) f1 H2 :=
      Act.mono (act1 (k := 7) (x := "_law_a") (N := ["_law_a", "_law_party_here"]) (fr := frP) (sp := spU C CU) l1 rfl (nscope_by (sc := scL [("_law_a", .local), ("_law_party_here", .free)]) (by decide +kernel)) (fun _ _ _ => ⟨_, rfl, rfl⟩) fun A outer s H ws Q E hr hw h => by
        obtain ⟨p, rfl, p', z, xs, e, PA, hs, hv, hz, hg, kBad⟩ := h
        cases e
        refine ⟨_, pe_op (sub_str (fnr_of GS bS) hr (passes_call (takes_of rfl rfl rfl rfl) fun _ _ _ _ z => z) hc O) (pv 1) pe_str, ?_⟩
        exact ⟨_, rfl, p, rfl, ⟨_, rfl⟩, ins_party PA, p, "nobody", xs, rfl, PA, hs, hv, hz, fun x hx => (by rw [hg] at hx; cases hx), fun _ => kBad⟩) (by decide) fun _ _ _ _ h => h
    refine cons_of ⟨G2.tab (G1.tab hT), fun f2 c2 t2 H3 G3 n2 l2 => ⟨by show 3 ≤ sizeLine; decide, fun L hL => ?_⟩⟩
    have a2 : Act P w K mg base (L2.CX P w) 9 (clP (defScope sRefused) s.heap.objs.size) frP (spU C CU) f2 H3 :=
      Act.mono (act1 (k := 4) (x := "_law_b") (N := ["_law_b", "_law_party_here"]) (fr := frP) (sp := spU C CU) l2 rfl (nscope_by (sc := scL [("_law_b", .local), ("_law_party_here", .free)]) (by decide +kernel)) (fun _ _ _ => ⟨_, rfl, rfl⟩) fun A outer s H ws Q E hr hw h => by
        obtain ⟨p, rfl, p', z, xs, e, PA, hs, hv, hz, hg, kBad⟩ := h
        cases e
        refine ⟨_, StX.pe_callO (pv 1) oL (fnr_of GL bL) hr (passes_call (takes_of rfl rfl rfl rfl) fun _ _ _ _ z => z) (pa_cons pe_str pa_nil), ?_⟩
        exact ⟨_, rfl, p, rfl, .inr (ins_party PA), p, "nobody", xs, rfl, PA, hs, hv, hz, hg, kBad⟩) (by decide) fun _ _ _ _ h => h
    have eX : LamX.ExtN H (upd H3 L (.lst [.ref f0, .ref f1, .ref f2])) := ((G1.trans G2).trans (G3.trans (Grows.upd (T := T) hL))).ext
    have tX : LamX.Tabs T (upd H3 L (.lst [.ref f0, .ref f1, .ref f2])) := (((G1.trans G2).trans (G3.trans (Grows.upd hL))).tab hT)
    have gL : Grows T H3 (upd H3 L (.lst [.ref f0, .ref f1, .ref f2])) := Grows.upd hL
    have b0 := (a0.ext (G2.trans (G3.trans gL)).ext)
    have b1 := (a1.ext (G3.trans gL).ext)
    have b2 := (a2.ext gL.ext)
    have hLX : (upd H3 L (.lst [.ref f0, .ref f1, .ref f2])) L = some (.lst [.ref f0, .ref f1, .ref f2]) := upd_same
    generalize upd H3 L (.lst [.ref f0, .ref f1, .ref f2]) = H4 at *
    refine name_at ?_
    refine ⟨_, rfl, .inl ⟨rfl, _, SqL.of hLX⟩, tX, fun f3 c3 t3 H5 G5 n5 l5 => ⟨L, _, _, rfl, rfl, G5.ext _ _ hLX (fun _ z => nomatch z), by show 3 < sizeLine; decide, ?_⟩⟩
    have a3 : Sho.Act P w K mg base (L2.CX P w) 9 (clP (defScope sRefused) s.heap.objs.size) frP (spU C CU) f3 H5 :=
      Sho.Act.mono (act1 (k := 8) (x := "_law_c") (N := ["_law_c", "_law_party_here"]) (fr := frP) (sp := spU C CU) l5 rfl (nscope_by (sc := scL [("_law_c", .local), ("_law_party_here", .free), ("change_without", .globalImplicit)]) (by decide +kernel)) (fun _ _ _ => ⟨_, rfl, rfl⟩) fun A outer s H ws Q E hr hw h => by
        obtain ⟨p, rfl, h⟩ := h
        refine ⟨_, pe_call GX hr rfl mX kX bX .nil (passes_call (takes_of rfl rfl rfl rfl) fun _ _ _ _ z => z) (pa_cons (pv 1) (pa_cons pe_str pa_nil)), ?_⟩
        exact ⟨_, rfl, h⟩) (by decide) fun _ _ _ _ h => h
    have h5L : H5 L = some (.lst [.ref f0, .ref f1, .ref f2]) := G5.ext _ _ hLX (fun _ z => nomatch z)
    have d0 := act_updL (o := .lst ([.ref f0, .ref f1, .ref f2] ++ [.ref f3])) h5L (b0.ext G5.ext)
    have d1 := act_updL (o := .lst ([.ref f0, .ref f1, .ref f2] ++ [.ref f3])) h5L (b1.ext G5.ext)
    have d2 := act_updL (o := .lst ([.ref f0, .ref f1, .ref f2] ++ [.ref f3])) h5L (b2.ext G5.ext)
    have d3 := act_updL (o := .lst ([.ref f0, .ref f1, .ref f2] ++ [.ref f3])) h5L a3
    have t6 := tabs_updL (o := .lst ([.ref f0, .ref f1, .ref f2] ++ [.ref f3])) h5L (G5.tab tX)
    have e6 : LamX.ExtN H (upd H5 L (.lst ([.ref f0, .ref f1, .ref f2] ++ [.ref f3]))) := fun b o e n => by
      have q3 := ((G1.trans G2).trans G3).ext b o e n
      rw [upd_ne (ne_of_none q3 hL)]
      exact G5.ext b o (eX b o e n) n
    have hL6 : (upd H5 L (.lst ([.ref f0, .ref f1, .ref f2] ++ [.ref f3]))) L = some (.lst ([.ref f0, .ref f1, .ref f2] ++ [.ref f3])) := upd_same
    generalize upd H5 L (.lst ([.ref f0, .ref f1, .ref f2] ++ [.ref f3])) = H6 at *
    have acts : ∀ x ∈ ([.ref f0, .ref f1, .ref f2] ++ [.ref f3] : List V), ∃ f', x = .ref f' ∧ Sho.Act P w K mg base (L2.CX P w) 9 (clP (defScope sRefused) s.heap.objs.size) frP (spU C CU) f' H6 := fun x hx => by
      simp only [List.cons_append, List.nil_append, List.mem_cons, List.not_mem_nil, or_false] at hx
      rcases hx with rfl | rfl | rfl | rfl
      · exact ⟨_, rfl, d0⟩
      · exact ⟨_, rfl, d1⟩
      · exact ⟨_, rfl, d2⟩
      · exact ⟨_, rfl, d3⟩
    have PA6 : PartyAt C H6 p xs := party_ext e6 PA
    refine ⟨_, rfl, L, rfl, ⟨_, SqL.of hL6⟩, fun D hD => ?_⟩
    refine lc_rel walk_list (fun _ y H => ∃ t, y = .ref t ∧ H t = some (.tup [.str "UnknownGuest", .str "nobody"])) hD (by show 4 ≤ sizeLine; decide) (fun H1 s1 => SqL.of (s1 _ _ hL6)) (fun i y H H' st ⟨t, e, ht⟩ => ⟨t, e, st _ _ ht⟩) (fun i x H1 H' hi s1 y R k1 => ?_) fun H7 ys s7 e7 len7 rel7 => ?_
    · obtain ⟨rfl, e2⟩ := y
      obtain ⟨f', rfl, ac⟩ := acts x (List.mem_of_getElem? e2)
      refine ⟨rfl, _, rfl, _, rfl, f', spU C CU, rfl, ac.ext (LamX.ExtN.of fun b o e => s1 b o e), fun E' hE => ⟨p, rfl, p, "nobody", xs, rfl, PA6.same s1, hs, hv, by decide +kernel, hg, fun H8 d s8 hd e8 => hE _ _ _ (.inr (.inr ⟨rfl, d, "nobody", rfl, e8, fun t H9 s9 e9 => k1 _ _ (s8.trans s9) ⟨t, rfl, e9⟩⟩))⟩⟩
    · have len4 : ys.length = 4 := len7
      have mem7 : ∀ y ∈ ys, ∃ t, y = .ref t ∧ H7 t = some (.tup [.str "UnknownGuest", .str "nobody"]) := fun y hy => by
        obtain ⟨i, hi, e⟩ := List.getElem_of_mem hy
        exact rel7 i y (by rw [List.getElem?_eq_getElem hi, e])
      refine ⟨by show 2 ≤ sizeLine; decide, fun u hu1 => ⟨by show 1 ≤ sizeLine; decide, fun l hl => ⟨l, 4, _, rfl, rfl, upd_same, by decide, by decide, by show 4 ≤ sizeLine; decide, fun r hr1 => ?_⟩⟩⟩
      have s8 : Same H7 (upd (upd (upd H7 u (.tup [.str "UnknownGuest", .str "nobody"])) l (.lst [.ref u])) r (.lst (List.replicate (4 : Int).toNat [.ref u]).flatten)) := ((same_upd hu1).trans (same_upd hl)).trans (same_upd hr1)
      have u8 : (upd (upd (upd H7 u (.tup [.str "UnknownGuest", .str "nobody"])) l (.lst [.ref u])) r (.lst (List.replicate (4 : Int).toNat [.ref u]).flatten)) u = some (.tup [.str "UnknownGuest", .str "nobody"]) := ((same_upd hl).trans (same_upd hr1)) _ _ upd_same
      have r8 : (upd (upd (upd H7 u (.tup [.str "UnknownGuest", .str "nobody"])) l (.lst [.ref u])) r (.lst (List.replicate (4 : Int).toNat [.ref u]).flatten)) r = some (.lst [.ref u, .ref u, .ref u, .ref u]) := upd_same
      generalize upd (upd (upd H7 u (.tup [.str "UnknownGuest", .str "nobody"])) l (.lst [.ref u])) r (.lst (List.replicate (4 : Int).toNat [.ref u]).flatten) = H8 at *
      have q1 : DpAll K H8 ys (List.replicate 4 (.tuple [.str "UnknownGuest", .str "nobody"])) := by
        have q := dp_const (K := K) (H := H8) (ds := [.str "UnknownGuest", .str "nobody"]) (fun _ => .cons (.str _) (.cons (.str _) .nil)) (ys := ys) fun y hy => by
          obtain ⟨t, e, ht⟩ := mem7 y hy
          exact ⟨t, e, s8 _ _ ht⟩
        rw [len4] at q
        exact q
      have q2 : DpAll K H8 [.ref u, .ref u, .ref u, .ref u] (List.replicate 4 (.tuple [.str "UnknownGuest", .str "nobody"])) := dp_const (fun _ => .cons (.str _) (.cons (.str _) .nil)) fun y hy => by
        simp only [List.mem_cons, List.not_mem_nil, or_false] at hy
        rcases hy with rfl | rfl | rfl | rfl <;> exact ⟨u, rfl, u8⟩
      refine ⟨.list (List.replicate 4 (.tuple [.str "UnknownGuest", .str "nobody"])), .list (List.replicate 4 (.tuple [.str "UnknownGuest", .str "nobody"])), .lst (SqL.of (s8 _ _ e7)) q1, .lst (SqL.of r8) q2, by decide +kernel, by decide +kernel, _, rfl, ?_⟩
      have ee : PyData.eqv (.list (List.replicate 4 (.tuple [.str "UnknownGuest", .str "nobody"]))) (.list (List.replicate 4 (.tuple [.str "UnknownGuest", .str "nobody"]))) = true := by decide +kernel
      rw [ee]
      have t8 : LamX.Tabs T H8 := LamX.Tabs.ext t6 fun b o e => s8 b o (s7 b o e)
      have e8 : LamX.ExtN H H8 := e6.trans (LamX.ExtN.of fun b o e => s8 b o (s7 b o e))
      have PA8 := party_ext e8 PA
      refine iteF ⟨t8, fun g0 c4 H9 G9 n9 l9 => ⟨G9.tab t8, fun g1 c5 t5 Ha Ga na la => ⟨by show 2 ≤ sizeLine; decide, fun M hM => ?_⟩⟩⟩
      have x0 : Sho.Act P w K mg base (L2.CX P w) 9 (clP (defScope sRefused) s.heap.objs.size) frP (spT C CT) g0 H9 :=
        Sho.Act.mono (act0 (k := 4) (N := ["_law_party_here"]) (fr := frP) (sp := spT C CT) l9 (nscope_by (sc := scL fnames) (by decide +kernel)) (fun _ _ => rfl) fun A outer s H ws Q E hr hw h => by
          obtain ⟨p, xs, rfl, PA, q⟩ := h
          obtain ⟨dx, a, ws, h1, h2, h3⟩ := id PA
          refine ⟨_, pe_meth (pv 0) PC.cl mP GP (hr.mono (by decide)) bP .nil (passes_call (takes_of rfl rfl rfl rfl) fun _ _ _ _ z => z) (pa_cons (pe_op op_sub pe_int pe_int) pa_nil), ?_⟩
          exact ⟨_, rfl, p, dx, _, rfl, h1, no_meth _ (by decide +kernel), _, _, rfl, rfl, p, _, xs, rfl, by decide +kernel, by decide +kernel, q⟩) (by decide) fun _ _ _ _ h => h
      have x1 : Sho.Act P w K mg base (L2.CX P w) 9 (clP (defScope sRefused) s.heap.objs.size) frP (spT C CT) g1 Ha :=
        Sho.Act.mono (act1 (k := 4) (x := "_law_a") (N := ["_law_a", "_law_party_here"]) (fr := frP) (sp := spT C CT) la rfl (nscope_by (sc := scL [("_law_a", .local), ("_law_party_here", .free)]) (by decide +kernel)) (fun _ _ _ => ⟨_, rfl, rfl⟩) fun A outer s H ws Q E hr hw h => by
          obtain ⟨p, xs, rfl, PA, q⟩ := h
          obtain ⟨dx, a, ws, h1, h2, h3⟩ := id PA
          refine ⟨_, pe_meth (pv 1) PC.cl mP GP (hr.mono (by decide)) bP .nil (passes_call (takes_of rfl rfl rfl rfl) fun _ _ _ _ z => z) (pa_cons (pe_op op_add (pe_op op_pow pe_int pe_int) pe_int) pa_nil), ?_⟩
          exact ⟨_, rfl, p, dx, _, rfl, h1, no_meth _ (by decide +kernel), _, _, rfl, rfl, ⟨by decide, by decide, by decide⟩, _, _, rfl, rfl, p, _, xs, rfl, by decide +kernel, by decide +kernel, q⟩) (by decide) fun _ _ _ _ h => h
      have gM : Grows T Ha (upd Ha M (.lst [.ref g0, .ref g1])) := Grows.upd hM
      have y0 := x0.ext (Ga.trans gM).ext
      have y1 := x1.ext gM.ext
      have eb : LamX.ExtN H (upd Ha M (.lst [.ref g0, .ref g1])) := e8.trans (G9.trans (Ga.trans gM)).ext
      have tb : LamX.Tabs T (upd Ha M (.lst [.ref g0, .ref g1])) := (G9.trans (Ga.trans gM)).tab t8
      have hMb : (upd Ha M (.lst [.ref g0, .ref g1])) M = some (.lst [.ref g0, .ref g1]) := upd_same
      generalize upd Ha M (.lst [.ref g0, .ref g1]) = Hb at *
      have PAb := party_ext eb PA
      have acts2 : ∀ x ∈ ([.ref g0, .ref g1] : List V), ∃ f', x = .ref f' ∧ Sho.Act P w K mg base (L2.CX P w) 9 (clP (defScope sRefused) s.heap.objs.size) frP (spT C CT) f' Hb := fun x hx => by
        simp only [List.mem_cons, List.not_mem_nil, or_false] at hx
        rcases hx with rfl | rfl
        · exact ⟨_, rfl, y0⟩
        · exact ⟨_, rfl, y1⟩
      refine ⟨_, rfl, M, rfl, ⟨_, SqL.of hMb⟩, fun D2 hD2 => ?_⟩
      refine lc_rel walk_list (fun _ y H => ∃ t, y = .ref t ∧ H t = some (.tup [.str "InvalidTick"])) hD2 (by show 2 ≤ sizeLine; decide) (fun H1 s1 => SqL.of (s1 _ _ hMb)) (fun i y H H' st ⟨t, e, ht⟩ => ⟨t, e, st _ _ ht⟩) (fun i x H1 H' hi s1 y R k1 => ?_) fun Hc zs sc ec lenc relc => ?_
      · obtain ⟨rfl, e2⟩ := y
        obtain ⟨f', rfl, ac⟩ := acts2 x (List.mem_of_getElem? e2)
        refine ⟨rfl, _, rfl, _, rfl, f', spT C CT, rfl, ac.ext (LamX.ExtN.of fun b o e => s1 b o e), fun E' hE => ⟨p, xs, rfl, PAb.same s1, hE _ _ _ (.inr (.inl ⟨rfl, fun t H9 s9 e9 => k1 _ _ s9 ⟨t, rfl, e9⟩⟩))⟩⟩
      · have lenc2 : zs.length = 2 := lenc
        have memc : ∀ y ∈ zs, ∃ t, y = .ref t ∧ Hc t = some (.tup [.str "InvalidTick"]) := fun y hy => by
          obtain ⟨i, hi, e⟩ := List.getElem_of_mem hy
          exact relc i y (by rw [List.getElem?_eq_getElem hi, e])
        refine ⟨by show 1 ≤ sizeLine; decide, fun u hu1 => ⟨by show 1 ≤ sizeLine; decide, fun l hl => ⟨l, 2, _, rfl, rfl, upd_same, by decide, by decide, by show 2 ≤ sizeLine; decide, fun r hr1 => ?_⟩⟩⟩
        have sd : Same Hc (upd (upd (upd Hc u (.tup [.str "InvalidTick"])) l (.lst [.ref u])) r (.lst (List.replicate (2 : Int).toNat [.ref u]).flatten)) := ((same_upd hu1).trans (same_upd hl)).trans (same_upd hr1)
        have ud : (upd (upd (upd Hc u (.tup [.str "InvalidTick"])) l (.lst [.ref u])) r (.lst (List.replicate (2 : Int).toNat [.ref u]).flatten)) u = some (.tup [.str "InvalidTick"]) := ((same_upd hl).trans (same_upd hr1)) _ _ upd_same
        have rd : (upd (upd (upd Hc u (.tup [.str "InvalidTick"])) l (.lst [.ref u])) r (.lst (List.replicate (2 : Int).toNat [.ref u]).flatten)) r = some (.lst [.ref u, .ref u]) := upd_same
        generalize upd (upd (upd Hc u (.tup [.str "InvalidTick"])) l (.lst [.ref u])) r (.lst (List.replicate (2 : Int).toNat [.ref u]).flatten) = Hd at *
        have q3 : DpAll K Hd zs (List.replicate 2 (.tuple [.str "InvalidTick"])) := by
          have q := dp_const (K := K) (H := Hd) (ds := [.str "InvalidTick"]) (fun _ => .cons (.str _) .nil) (ys := zs) fun y hy => by
            obtain ⟨t, e, ht⟩ := memc y hy
            exact ⟨t, e, sd _ _ ht⟩
          rw [lenc2] at q
          exact q
        have q4 : DpAll K Hd [.ref u, .ref u] (List.replicate 2 (.tuple [.str "InvalidTick"])) := dp_const (fun _ => .cons (.str _) .nil) fun y hy => by
          simp only [List.mem_cons, List.not_mem_nil, or_false] at hy
          rcases hy with rfl | rfl <;> exact ⟨u, rfl, ud⟩
        refine ⟨.list (List.replicate 2 (.tuple [.str "InvalidTick"])), .list (List.replicate 2 (.tuple [.str "InvalidTick"])), .lst (SqL.of (sd _ _ ec)) q3, .lst (SqL.of rd) q4, by decide +kernel, by decide +kernel, ?_⟩
        have e2 : PyData.eqv (.list (List.replicate 2 (.tuple [.str "InvalidTick"]))) (.list (List.replicate 2 (.tuple [.str "InvalidTick"]))) = true := by decide +kernel
        rw [e2]
        exact k Hd ⟨eb.trans (LamX.ExtN.of fun b o e => sd b o (sc b o e)), fun _ => LamX.Tabs.ext tb fun b o e => sd b o (sc b o e)⟩
end
end Sh1
set_option Elab.async false
set_option linter.all false
set_option maxRecDepth 100000
set_option maxHeartbeats 2000000
namespace Sh1
open PySem L2 Sho NdefX
abbrev mnames : List (Str × NameKind) := [("_law_party_here", .free), ("_law_ticks", .free)]
abbrev clM (sc : Scope) (n : Nat) : List (Str × Addr) := cloFrom (cellsFrom (n + 1) sc.names []) mnames []
abbrev frM : List Str := ["_law_party_here", "_law_ticks"]
abbrev qMov : Str := "_law_moved.<locals>.<lambda>"
def spShL (C CI : Addr) : SpL := fun ws H Q E => ∃ (p : Addr) (n : Int) (xs : List Stay), ws = [some (.ref p), some (.int n)] ∧ PartyAt C H p xs ∧ Short xs ∧ xs.length ≤ 1000 ∧ Making C CI H (moved n xs) Q E
theorem stays_ext {H H' : Hp} (e : LamX.ExtN H H') : ∀ {ws : List V} {xs : List Stay}, StaysV H ws xs → StaysV H' ws xs
  | _, _, .nil => .nil
  | _, _, .cons ⟨t, e1, ht⟩ r => .cons ⟨t, e1, e _ _ ht (fun _ z => nomatch z)⟩ (stays_ext e r)
theorem shaped_err {z : Str} {i : Int} (h : z.cps.all (· < 0x110000) = true) : SeqAt.shaped (.tuple [.str z, .int i]) = true := by
  unfold SeqAt.shaped
  have h1 : PyData.canLay0 (.tuple [.str z, .int i]) = true := by
    show (PyData.canLay0 (.str z) && (true && true)) = true
    simp only [Bool.and_true]
    exact h
  rw [h1]
  rfl
theorem eqv_err (z : Str) (i : Int) : PyData.eqv (.tuple [.str z, .int i]) (.tuple [.str z, .int i]) = true := by
  show ((z == z) && ((i == i) && true)) = true
  simp
section
variable {P : Program} {w : World} {K : PySem.W.Frag} {mg : Str → Option Value} {base : Heap}
def spMoved (K : PySem.W.Frag) (T : List (Addr × Str)) (C : Addr) : Sp := fun vs H Q _ => ∃ (p r : Addr) (n : Int) (ws : List V) (xs : List Stay), vs = [.ref p, .ref r, .int n] ∧ PartyAt C H p xs ∧ SqL K H r ws ∧ StaysV H ws xs ∧ Short xs ∧ xs.length ≤ 1000 ∧ LamX.Tabs T H ∧ ∀ H', Grows T H H' → Q (.bl true) H'
theorem scMoved : FnScope ["_law_party_here", "_law_rows_here", "_law_ticks", "_law_moved_here", "_law_at", "_law_found", "_law_name", "_law_come", "_law_go"] ["_law_party_here", "_law_rows_here", "_law_ticks"] (defScope sMoved) := ⟨rfl, rfl, rfl, by decide +kernel, rfl, by decide +kernel, by decide +kernel⟩
theorem ok_moved {f c TP C CI CT CU g : Addr} {fd fdO : FuncData} {T : List (Addr × Str)} (F : FunL K "_law_moved" "_law_moved" sMoved f c fd) (B : Blt mg) (PC : PartyC K mg C) (EE : Errs K mg CI CT CU)
    (TB : LamX.TabB base mg c TP) (hm : (TP, qMov) ∈ T) (hu : ∀ p ∈ T, p.1 = TP → p.2 = qMov)
    {fR fF pS fS : Addr} {fdR fdF fdS : FuncData} (hc : PySem.W.selfFirst K C = true) (O : OpC K C "__rshift__" "__rrshift__" "int" fR) (GR : FnOk P w K mg base (L2.CX P w) 7 fR fdR ["self", "ticks"] (spPShift C CI)) (bR : Binds K fdR ["self", "ticks"] [])
    (GF : FnOk P w K mg base CX0 1 fF fdF ["_law_stays"] (spFirst K)) (mF : mg "_law_first_bad" = some (.ref fF)) (kF : PySem.W.keepIn K (.ref fF) = true) (bF : Binds K fdF ["_law_stays"] [])
    (GS : FnOk P w K mg base CX0 1 fS fdS ["self"] (getSp C "_stays")) (bS : Binds K fdS ["self"] []) (pr : PropOf K C "stays" pS fS)
    (FO : Fun K "_law_outcome" "_law_outcome" sOut g fdO) (bO : Binds K fdO ["_law_work"] []) (mO : mg "_law_outcome" = some (.ref g)) (kO : PySem.W.keepIn K (.ref g) = true) :
    FnOk P w K mg base (L2.CX P w) 10 f fd ["_law_party_here", "_law_rows_here", "_law_ticks"] (spMoved K T C) := by
  refine F.okX scMoved (fun vs H Q E h => ?_) (fun A outer s H vs Q E hr h => ?_)
  · obtain ⟨p, r, n, ws, xs, rfl, _⟩ := h
    rfl
  · obtain ⟨p, r, n, ws, xs, rfl, PA, hr0, hxs, hsh, hz, hT, k⟩ := h
    have nd := scMoved.nd
    refine ⟨_, pss_cons (ps_setLc (i := 3) (own := [("_law_name", 6), ("_law_come", 7), ("_law_go", 8)]) (g := gTup K 3 (gCons (gName 6) (gCons (gName 7) (gCons (gName 8) gNil)))) (tt := tYes) rfl nd rfl rfl (sw_true rfl rfl rfl (by decide +kernel))
        (pi_list (pv 1)) (blkOk_by (own := [("_law_name", 6), ("_law_come", 7), ("_law_go", 8)]) (N := ["_law_party_here", "_law_rows_here", "_law_ticks", "_law_moved_here", "_law_at", "_law_found", "_law_name", "_law_come", "_law_go"]) (sc := defScope sMoved) (by decide +kernel))
        (fun _ _ _ _ _ => pg_tup rfl (pgs_cons (pg_name (i := 6) nd rfl (Or.inl rfl)) (pgs_cons (pg_name (i := 7) nd rfl (Or.inl rfl)) (pgs_cons (pg_name (i := 8) nd rfl (Or.inl rfl)) pgs_nil))))
        (fun _ _ _ _ _ => pts_nil) (fun _ _ _ _ _ => pe_tup (pa_cons (pv 6) (pa_cons (pe_op op_add (pv 7) (pv 2)) (pa_cons (pe_op op_add (pv 8) (pv 2)) pa_nil)))))
      (pss_cons (ps_set (i := 4) nd rfl (Or.inl rfl) (pe_call GF (hr.mono (by decide)) rfl mF kF bF .nil pass0 (pa_cons (pv 3) pa_nil)))
      (pss_cons (ps_set (i := 5) nd rfl (Or.inl rfl) (pe_callAt (CX := L2.CX P w) (E := fun _ _ _ => False) (know := fun σ s2 H2 => CellsAt (clM (defScope sMoved) s.heap.objs.size) frM [slotAt σ 0, slotAt σ 2] s2.heap H2)
            (sp := fun σ v H1 Q' => ∃ f sp, v = .ref f ∧ Sho.Act P w K mg base (L2.CX P w) 8 (clM (defScope sMoved) s.heap.objs.size) frM sp f H1 ∧ ∀ E' : XK, (∀ cls d H2, Out CI CT CU Q' cls d H2 → E' cls d H2) → sp [slotAt σ 0, slotAt σ 2] H1 Q' E')
            (by rfl) mO kO passL (fun pins σ H' s' I => cells_of (js := [0, 2]) (fr := frM) I (Caps.made (scope := scL mnames) I.ok (free_by (os := (defScope sMoved).names) (by decide +kernel)) (by decide +kernel) rfl))
            (pa_cons (pe_lam TB rfl hm hu (free_by (os := (defScope sMoved).names) (by decide +kernel))) pa_nil) (fun σ2 s2 H2 u v Q2 e0 kn rv h => by
              obtain ⟨f2, sp2, rfl, ac, q⟩ := h
              cases rv
              exact outcome_run FO bO EE hr e0 kn ac q)))
      (pss_one (ps_ret (pe_ifExp (pt_cmpR op_notN (pv 4) pe_non (nomark _)) (pe_cmpR (op_eqD hr.units) (pv 5) (pe_tup (pa_cons pe_str (pa_cons (pv 4) pa_nil))) (nomark _))
        (pe_cmpR (op_eqD hr.units) (pe_prop (pv 5) PC.cl pr GS (hr.mono (by decide)) bS .nil pass0 rfl) (pe_callTy call_tuple_of (by rfl) B.tuple (by decide +kernel) (pa_cons (pv 3) pa_nil)) (nomark _))))))), ?_⟩
    have len := pair_len hxs
    refine ⟨_, rfl, r, rfl, ⟨_, hr0⟩, fun D hD => ?_⟩
    refine lc_rel walk_list (fun i y H => ∃ x, (moved n xs)[i]? = some x ∧ StayV H y x) hD (by rw [len]; exact Nat.le_trans hz (by decide)) (fun H1 s1 => s1.seq hr0) (fun i y H H' st q => ?_) (fun i v H1 H' hi s1 y R k1 => ?_) fun H1 ys s1 e1 e2 e3 => ?_
    · obtain ⟨x, e, t, e2, e3⟩ := q
      exact ⟨x, e, t, e2, st _ _ e3⟩
    · obtain ⟨rfl, e2⟩ := y
      obtain ⟨x, hx, t, rfl, ht⟩ := pair_get hxs e2
      refine ⟨t, _, rfl, SqT.of (s1 _ _ ht), rfl, _, _, rfl, _, _, rfl, _, _, rfl, rfl, rfl, _, rfl, _, rfl, _, rfl, _, _, rfl, rfl, _, rfl, _, rfl, _, _, rfl, rfl, by show 3 ≤ sizeLine; decide, fun q hq => ?_⟩
      refine k1 _ _ (same_upd hq) ⟨(x.1, x.2.1 + n, x.2.2 + n), ?_, q, rfl, upd_same⟩
      unfold moved
      rw [List.getElem?_map, hx]
      rfl
    have lm : (moved n xs).length = xs.length := by
      unfold moved
      rw [List.length_map]
    have sv : StaysV H1 ys (moved n xs) := stays_of (by rw [e2, lm, len]) e3
    refine ⟨_, rfl, D, ys, moved n xs, rfl, SqL.of e1, sv, hsh.moved n, by rw [lm]; exact hz, fun H2 s2 => ?_⟩
    have s12 := s1.trans s2
    refine ⟨LamX.Tabs.ext hT fun b o e => s12 b o e, fun f0 c0 H3 G3 n0 l0 => ⟨_, rfl, f0, spShL C CI, rfl, ?_, fun E' hE => ?_⟩⟩
    · refine act0 (k := 7) (N := ["_law_party_here", "_law_ticks"]) (fr := frM) (sp := spShL C CI) l0 (nscope_by (sc := scL mnames) (by decide +kernel)) (fun _ _ => rfl) fun A outer s H ws Q E hr hw h => ?_
      obtain ⟨p, n, xs, rfl, PA, hs, hz, mk⟩ := h
      refine ⟨_, pe_op (shift_int (fnr_of GR bR) hr (passes_call (takes_of rfl rfl rfl rfl) fun _ _ _ _ z => z) hc O) (pv 0) (pv 1), ?_⟩
      exact ⟨_, rfl, _, rfl, p, rfl, ⟨n, rfl⟩, ins_party PA, p, n, xs, rfl, PA, hs, hz, mk⟩
    · have e03 : LamX.ExtN H H3 := (LamX.ExtN.of fun b o e => s12 b o e).trans G3.ext
      have t3 : LamX.Tabs T H3 := G3.tab (LamX.Tabs.ext hT fun b o e => s12 b o e)
      have hD3 : H3 D = some (.lst ys) := G3.ext _ _ (s2 _ _ e1) fun _ z => nomatch z
      refine ⟨p, n, xs, rfl, party_ext e03 PA, hsh, hz, fun hb q H4 s4 hq PQ => ?_, fun i hb H4 d s4 hd e4 => ?_⟩
      · rw [hb]
        refine ⟨_, rfl, rfl, _, rfl, iteF ?_⟩
        obtain ⟨dx, a, ws', g1, g2, g3⟩ := id PQ
        refine ⟨_, rfl, q, dx, _, rfl, g1, q, dx, _, .ref a, rfl, g1, lk_stays _, _, rfl, D, ys, rfl, .inl ⟨SqL.of (s4 _ _ hD3), fun l hl => ?_⟩⟩
        have s5 : Same H4 (upd H4 l (.tup ys)) := same_upd hl
        have sv5 : StaysV (upd H4 l (.tup ys)) ys (moved n xs) := ((stays_ext G3.ext (sv.same s2)).same s4).same s5
        refine ⟨.tuple ((moved n xs).map stayD), .tuple ((moved n xs).map stayD), .tup (SqT.of (s5 _ _ g2)) (dp_stays (g3.same s5)), .tup (SqT.of upd_same) (dp_stays sv5), shaped_tup (hsh.moved n), shaped_tup (hsh.moved n), ?_⟩
        have ee : PyData.eqv (.tuple ((moved n xs).map stayD)) (.tuple ((moved n xs).map stayD)) = true := (eqv_stays _ _).trans (decide_eq_true rfl)
        rw [ee]
        exact k _ ⟨e03.trans (LamX.ExtN.of fun b o e => s5 b o (s4 b o e)), fun _ => LamX.Tabs.ext t3 fun b o e => s5 b o (s4 b o e)⟩
      · refine hE _ _ _ (.inl ⟨rfl, d, (i : Int), rfl, e4, fun t H5 s5 e5 => ?_⟩)
        rw [hb]
        refine ⟨_, rfl, rfl, _, rfl, iteT ?_⟩
        refine ⟨_, rfl, _, rfl, by show 2 ≤ sizeLine; decide, fun t2 h2 => ?_⟩
        have s6 : Same H5 (upd H5 t2 (.tup [.str "InvalidStay", optV (some i)])) := same_upd h2
        refine ⟨.tuple [.str "InvalidStay", .int (i : Int)], .tuple [.str "InvalidStay", .int (i : Int)], .tup (SqT.of (s6 _ _ e5)) (.cons (.str _) (.cons (.int _) .nil)), .tup (SqT.of upd_same) (.cons (.str _) (.cons (.int _) .nil)), shaped_err (by decide +kernel), shaped_err (by decide +kernel), ?_⟩
        rw [eqv_err]
        exact k _ ⟨e03.trans (LamX.ExtN.of fun b o e => s6 b o (s5 b o (s4 b o e))), fun _ => LamX.Tabs.ext t3 fun b o e => s6 b o (s5 b o (s4 b o e))⟩
end
end Sh1
set_option Elab.async false
set_option linter.all false
set_option maxRecDepth 100000
set_option maxHeartbeats 2000000
namespace Sh1
open PySem L2 Sho NdefX
abbrev qLaw : Str := "law.<locals>.<lambda>"
abbrev NL : List Str := ["_law_script", "_law_state", "_law_turn", "_law_rows_here", "_law_name", "_law_come", "_law_go", "_law_at", "_law_found", "_law_other", "_law_bad", "_law_party_here", "_law_row"]
/-- all but tables and the object at l stay -/
def Fwd (l : Addr) (H H' : Hp) : Prop := ∀ b o, H b = some o → b ≠ l → (∀ ps, o ≠ .tbl ps) → H' b = some o
theorem Fwd.same {l : Addr} {H H' : Hp} (s : Same H H') : Fwd l H H' := fun b o e _ _ => s b o e
theorem Fwd.but {l : Addr} {H H' : Hp} (s : But l H H') : Fwd l H H' := fun b o e n _ => s b o e n
theorem Fwd.ext {l : Addr} {H H' : Hp} (s : LamX.ExtN H H') : Fwd l H H' := fun b o e _ n => s b o e n
theorem stays_fwd {l : Addr} {H H' : Hp} {zs : List V} (hl : H l = some (.lst zs)) (e : Fwd l H H') : ∀ {ws : List V} {xs : List Stay}, StaysV H ws xs → StaysV H' ws xs
  | _, _, .nil => .nil
  | _, _, .cons ⟨t, e1, ht⟩ r => .cons ⟨t, e1, e _ _ ht (ne_lst hl ht fun _ z => nomatch z) (fun _ z => nomatch z)⟩ (stays_fwd hl e r)
theorem party_fwd {l : Addr} {H H' : Hp} {zs : List V} (hl : H l = some (.lst zs)) (e : Fwd l H H') {C p : Addr} {xs : List Stay} (h : PartyAt C H p xs) : PartyAt C H' p xs := by
  obtain ⟨dx, a, ws, h1, h2, h3⟩ := h
  exact ⟨dx, a, ws, e _ _ h1 (ne_lst hl h1 fun _ z => nomatch z) (fun _ z => nomatch z), e _ _ h2 (ne_lst hl h2 fun _ z => nomatch z) (fun _ z => nomatch z), stays_fwd hl e h3⟩
theorem tabs_but {l : Addr} {H H' : Hp} {zs : List V} {T : List (Addr × Str)} (hl : H l = some (.lst zs)) (e : But l H H') (t : LamX.Tabs T H) : LamX.Tabs T H' := fun p hp => by
  obtain ⟨qs, q1, q2, q3⟩ := t p hp
  refine ⟨qs, e _ _ q1 (ne_lst hl q1 fun ys z => nomatch z), q2, fun p' cv h => ?_⟩
  obtain ⟨c, e1, e2⟩ := q3 p' cv h
  exact ⟨c, e1, e _ _ e2 (ne_lst hl e2 fun ys z => nomatch z)⟩
theorem sql_ext {K : PySem.W.Frag} {H H' : Hp} {a : Addr} {xs : List V} (e : LamX.ExtN H H') (h : SqL K H a xs) : SqL K H' a xs := by
  rcases h with (h | ⟨o, h⟩) | h
  · exact .inl (.inl (e _ _ h fun _ z => nomatch z))
  · exact .inl (.inr ⟨o, e _ _ h fun _ z => nomatch z⟩)
  · exact .inr h
theorem DrawSt.ext {K : PySem.W.Frag} {H H' : Hp} {l a : Addr} {ns : List Int} (d : DrawSt K H l a ns) (e : LamX.ExtN H H') : DrawSt K H' l a ns := by
  obtain ⟨⟨p, s, r, h, k⟩, sc, len⟩ := d
  exact ⟨⟨p, s, r, e _ _ h (fun _ z => nomatch z), k⟩, sql_ext e sc, len⟩
/-- what stands within a turn -/
structure Turn (K : PySem.W.Frag) (T : List (Addr × Str)) (C l a : Addr) (ns : List Int) (R p : Addr) (ws : List V) (xs : List Stay) (H : Hp) : Prop where
  d : DrawSt K H l a ns
  t : LamX.Tabs T H
  r : H R = some (.lst ws)
  n : R ≠ l
  s : StaysV H ws xs
  p : PartyAt C H p xs
section
variable {K : PySem.W.Frag} {T : List (Addr × Str)} {C l a R p : Addr} {ns : List Int} {ws : List V} {xs : List Stay} {H H' : Hp}
theorem Turn.at (u : Turn K T C l a ns R p ws xs H) : ∃ zs, H l = some (.lst zs) := by
  obtain ⟨⟨_, _, _, h, _⟩, _, _⟩ := u.d
  exact ⟨_, h⟩
theorem Turn.fwd (u : Turn K T C l a ns R p ws xs H) (e : Fwd l H H') (d : DrawSt K H' l a ns) (t : LamX.Tabs T H') : Turn K T C l a ns R p ws xs H' := by
  obtain ⟨zs, hl⟩ := u.at
  exact ⟨d, t, e _ _ u.r u.n (fun _ z => nomatch z), u.n, stays_fwd hl e u.s, party_fwd hl e u.p⟩
theorem Turn.same (u : Turn K T C l a ns R p ws xs H) (e : Same H H') : Turn K T C l a ns R p ws xs H' := u.fwd (.same e) (u.d.same e) (LamX.Tabs.ext u.t e)
theorem Turn.but (u : Turn K T C l a ns R p ws xs H) (e : But l H H') (d : DrawSt K H' l a ns) : Turn K T C l a ns R p ws xs H' := by
  obtain ⟨zs, hl⟩ := u.at
  exact u.fwd (.but e) d (tabs_but hl e u.t)
theorem Turn.grows (u : Turn K T C l a ns R p ws xs H) (e : Grows T H H') : Turn K T C l a ns R p ws xs H' := u.fwd (.ext e.ext) (u.d.ext e.ext) (e.tab u.t)
end
theorem rows_valid {high : Int} {xs : List Stay} (h : Rows high xs) (len : xs.length ≤ 9) (h0 : high ≤ 100000000) : Valid xs ∧ Short xs := by
  have one : ∀ x ∈ xs, OkText x.1 ∧ okName x.1 = true := fun x hx => by
    obtain ⟨c, e, c0, c1⟩ := h.one x hx
    rw [e]
    refine ⟨⟨by show 1 ≤ 100000; decide, ?_⟩, ?_⟩
    · show (#[c].all fun x => decide (x < 0x110000)) = true
      simp
      omega
    · have l1 : ({ cps := #[c] } : Str).length = 1 := rfl
      unfold okName letter
      rw [l1]
      simp
      omega
  refine ⟨⟨by omega, h.nd, fun x hx => ?_⟩, fun x hx => (one x hx).1⟩
  obtain ⟨t0, t1, t2, t3⟩ := h.tm x hx
  rw [okStay_time, (one x hx).2]
  unfold timeOk
  simp only [Bool.true_and, Bool.and_eq_true, decide_eq_true_eq]
  omega
theorem guest_self : ∀ {xs : List Stay} {x : Stay} {i : Nat}, (xs.map fun y => y.1).Nodup → xs[i]? = some x → guest xs x.1 = some x
  | [], _, _, _, h => by simp at h
  | y :: ys, x, 0, _, h => by
    simp at h
    subst h
    unfold guest
    simp
  | y :: ys, x, i + 1, nd, h => by
    rw [List.map_cons, List.nodup_cons] at nd
    have h' : ys[i]? = some x := by simpa using h
    have ih := guest_self nd.2 h'
    unfold guest at ih ⊢
    have ne : (y.1 == x.1) = false := by
      rw [Bool.eq_false_iff]
      intro q
      exact nd.1 (List.mem_map.mpr ⟨x, List.mem_of_getElem? h', (eq_of_beq q).symm⟩)
    rw [List.find?_cons, ne]
    exact ih
theorem nodup_inj {α β : Type} {f : α → β} : ∀ {xs : List α}, (xs.map f).Nodup → ∀ {y x : α}, y ∈ xs → x ∈ xs → f y = f x → y = x
  | [], _, _, _, h, _, _ => nomatch h
  | z :: zs, nd, y, x, hy, hx, e => by
    rw [List.map_cons, List.nodup_cons] at nd
    rcases List.mem_cons.mp hy with a | a <;> rcases List.mem_cons.mp hx with b | b
    · rw [a, b]
    · rw [a] at e
      exact absurd (List.mem_map.mpr ⟨x, b, e.symm⟩) nd.1
    · rw [b] at e
      exact absurd (List.mem_map.mpr ⟨y, a, e⟩) nd.1
    · exact nodup_inj nd.2 a b e
theorem without_name {xs : List Stay} {x : Stay} (nd : (xs.map fun y => y.1).Nodup) (hx : x ∈ xs) : without xs x = xs.filter fun y => !decide (V.str y.1 = V.str x.1) := by
  unfold without
  refine List.filter_congr fun y hy => ?_
  congr 1
  refine decide_eq_decide.mpr ⟨fun e => by rw [e], fun e => ?_⟩
  injection e with e
  exact nodup_inj nd hy hx e
theorem asg_rel {te : TE} {g : TG} {u : TS} {D : Ends} {σ : L2.St} {H : Hp} (P : V → Hp → Prop) (h1 : ∀ R : VK, (∀ v H', P v H' → R v H') → te σ H R) (h2 : ∀ v H', P v H' → g v σ H' (u D)) : tSeq (tAsg te g) u D σ H := h1 _ h2
/-- what the law finds of the party with one stay more -/
def Found (C : Addr) (xs : List Stay) (v : V) (H : Hp) : Prop :=
  (firstBad xs = none ∧ ∃ q, v = .ref q ∧ PartyAt C H q xs) ∨ ∃ i t, firstBad xs = some i ∧ v = .ref t ∧ H t = some (.tup [.str "InvalidStay", .int (i : Nat)])
def spAddL (C CI : Addr) : SpL := fun ws H Q E => ∃ (p : Addr) (v : V) (xs : List Stay) (x : Stay), ws = [some (.ref p), some v] ∧ PartyAt C H p xs ∧ StayV H v x ∧ Short (xs ++ [x]) ∧ xs.length ≤ 100 ∧ firstBad [x] = none ∧ Making C CI H (xs ++ [x]) Q E
theorem if_rel {c : TT} {A u : TS} {D : Ends} {σ : L2.St} {H : Hp} (P : Hp → Prop) (h1 : ∀ R : Bool → Hp → Prop, (∀ H', P H' → R false H') → c σ H R) (h2 : ∀ H', P H' → u D σ H') : tSeq (tIfS c A tNext) u D σ H :=
  h1 _ fun H' p => iteF (h2 H' p)
theorem if_rel1 {c : TT} {A : TS} {D : Ends} {σ : L2.St} {H : Hp} (P : Hp → Prop) (h1 : ∀ R : Bool → Hp → Prop, (∀ H', P H' → R false H') → c σ H R) (h2 : ∀ H', P H' → D.nx σ H') : tIfS c A tNext D σ H :=
  h1 _ fun H' p => iteF (h2 H' p)
theorem first_one {x : Stay} {i : Nat} (h : firstBad [x] = some i) : i = 0 := by
  unfold firstBad firstBadFrom at h
  by_cases b : badStay 0 [] x = true
  · rw [if_pos b] at h
    exact (Option.some.inj h).symm
  · rw [if_neg b] at h
    cases h
def spNewL (C CI : Addr) : SpL := fun ws H Q E => ∃ (v : V) (x : Stay), ws = [some v] ∧ StayV H v x ∧ Short [x] ∧ Making C CI H [x] Q E
def rot {α : Type} (xs : List α) : List α := xs.drop 1 ++ xs.take 1
theorem cut_drop (ws : List V) : cutV ws (some 1) none = ws.drop 1 := by
  unfold cutV
  rw [show (some (1 : Int)) = some ((1 : Nat) : Int) from rfl, HT.sIx_nat, HT.sIx_none]
  cases ws with
  | nil => rfl
  | cons w ws =>
    have e : min 1 (ws.length + 1) = 1 := by omega
    rw [List.length_cons, e]
    simp
theorem cut_take (ws : List V) : cutV ws none (some 1) = ws.take 1 := by
  unfold cutV
  rw [show (some (1 : Int)) = some ((1 : Nat) : Int) from rfl, HT.sIx_nat, HT.sIx_none, List.drop_zero, Nat.sub_zero]
  cases ws with
  | nil => rfl
  | cons w ws =>
    have e : min 1 (ws.length + 1) = 1 := by omega
    rw [List.length_cons, e]
theorem stays_rot {H : Hp} : ∀ {ws : List V} {xs : List Stay}, StaysV H ws xs → StaysV H (rot ws) (rot xs)
  | _, _, .nil => .nil
  | _, _, .cons h r => paired_append r (.cons h .nil)
theorem mem_rot {α : Type} {xs : List α} {x : α} (h : x ∈ rot xs) : x ∈ xs := by
  rcases List.mem_append.mp h with q | q
  · exact List.mem_of_mem_drop q
  · exact List.mem_of_mem_take q
theorem len_rot {α : Type} (xs : List α) : (rot xs).length = xs.length := by
  unfold rot
  rw [List.length_append, List.length_drop, List.length_take]
  omega
theorem Short.rot {xs : List Stay} (h : Short xs) : Short (rot xs) := fun x hx => h x (mem_rot hx)
theorem Valid.rot {xs : List Stay} (h : Valid xs) : Valid (rot xs) := by
  refine ⟨by rw [len_rot]; exact h.len, ?_, fun x hx => h.ok x (mem_rot hx)⟩
  have nd := h.nd
  cases xs with
  | nil => exact nd
  | cons x xs =>
    rw [List.map_cons, List.nodup_cons] at nd
    show ((xs ++ [x]).map fun x => x.1).Nodup
    rw [List.map_append, List.nodup_append]
    refine ⟨nd.2, by simp, fun z hz y hy e => ?_⟩
    simp at hy
    rw [e, hy] at hz
    exact nd.1 hz
theorem rows_nobody {high : Int} {xs : List Stay} (h : Rows high xs) : named xs "nobody" = false := by
  unfold named
  rw [Bool.eq_false_iff]
  intro q
  obtain ⟨x, hx, e⟩ := List.any_eq_true.mp q
  obtain ⟨c, e1, _⟩ := h.one x hx
  have e2 : x.1 = ("nobody" : Str) := eq_of_beq e
  have e3 : ("nobody" : Str).length = 1 := by
    rw [← e2, e1]
    rfl
  exact absurd e3 (by decide +kernel)
theorem if_no {c : TT} {A u : TS} {D : Ends} {σ : L2.St} {H : Hp} (h : ∀ R : Bool → Hp → Prop, (∀ H', Same H H' → R false H') → c σ H R) (k : ∀ H', Same H H' → u D σ H') : tSeq (tIfS c A tNext) u D σ H :=
  h _ fun H' s' => iteF (k H' s')
theorem if_no1 {c : TT} {A : TS} {D : Ends} {σ : L2.St} {H : Hp} (h : ∀ R : Bool → Hp → Prop, (∀ H', Same H H' → R false H') → c σ H R) (k : ∀ H', Same H H' → D.nx σ H') : tIfS c A tNext D σ H :=
  h _ fun H' s' => iteF (k H' s')
theorem or_no {A B : TT} {σ : L2.St} {H : Hp} {Q : Bool → Hp → Prop} (hA : ∀ R : Bool → Hp → Prop, (∀ H', Same H H' → R false H') → A σ H R)
    (hB : ∀ H1, Same H H1 → ∀ R : Bool → Hp → Prop, (∀ H', Same H1 H' → R false H') → B σ H1 R) (hQ : ∀ H', Same H H' → Q false H') : tOr A B σ H Q :=
  ans_or false false hA (fun H1 s1 _ => hB H1 s1) hQ
theorem stands_stay {H : Hp} {v : V} {x : Stay} (h : StayV H v x) : Stands H 1 v (stayD x) := by
  obtain ⟨t, rfl, ht⟩ := h
  exact .inr ⟨t, _, _, rfl, rfl, ht, by show 3 ≤ 1000; decide, .cons (.inr ⟨_, rfl, rfl⟩) (.cons (.inl ⟨_, rfl, rfl⟩) (.cons (.inl ⟨_, rfl, rfl⟩) .nil))⟩
theorem stands_list {H : Hp} : ∀ {ws : List V} {xs : List Stay}, StaysV H ws xs → PySem.Paired (fun y e => Stands H 1 y e) ws (xs.map stayD)
  | _, _, .nil => .nil
  | _, _, .cons h r => .cons (stands_stay h) (stands_list r)
theorem stands_tup {H : Hp} {t : Addr} {ws : List V} {xs : List Stay} (ht : H t = some (.tup ws)) (h : StaysV H ws xs) (len : xs.length ≤ 1000) : Stands H 2 (.ref t) (.tuple (xs.map stayD)) :=
  .inr ⟨t, ws, _, rfl, rfl, ht, by rw [pair_len h]; exact len, stands_list h⟩
theorem stands_strs {H : Hp} {t : Addr} {zs : List Str} (ht : H t = some (.tup (zs.map V.str))) (len : zs.length ≤ 1000) : Stands H 1 (.ref t) (.tuple (zs.map PyData.str)) := by
  refine .inr ⟨t, _, _, rfl, rfl, ht, by rw [List.length_map]; exact len, ?_⟩
  clear ht len
  induction zs with
  | nil => exact .nil
  | cons z zs ih => exact .cons (.inr ⟨z, rfl, rfl⟩) ih
abbrev n1names : List (Str × NameKind) := [("_law_bad", .free), ("_law_party_here", .free)]
abbrev fr1 : List Str := ["_law_party_here", "_law_bad"]
abbrev n2names : List (Str × NameKind) := [("_law_bad", .free)]
abbrev fr2 : List Str := ["_law_bad"]
section
variable {P : Program} {w : World} {K : PySem.W.Frag} {mg : Str → Option Value} {base : Heap}
def spLaw (K : PySem.W.Frag) (T : List (Addr × Str)) : Sp := fun vs H Q _ => ∃ (a : Addr) (ns : List Int), vs = [.ref a] ∧ SqL K H a (ns.map V.int) ∧ ns.length ≤ 63 ∧ LamX.Tabs T H ∧ ∀ H', Q (.bl true) H'
theorem scLaw : FnScope NL ["_law_script"] (defScope sLaw) := ⟨rfl, rfl, rfl, by decide +kernel, rfl, by decide +kernel, by decide +kernel⟩
/-- the defs that the law calls -/
structure Defs (P : Program) (w : World) (K : PySem.W.Frag) (mg : Str → Option Value) (base : Heap) (T : List (Addr × Str)) (C CI CT CU : Addr) : Prop where
  B : Blt mg
  PC : PartyC K mg C
  EE : Errs K mg CI CT CU
  start : ∃ f fd, FnOk P w K mg base CX0 1 f fd ["_law_script"] (spStart K) ∧ mg "_law_start" = some (.ref f) ∧ PySem.W.keepIn K (.ref f) = true ∧ Binds K fd ["_law_script"] []
  drawn : ∃ f fd, FnOk P w K mg base CX0 1 f fd ["_law_state", "_law_count"] (spDrawn K) ∧ mg "_law_drawn" = some (.ref f) ∧ PySem.W.keepIn K (.ref f) = true ∧ Binds K fd ["_law_state", "_law_count"] []
  rows : ∃ f fd, FnOk P w K mg base CX0 2 f fd ["_law_state", "_law_most", "_law_high"] (spRows K) ∧ mg "_law_rows" = some (.ref f) ∧ PySem.W.keepIn K (.ref f) = true ∧ Binds K fd ["_law_state", "_law_most", "_law_high"] []
  party : ∃ f fd, FnOk P w K mg base (L2.CX P w) 8 f fd ["_law_rows_here"] (spParty K C) ∧ mg "_law_party" = some (.ref f) ∧ PySem.W.keepIn K (.ref f) = true ∧ Binds K fd ["_law_rows_here"] []
  same : ∃ f fd, (∀ n, FnOk P w K mg base CX0 (n + 1) f fd ["_law_result", "_law_expected"] (spSame n)) ∧ mg "_law_same" = some (.ref f) ∧ PySem.W.keepIn K (.ref f) = true ∧ Binds K fd ["_law_result", "_law_expected"] []
  bad : ∃ f fd, FnOk P w K mg base CX0 2 f fd ["_law_state", "_law_rows_here"] (spBad K) ∧ mg "_law_bad_stay" = some (.ref f) ∧ PySem.W.keepIn K (.ref f) = true ∧ Binds K fd ["_law_state", "_law_rows_here"] []
  first : ∃ f fd, FnOk P w K mg base CX0 1 f fd ["_law_stays"] (spFirst K) ∧ mg "_law_first_bad" = some (.ref f) ∧ PySem.W.keepIn K (.ref f) = true ∧ Binds K fd ["_law_stays"] []
  outcome : ∃ f fd, Fun K "_law_outcome" "_law_outcome" sOut f fd ∧ mg "_law_outcome" = some (.ref f) ∧ PySem.W.keepIn K (.ref f) = true ∧ Binds K fd ["_law_work"] []
  moved : ∃ f fd, FnOk P w K mg base (L2.CX P w) 10 f fd ["_law_party_here", "_law_rows_here", "_law_ticks"] (spMoved K T C) ∧ mg "_law_moved" = some (.ref f) ∧ PySem.W.keepIn K (.ref f) = true ∧ Binds K fd ["_law_party_here", "_law_rows_here", "_law_ticks"] []
  refused : ∃ f fd, FnOk P w K mg base (L2.CX P w) 11 f fd ["_law_party_here"] (spRefused T C) ∧ mg "_law_refused" = some (.ref f) ∧ PySem.W.keepIn K (.ref f) = true ∧ Binds K fd ["_law_party_here"] []
  new : ∃ f, Mk K C f ∧ FnR P w K mg base (L2.CX P w) 5 f (spPNew C CI)
  selfF : PySem.W.selfFirst K C = true
  max : ∃ mc u, ClX.CRead K C mc ∧ ClX.CVal K C mc "MAX_GUESTS" (.int 24) u
  stays : ∃ p f fd, FnOk P w K mg base CX0 1 f fd ["self"] (getSp C "_stays") ∧ PropOf K C "stays" p f ∧ Binds K fd ["self"] []
  names : ∃ p f fd, FnOk P w K mg base CX0 1 f fd ["self"] (spPNames C) ∧ PropOf K C "names" p f ∧ Binds K fd ["self"] []
  len : ∃ f fd, FnOk P w K mg base CX0 1 f fd ["self"] (spPLen C) ∧ PySem.W.findIn K (.ref C) "__len__" = some (some (.ref f)) ∧ PySem.W.isFn K (.ref f) = true ∧ Binds K fd ["self"] []
  bool : ∃ f fd, FnOk P w K mg base CX0 1 f fd ["self"] (spPBool C) ∧ PySem.W.findIn K (.ref C) "__bool__" = some (some (.ref f)) ∧ PySem.W.isFn K (.ref f) = true ∧ Binds K fd ["self"] []
  has : ∃ f fd, FnOk P w K mg base CX0 3 f fd ["self", "name"] (spPIn C) ∧ PySem.W.findIn K (.ref C) "__contains__" = some (some (.ref f)) ∧ PySem.W.isFn K (.ref f) = true ∧ Binds K fd ["self", "name"] []
  get : ∃ f fd, FnOk P w K mg base (L2.CX P w) 4 f fd ["self", "name"] (spPIx C CU) ∧ PySem.W.findIn K (.ref C) "__getitem__" = some (some (.ref f)) ∧ PySem.W.fnIn K f = true ∧ PySem.W.isFn K (.ref f) = true ∧ Binds K fd ["self", "name"] []
  eq : ∃ f fd, FnOk P w K mg base CX0 1 f fd ["self", "other"] (spPEq C) ∧ PySem.W.findIn K (.ref C) "__eq__" = some (some (.ref f)) ∧ PySem.W.isFn K (.ref f) = true ∧ Binds K fd ["self", "other"] []
  add : ∃ f fd, FnOk P w K mg base (L2.CX P w) 7 f fd ["self", "other"] (spPAdd C CI) ∧ PySem.W.findIn K (.ref C) "__add__" = some (some (.ref f)) ∧ PySem.W.isFn K (.ref f) = true ∧ Binds K fd ["self", "other"] []
  sub : ∃ f fd, FnOk P w K mg base (L2.CX P w) 7 f fd ["self", "name"] (spPSub C CU) ∧ OpC K C "__sub__" "__rsub__" "str" f ∧ Binds K fd ["self", "name"] []
theorem ok_law {f c TP C CI CT CU : Addr} {fd : FuncData} {T : List (Addr × Str)} (F : FunL K "law" "law" sLaw f c fd) (D : Defs P w K mg base T C CI CT CU) (TB : LamX.TabB base mg c TP) (hm : (TP, qLaw) ∈ T) (hu : ∀ p ∈ T, p.1 = TP → p.2 = qLaw) :
    FnOk P w K mg base (L2.CX P w) 13 f fd ["_law_script"] (spLaw K T) := by
  obtain ⟨B, PC, EE, ⟨f1, fd1, G1, m1, k1, b1⟩, ⟨f2, fd2, G2, m2, k2, b2⟩, ⟨f3, fd3, G3, m3, k3, b3⟩, ⟨f4, fd4, G4, m4, k4, b4⟩, ⟨f5, fd5, G5, m5, k5, b5⟩, ⟨f6, fd6, G6, m6, k6, b6⟩, ⟨f7, fd7, G7, m7, k7, b7⟩, ⟨f8, fd8, F8, m8, k8, b8⟩,
    ⟨f9, fd9, G9, m9, k9, b9⟩, ⟨fA, fdA, GA, mA, kA, bA⟩, ⟨fN, MN, GN⟩, selfF, ⟨mc, uM, rdM, cvM⟩, ⟨pS, fS, fdS, GS, prS, bS⟩, ⟨pM, fM, fdM, GM, prM, bM⟩, ⟨fL, fdL, GL, iL, jL, bL⟩, ⟨fB, fdB, GB, iB, jB, bB⟩, ⟨fH, fdH, GH, iH, jH, bH⟩, ⟨fG, fdG, GG, iG, jG, kG, bG⟩,
    ⟨fE, fdE, GE, iE, jE, bE⟩, ⟨fP, fdP, GP, iP, jP, bP⟩, ⟨fU, fdU, GU, OU, bU⟩⟩ := D
  refine F.okX scLaw (fun vs H Q E h => ?_) (fun A outer s H vs Q E hr h => ?_)
  · obtain ⟨a, ns, rfl, _⟩ := h
    rfl
  · obtain ⟨a, ns, rfl, ha, hl, hT, k⟩ := h
    have nd := scLaw.nd
    have pass : Passes (L2.CX P w) (cxOf (L2.CX P w) P w K mg base NL "law" (defScope sLaw) f (.ref c) A outer s H E) E := passes_call (takes_of rfl rfl rfl rfl) fun _ _ _ _ z => z
    refine ⟨_, pss_cons (ps_set (i := 1) nd rfl (Or.inl rfl) (pe_call G1 (hr.mono (by decide)) rfl m1 k1 b1 .nil pass0 (pa_cons (pv 0) pa_nil)))
      (pss_cons (ps_if (pt_cmpR op_ne (ClX.pe_cval (pe_glob (v := .ref C) rfl PC.gm rfl)) pe_int (nomark _)) (pss_one (ps_ret pe_bl)) pss_nil)
      (pss_cons (ps_for (passes_of rfl) rfl (pi_range1 (by rfl) B.range (pa_cons pe_int pa_nil)) (pg_name (i := 2) nd rfl (Or.inl rfl))
        (pss_cons (ps_set (i := 3) nd rfl (Or.inl rfl) (pe_call G3 (hr.mono (by decide)) rfl m3 k3 b3 .nil pass0 (pa_cons (pv 1) (pa_cons pe_int (pa_cons (pe_ix ix_list (pe_lst (pa_cons pe_int (pa_cons (pe_op op_pow pe_int pe_int) pa_nil))) (pe_call G2 (hr.mono (by decide)) rfl m2 k2 b2 .nil pass0 (pa_cons (pv 1) (pa_cons pe_int pa_nil))) (fun _ _ => rfl)) pa_nil)))))
        (pss_cons (ps_set (i := 11) nd rfl (Or.inr rfl) (pe_call G4 (hr.mono (by decide)) rfl m4 k4 b4 .nil pass (pa_cons (pv 3) pa_nil)))
        (pss_cons (ps_if (PW.pt (pw_or (pt_not (pt_val (pe_call (G5 2) (hr.mono (by decide)) rfl m5 k5 b5 .nil pass0 (pa_cons (pe_prop (pv 11) PC.cl prS GS (hr.mono (by decide)) bS .nil pass0 rfl) (pa_cons (pe_callTy call_tuple_of (by rfl) B.tuple (by decide +kernel) (pa_cons (pv 3) pa_nil)) pa_nil)))))
            (pw_or1 (pt_not (pt_val (pe_call (G5 1) (hr.mono (by decide)) rfl m5 k5 b5 .nil pass0 (pa_cons (pe_prop (pv 11) PC.cl prM GM (hr.mono (by decide)) bM .nil pass0 rfl) (pa_cons (pe_callTy call_tuple_of (by rfl) B.tuple (by decide +kernel)
              (pa_cons (pe_lc (own := [("_law_row", 12)]) (g := gName 12) (tt := tYes) (te := tOp (rIxT K) (tVar 12) (tC (.int 0))) rfl nd (pi_list (pv 3)) (blkOk_by (own := [("_law_row", 12)]) (N := NL) (sc := defScope sLaw) (by decide +kernel))
                (fun _ _ _ _ _ => pg_name (i := 12) nd rfl (Or.inl rfl)) (fun _ _ _ _ _ => pts_nil) (fun _ _ _ _ _ => pe_ix ix_tup (pv 12) pe_int (fun _ _ => rfl))) pa_nil)) pa_nil))))))))
            (pss_one (ps_ret pe_bl)) pss_nil)
        (pss_cons (ps_if (PW.pt (pw_or (pt_cmpR op_ne (pe_callB (call_lenO (fnr_of GL bL) (hr.mono (by decide)) pass0 iL jL) (by rfl) B.len PySem.boot_len (pa_cons (pv 11) pa_nil)) (pe_callB call_len_seq (by rfl) B.len PySem.boot_len (pa_cons (pv 3) pa_nil)) (nomark _))
            (pw_or (pt_cmpR op_ne (pe_callTy (call_boolO (fnr_of GB bB) (hr.mono (by decide)) pass0 iB jB) (by rfl) B.bool (by decide +kernel) (pa_cons (pv 11) pa_nil)) (pe_cmpR (op_neD hr.units) (pv 3) (pe_lst pa_nil) (nomark _)) (nomark _))
            (pw_or1 (pt_cmpR (op_ownIn (fnr_of GH bH) (hr.mono (by decide)) pass0 iH jH) pe_str (pv 11) rfl))))) (pss_one (ps_ret pe_bl)) pss_nil)
        (pss_cons (ps_for (passes_of rfl) rfl (pi_list (pv 3)) (pg_tup rfl (pgs_cons (pg_name (i := 4) nd rfl (Or.inr rfl)) (pgs_cons (pg_name (i := 5) nd rfl (Or.inl rfl)) (pgs_cons (pg_name (i := 6) nd rfl (Or.inl rfl)) pgs_nil))))
          (pss_cons (ps_if (PW.pt (pw_or (pt_not (pt_val (pe_call (G5 1) (hr.mono (by decide)) rfl m5 k5 b5 .nil pass0 (pa_cons (pe_ixO (fnr_of GG bG) (hr.mono (by decide)) pass iG jG kG (pv 11) (pv 4) (fun _ _ => rfl)) (pa_cons (pe_tup (pa_cons (pv 5) (pa_cons (pv 6) pa_nil))) pa_nil)))))
              (pw_or1 (pt_cmpR (op_ownNotIn (fnr_of GH bH) (hr.mono (by decide)) pass0 iH jH) (pv 4) (pv 11) rfl)))) (pss_one (ps_ret pe_bl)) pss_nil)
          (pss_one (ps_if (pt_not (pt_val (pe_call (G5 2) (hr.mono (by decide)) rfl m5 k5 b5 .nil pass0 (pa_cons (pe_prop (pe_op (sub_str (fnr_of GU bU) (hr.mono (by decide)) pass selfF OU) (pv 11) (pv 4)) PC.cl prS GS (hr.mono (by decide)) bS .nil pass0 rfl) (pa_cons (pe_callTy call_tuple_of (by rfl) B.tuple (by decide +kernel) (pa_cons (pe_lc (own := [("_law_row", 12)]) (g := gName 12) (tt := tTest (tOp rNe (tOp (rIxT K) (tVar 12) (tC (.int 0))) (tVar 4))) rfl nd (pi_list (pv 3)) (blkOk_by (own := [("_law_row", 12)]) (N := NL) (sc := defScope sLaw) (by decide +kernel))
                (fun _ _ _ _ _ => pg_name (i := 12) nd rfl (Or.inl rfl)) (fun _ _ _ _ _ => pts_one (pt_cmpR op_ne (pe_ix ix_tup (pv 12) pe_int (fun _ _ => rfl)) (pv 4) (nomark _))) (fun _ _ _ _ _ => pv 12)) pa_nil)) pa_nil))))) (pss_one (ps_ret pe_bl)) pss_nil))))
        (pss_cons (ps_set (i := 10) nd rfl (Or.inr rfl) (pe_call G6 (hr.mono (by decide)) rfl m6 k6 b6 .nil pass0 (pa_cons (pv 1) (pa_cons (pv 3) pa_nil))))
        (pss_cons (ps_set (i := 7) nd rfl (Or.inl rfl) (pe_call G7 (hr.mono (by decide)) rfl m7 k7 b7 .nil pass0 (pa_cons (pe_op op_cat (pv 3) (pe_lst (pa_cons (pv 10) pa_nil))) pa_nil)))
        (pss_cons (ps_set (i := 8) nd rfl (Or.inl rfl) (pe_ifExp (pt_cmpR op_isN (pe_call G7 (hr.mono (by decide)) rfl m7 k7 b7 .nil pass0 (pa_cons (pe_lst (pa_cons (pv 10) pa_nil)) pa_nil)) pe_non (nomark _)) (pe_callAt (CX := L2.CX P w) (E := fun _ _ _ => False) (know := fun σ s2 H2 => CellsAt (cloFrom (cellsFrom (s.heap.objs.size + 1) (defScope sLaw).names []) n1names []) fr1 [slotAt σ 11, slotAt σ 10] s2.heap H2)
            (sp := fun σ v H1 Q' => ∃ f sp, v = .ref f ∧ Sho.Act P w K mg base (L2.CX P w) 11 (cloFrom (cellsFrom (s.heap.objs.size + 1) (defScope sLaw).names []) n1names []) fr1 sp f H1 ∧ ∀ E' : XK, (∀ cls d H2, Out CI CT CU Q' cls d H2 → E' cls d H2) → sp [slotAt σ 11, slotAt σ 10] H1 Q' E')
            (by rfl) m8 k8 passL (fun pins σ H' s' I => cells_of (js := [11, 10]) (fr := fr1) I (Caps.made (scope := scL n1names) I.ok (free_by (os := (defScope sLaw).names) (by decide +kernel)) (by decide +kernel) rfl))
            (pa_cons (pe_lam TB rfl hm hu (free_by (os := (defScope sLaw).names) (by decide +kernel))) pa_nil) (fun σ2 s2 H2 u v Q2 e0 kn rv h => by
              obtain ⟨f2', sp2, rfl, ac, q⟩ := h
              cases rv
              exact outcome_run F8 b8 EE (hr.mono (by decide)) e0 kn ac q))
            (pe_tup (pa_cons pe_str (pa_cons (pv 7) pa_nil)))))
        (pss_cons (ps_if (PW.pt (pw_or (PW.pt (pw_and (pt_cmpR op_notN (pv 7) pe_non (nomark _)) (pw_and1 (pt_cmpR (op_neD hr.units) (pv 8) (pe_tup (pa_cons pe_str (pa_cons (pv 7) pa_nil))) (nomark _)))))
            (pw_or1 (PW.pt (pw_and (pt_cmpR op_isN (pv 7) pe_non (nomark _)) (pw_and1 (pt_cmpR (op_neD hr.units) (pe_prop (pv 8) PC.cl prS GS (hr.mono (by decide)) bS .nil pass0 rfl) (pe_callTy call_tuple_of (by rfl) B.tuple (by decide +kernel) (pa_cons (pe_op op_cat (pv 3) (pe_lst (pa_cons (pv 10) pa_nil))) pa_nil)) (nomark _)))))))) (pss_one (ps_ret pe_bl)) pss_nil)
        (pss_cons (ps_if (PW.pt (pw_and (pt_cmpR op_notN (pe_call G7 (hr.mono (by decide)) rfl m7 k7 b7 .nil pass0 (pa_cons (pe_lst (pa_cons (pv 10) pa_nil)) pa_nil)) pe_non (nomark _)) (pw_and1 (pt_cmpR (op_neD hr.units) (pe_callAt (CX := L2.CX P w) (E := fun _ _ _ => False) (know := fun σ s2 H2 => CellsAt (cloFrom (cellsFrom (s.heap.objs.size + 1) (defScope sLaw).names []) n2names []) fr2 [slotAt σ 10] s2.heap H2)
            (sp := fun σ v H1 Q' => ∃ f sp, v = .ref f ∧ Sho.Act P w K mg base (L2.CX P w) 11 (cloFrom (cellsFrom (s.heap.objs.size + 1) (defScope sLaw).names []) n2names []) fr2 sp f H1 ∧ ∀ E' : XK, (∀ cls d H2, Out CI CT CU Q' cls d H2 → E' cls d H2) → sp [slotAt σ 10] H1 Q' E')
            (by rfl) m8 k8 passL (fun pins σ H' s' I => cells_of (js := [10]) (fr := fr2) I (Caps.made (scope := scL n2names) I.ok (free_by (os := (defScope sLaw).names) (by decide +kernel)) (by decide +kernel) rfl))
            (pa_cons (pe_lam TB rfl hm hu (free_by (os := (defScope sLaw).names) (by decide +kernel))) pa_nil) (fun σ2 s2 H2 u v Q2 e0 kn rv h => by
              obtain ⟨f2', sp2, rfl, ac, q⟩ := h
              cases rv
              exact outcome_run F8 b8 EE (hr.mono (by decide)) e0 kn ac q)) (pe_tup (pa_cons pe_str (pa_cons pe_int pa_nil))) (nomark _))))) (pss_one (ps_ret pe_bl)) pss_nil)
        (pss_cons (ps_if (pt_not (pt_val (pe_call G9 (hr.mono (by decide)) rfl m9 k9 b9 .nil pass (pa_cons (pv 11) (pa_cons (pv 3) (pa_cons (pe_op op_sub (pe_call G2 (hr.mono (by decide)) rfl m2 k2 b2 .nil pass0 (pa_cons (pv 1) (pa_cons pe_int pa_nil))) pe_int) pa_nil)))))) (pss_one (ps_ret pe_bl)) pss_nil)
        (pss_cons (ps_set (i := 9) nd rfl (Or.inl rfl) (pe_call G4 (hr.mono (by decide)) rfl m4 k4 b4 .nil pass (pa_cons (pe_op op_cat (pe_slice sl_list (pv 3) (po_some pe_int) po_none) (pe_slice sl_list (pv 3) po_none (po_some pe_int))) pa_nil)))
        (pss_one (ps_if (PW.pt (pw_or (pt_cmpR op_ne (pe_cmpR (op_ownEq (fnr_of GE bE) (hr.mono (by decide)) pass0 iE jE) (pv 11) (pv 9) (nomark _)) (pe_cmpR (op_eqD hr.units) (pv 3) (pe_op op_cat (pe_slice sl_list (pv 3) (po_some pe_int) po_none) (pe_slice sl_list (pv 3) po_none (po_some pe_int))) (nomark _)) (nomark _))
            (pw_or (pt_cmpR (op_ownEq (fnr_of GE bE) (hr.mono (by decide)) pass0 iE jE) (pv 11) (pe_callTy call_tuple_of (by rfl) B.tuple (by decide +kernel) (pa_cons (pv 3) pa_nil)) (nomark _)) (pw_or1 (pt_not (pt_val (pe_call GA (hr.mono (by decide)) rfl mA kA bA .nil pass (pa_cons (pv 11) pa_nil)))))))) (pss_one (ps_ret pe_bl)) pss_nil)))))))))))))))
      (pss_one (ps_ret pe_bl)))), ?_⟩
    refine ⟨_, rfl, a, ns, rfl, ha, hl, fun H1 l s1 hl1 D1 => ?_⟩
    refine ⟨C, mc, .int 24, uM, rfl, rdM, cvM, rfl, _, rfl, iteF ?_⟩
    refine ⟨_, rfl, by decide, by decide, for_it walk_range (fun i σ H2 => ∃ o2 o3 o4 o5 o6 o7 o8 o9 oa ob oc, σ = [some (.ref a), some (.ref l), o2, o3, o4, o5, o6, o7, o8, o9, oa, ob, oc] ∧ DrawSt K H2 l a ns ∧ LamX.Tabs T H2)
      ⟨none, none, none, none, none, none, none, none, none, none, none, rfl, D1, LamX.Tabs.ext hT s1⟩ (fun _ _ _ _ _ => trivial) ?_ ?_⟩
    · rintro i v σ H3 H2 hi ⟨o2, o3, o4, o5, o6, o7, o8, o9, oa, ob, oc, rfl, D2, T2⟩ ⟨rfl, ev⟩
      obtain ⟨zs2, hl2⟩ := D2.at
      refine ⟨_, rfl, _, _, rfl, rfl, ⟨by decide, by decide, by decide⟩, by show 2 ≤ sizeLine; decide, fun Lh hLh => ⟨_, rfl, l, a, ns, 2, rfl, D2.same (same_upd hLh), by decide, by decide, fun r H4 r0 r1 b4 d4 => ?_⟩⟩
      have nLh : Lh ≠ l := fun z => by
        rw [z, hl2] at hLh
        cases hLh
      obtain ⟨high, hv, h0, h1⟩ : ∃ high : Int, atI [V.int 6, V.int (10 ^ (8 : Int).toNat)] r = some (.int high) ∧ 0 < high ∧ high ≤ 100000000 := by
        have : r = 0 ∨ r = 1 := by omega
        rcases this with rfl | rfl
        · exact ⟨6, atI_nat (j := 0) rfl, by decide, by decide⟩
        · exact ⟨10 ^ (8 : Int).toNat, atI_nat (j := 1) rfl, by decide, by decide⟩
      refine ⟨Lh, _, r, _, rfl, rfl, SqL.of (b4 _ _ upd_same nLh), hv, l, a, ns, 9, high, rfl, d4, by decide, by decide, h0, by omega, fun H5 R ws xs b5 d5 nR hR sv lx rw5 => ?_⟩
      obtain ⟨hv5, hs5⟩ := rows_valid rw5 (by omega) h1
      have T4 : LamX.Tabs T H4 := tabs_but (zs := V.ref a :: zs2) (by rw [upd_ne (Ne.symm nLh)]; exact hl2) b4 (LamX.Tabs.ext T2 (same_upd hLh))
      obtain ⟨zs4, hl4⟩ := d4.at
      have nRl : R ≠ l := fun z => by
        rw [z, hl4] at nR
        cases nR
      refine ⟨_, rfl, R, ws, xs, rfl, SqL.of hR, sv, hs5, hv5, fun p H6 s6 hp6 P6 => ?_⟩
      have U6 : Turn K T C l a ns R p ws xs H6 := ⟨d5.same s6, LamX.Tabs.ext (tabs_but hl4 b5 T4) s6, s6 _ _ hR, nRl, sv.same s6, P6⟩
      have lw : ws.length = xs.length := pair_len sv
      have nob : named xs "nobody" = false := rows_nobody rw5
      have l9 : xs.length ≤ 9 := by omega
      clear b4 b5 d4 d5 nR hR sv T4 hl4 hl2 D2 T2 s6 hp6 P6 hv hLh
      -- stays, names
      refine name_of (if_no (fun R0 h0 => or_no (fun R' h => ?_) (fun H7 s7 R' h => ?_) h0) fun H7 s7 => ?_)
      · obtain ⟨dx, ap, wp, g1, g2, g3⟩ := id U6.p
        refine ⟨_, rfl, p, dx, _, rfl, g1, p, dx, _, .ref ap, rfl, g1, lk_stays _, _, rfl, R, ws, rfl, .inl ⟨SqL.of U6.r, fun t ht => ?_⟩⟩
        have s8 : Same H6 (upd H6 t (.tup ws)) := same_upd ht
        refine ⟨.ref ap, .ref t, .tuple (xs.map stayD), rfl, stands_tup (s8 _ _ g2) (g3.same s8) (by omega), stands_tup upd_same (U6.s.same s8) (by omega), fun H' s' => ⟨_, rfl, h _ (s8.trans s')⟩⟩
      · have U7 := U6.same s7
        obtain ⟨dx, ap, wp, g1, g2, g3⟩ := id U7.p
        refine ⟨_, rfl, p, dx, _, rfl, g1, p, xs, rfl, U7.p, Nat.le_trans l9 (by decide), fun H8 t s8 nt ht => ?_⟩
        have U8 := U7.same s8
        refine ⟨_, rfl, R, rfl, ⟨_, SqL.of U8.r⟩, fun D hD => ?_⟩
        refine lc_map walk_list (fun i => (xs[i]?).map fun y => V.str y.1) hD (by rw [lw]; exact Nat.le_trans l9 (by decide)) (fun H9 s9 => SqL.of (s9 _ _ U8.r)) (fun i v H9 H' hi s9 yy R2 k2 => ?_) (fun i hi => ⟨_, by rw [List.getElem?_eq_getElem (by rw [← lw]; exact hi)]; rfl⟩) fun H9 s9 e9 => ?_
        · obtain ⟨rfl, e2⟩ := yy
          obtain ⟨y, hy, t', rfl, ht'⟩ := pair_get (U8.same s9).s e2
          refine ⟨rfl, _, rfl, t', _, 0, .str y.1, rfl, rfl, SqT.of ht', atI_nat (j := 0) rfl, ?_⟩
          refine k2 _ _ (Same.refl _) ?_
          rw [hy]
          rfl
        · have e3 := gather_map xs fun y => V.str y.1
          rw [← lw] at e3
          rw [e3] at e9
          refine ⟨D, _, rfl, .inl ⟨SqL.of e9, fun t2 ht2 => ?_⟩⟩
          have sT : Same H9 (upd H9 t2 (.tup (xs.map fun y => V.str y.1))) := same_upd ht2
          have em : (xs.map fun y => V.str y.1) = (xs.map fun y => y.1).map V.str := by
            rw [List.map_map]
            rfl
          have q1 : (upd H9 t2 (.tup (xs.map fun y => V.str y.1))) t = some (.tup ((xs.map fun y => y.1).map V.str)) := by
            rw [← em]
            exact sT _ _ (s9 _ _ ht)
          have q2 : (upd H9 t2 (.tup (xs.map fun y => V.str y.1))) t2 = some (.tup ((xs.map fun y => y.1).map V.str)) := by
            rw [← em]
            exact upd_same
          exact ⟨.ref t, .ref t2, _, rfl, stands_strs q1 (by rw [List.length_map]; omega), stands_strs q2 (by rw [List.length_map]; omega), fun H' s' => ⟨_, rfl, h _ (((s8.trans s9).trans sT).trans s')⟩⟩
      have U7 := U6.same s7
      clear U6 s7
      -- len, bool, in
      refine if_no (fun R0 h0 => or_no (fun R' h => ?_) (fun H8 s8 R' h => or_no (fun R2 h2 => ?_) (fun H9 s9 R2 h2 => ?_) h) h0) fun H8 s8 => ?_
      · refine ⟨_, rfl, p, rfl, ins_party U7.p, p, xs, rfl, U7.p, _, rfl, by omega, by omega, _, rfl, R, ws, rfl, .inl (SqL.of U7.r), rfl, _, rfl, ?_⟩
        have e : (!decide (V.int ((xs.length : Nat) : Int) = V.int ((ws.length : Nat) : Int))) = false := by
          rw [lw]
          simp
        rw [e]
        exact h _ (Same.refl _)
      · have V8 := U7.same s8
        refine ⟨_, rfl, p, rfl, ins_party V8.p, p, xs, rfl, V8.p, _, rfl, _, rfl, Nat.zero_le _, fun L hL => ?_⟩
        have sL : Same H8 (upd H8 L (.lst [])) := same_upd hL
        refine ⟨.list (xs.map stayD), .list [], .lst (SqL.of (sL _ _ V8.r)) (dp_stays (V8.s.same sL)), .lst (SqL.of upd_same) .nil, shaped_lst hs5, rfl, rfl, _, rfl, ?_⟩
        have e : (!decide (V.bl (!xs.isEmpty) = V.bl (!PyData.eqv (.list (xs.map stayD)) (.list [])))) = false := by
          have e1 : PyData.eqv (.list (xs.map stayD)) (.list []) = xs.isEmpty := by
            cases xs with
            | nil => rfl
            | cons x xs => rfl
          rw [e1]
          simp
        rw [e]
        exact h2 _ sL
      · have V9 := U7.same (s8.trans s9)
        refine ⟨_, rfl, p, rfl, ins_party V9.p, p, "nobody", xs, rfl, V9.p, Nat.le_trans l9 (by decide), fun H' s' => ⟨_, rfl, _, rfl, ?_⟩⟩
        rw [if_neg Bool.false_ne_true, nob]
        exact h2 _ s'
      have U8 := U7.same s8
      clear U7 s8
      refine ⟨_, rfl, R, rfl, ⟨_, SqL.of U8.r⟩, for_it walk_list (fun i σ H2 => ∃ q4 q5 q6, σ = [some (.ref a), some (.ref l), some v, some (.ref R), q4, q5, q6, o7, o8, o9, oa, some (.ref p), oc] ∧ Same H8 H2)
        ⟨o4, o5, o6, rfl, Same.refl _⟩ (fun i σ H2 _ ⟨_, _, _, _, s2⟩ => SqL.of (s2 _ _ U8.r)) ?_ ?_⟩
      · rintro j y σ H9' H9 hj ⟨q4, q5, q6, rfl, s9⟩ ⟨rfl, e2⟩
        have V9 := U8.same s9
        obtain ⟨x, hx, t, rfl, ht⟩ := pair_get V9.s e2
        have hxm := List.mem_of_getElem? hx
        have hgs := guest_self hv5.nd hx
        have hx1 := (hs5 x hxm).1
        refine ⟨t, _, rfl, SqT.of ht, rfl, _, _, rfl, _, _, rfl, _, _, rfl, rfl, ?_⟩
        refine if_no (fun R0 h0 => or_no (fun R' h => ?_) (fun Ha sa R' h => ?_) h0) fun Ha sa => if_no1 (fun R0 h0 => ?_) fun Hb sb => ?_
        · refine ⟨_, rfl, _, rfl, p, rfl, ins_party V9.p, p, x.1, xs, rfl, V9.p, hx1, fun x' hx' Hc t' sc nt ht' => ?_, fun hn => (by rw [hgs] at hn; cases hn)⟩
          rw [hgs] at hx'
          cases hx'
          refine ⟨_, rfl, _, rfl, by show 2 ≤ sizeLine; decide, fun t2 ht2 => ?_⟩
          have s3 : Same Hc (upd Hc t2 (.tup [.int x.2.1, .int x.2.2])) := same_upd ht2
          have st : ∀ {H : Hp} {t : Addr}, H t = some (.tup [.int x.2.1, .int x.2.2]) → Stands H 1 (.ref t) (.tuple [.int x.2.1, .int x.2.2]) := fun {H t} e => .inr ⟨t, _, _, rfl, rfl, e, by show 2 ≤ 1000; decide, .cons (.inl ⟨_, rfl, rfl⟩) (.cons (.inl ⟨_, rfl, rfl⟩) .nil)⟩
          exact ⟨.ref t', .ref t2, _, rfl, st (s3 _ _ ht'), st upd_same, fun H' s' => ⟨_, rfl, h _ ((sc.trans s3).trans s')⟩⟩
        · have Va := V9.same sa
          refine ⟨_, rfl, _, rfl, p, rfl, ins_party Va.p, p, x.1, xs, rfl, Va.p, Nat.le_trans l9 (by decide), fun H' s' => ⟨_, rfl, _, rfl, ?_⟩⟩
          have nm : named xs x.1 = true := List.any_eq_true.mpr ⟨x, hxm, by simp⟩
          rw [if_pos rfl, nm]
          exact h _ s'
        · have Va := V9.same sa
          refine ⟨_, rfl, _, rfl, p, rfl, ⟨x.1, rfl⟩, ins_party Va.p, p, x.1, xs, rfl, Va.p, hs5, hv5, hx1, fun x' hx' q Hc sc nq PQ => ?_, fun hn => (by rw [hgs] at hn; cases hn)⟩
          rw [hgs] at hx'
          cases hx'
          have Vc := Va.same sc
          obtain ⟨dx, aq, wq, g1, g2, g3⟩ := id PQ
          refine ⟨q, dx, _, rfl, g1, q, dx, _, .ref aq, rfl, g1, lk_stays _, _, rfl, R, rfl, ⟨_, SqL.of Vc.r⟩, fun D hD => ?_⟩
          refine lc_gather walk_list (fun i => ((ws.zip xs)[i]?).bind fun q => if (!decide (V.str q.2.1 = V.str x.1)) = true then some q.1 else none) hD (by rw [lw]; exact Nat.le_trans l9 (by decide)) (fun H1 s1 => SqL.of (s1 _ _ Vc.r)) (fun i v H1 H' hi s1 yy R2 k2 => ?_) fun H1 s1 e1 => ?_
          · obtain ⟨rfl, e3⟩ := yy
            obtain ⟨y, hy, t', rfl, ht'⟩ := pair_get (Vc.same s1).s e3
            have k3 := k2 _ (Same.refl _)
            have ez : (ws.zip xs)[i]? = some (.ref t', y) := by
              rw [List.getElem?_zip_eq_some]
              exact ⟨e3, hy⟩
            rw [ez] at k3
            refine ⟨rfl, _, rfl, t', _, 0, .str y.1, rfl, rfl, SqT.of ht', atI_nat (j := 0) rfl, _, rfl, rfl, _, rfl, ?_⟩
            cases e : (!decide (V.str y.1 = V.str x.1)) with
            | true =>
              simp only [Option.bind_some, e, if_true] at k3
              exact iteT ⟨_, rfl, k3⟩
            | false =>
              simp only [Option.bind_some, e] at k3
              exact iteF k3
          · have e2 : (ws.zip xs).length = ws.length := by
              rw [List.length_zip, lw]
              exact Nat.min_self _
            rw [← e2, gather_list] at e1
            have sv := stays_filter (fun y => !decide (V.str y.1 = V.str x.1)) (Vc.same s1).s
            have wn := without_name hv5.nd hxm
            rw [wn] at g3
            have lf : (xs.filter fun y => !decide (V.str y.1 = V.str x.1)).length ≤ 1000 := Nat.le_trans (List.length_filter_le ..) (by omega)
            refine ⟨D, _, rfl, .inl ⟨SqL.of e1, fun t2 ht2 => ?_⟩⟩
            have s3 : Same H1 (upd H1 t2 _) := same_upd (o := .tup ((ws.zip xs).filterMap fun q => if (!decide (V.str q.2.1 = V.str x.1)) = true then some q.1 else none)) ht2
            exact ⟨.ref aq, .ref t2, _, rfl, stands_tup (s3 _ _ (s1 _ _ g2)) ((g3.same s1).same s3) lf, stands_tup upd_same (sv.same s3) lf, fun H' s' => ⟨_, rfl, h0 _ (((sc.trans s1).trans s3).trans s')⟩⟩
        · exact ⟨_, _, _, rfl, (s9.trans sa).trans sb⟩
      · rintro σ H9 ⟨q4, q5, q6, rfl, s9⟩
        have U9 := U8.same s9
        clear U8 s9
        refine ⟨_, rfl, _, rfl, l, a, R, ns, ws, xs, rfl, U9.d, SqL.of U9.r, U9.s, hs5, fun Ha vb xb ba da svb shb => ?_⟩
        have Ua := U9.but ba da
        clear U9 ba da
        refine ⟨_, rfl, _, rfl, by show 1 ≤ sizeLine; decide, fun L hL => ?_⟩
        have sL : Same Ha (upd Ha L (.lst [vb])) := same_upd hL
        have hLL : (upd Ha L (.lst [vb])) L = some (.lst [vb]) := upd_same
        have Ub := Ua.same sL
        have svb2 := svb.same sL
        generalize upd Ha L (.lst [vb]) = Hb at *
        refine ⟨R, L, ws, [vb], rfl, rfl, Ub.r, hLL, ?_, fun M hM => ?_⟩
        · show ws.length + 1 ≤ sizeLine
          rw [lw]
          exact Nat.le_trans (Nat.succ_le_succ l9) (by decide)
        have sM : Same Hb (upd Hb M (.lst (ws ++ [vb]))) := same_upd hM
        have hMM : (upd Hb M (.lst (ws ++ [vb]))) M = some (.lst (ws ++ [vb])) := upd_same
        have Uc := Ub.same sM
        have svb3 := svb2.same sM
        generalize upd Hb M (.lst (ws ++ [vb])) = Hc at *
        have shx : Short (xs ++ [xb]) := hs5.append shb
        refine ⟨M, ws ++ [vb], xs ++ [xb], rfl, SqL.of hMM, paired_append Uc.s (.cons svb3 .nil), shx, by rw [List.length_append]; show xs.length + 1 ≤ 1000; omega, fun Hd sd => ?_⟩
        have Ud := Uc.same sd
        have svd := svb3.same sd
        clear Ua Ub Uc svb svb2 svb3 hMM hLL sM sL sd
        refine name_of (asg_rel (fun v H' => Turn K T C l a ns R p ws xs H' ∧ StayV H' vb xb ∧ Found C (xs ++ [xb]) v H') (fun R0 h0 => ?_) fun vf He ⟨Ue, sve, fe⟩ => ?_)
        · refine ⟨_, rfl, by show 1 ≤ sizeLine; decide, fun L hL => ⟨L, [vb], [xb], rfl, SqL.of upd_same, .cons (svd.same (same_upd hL)) .nil, shb, by show 1 ≤ 1000; decide, fun He se => ⟨rfl, _, rfl, ?_⟩⟩⟩
          have s2 : Same Hd He := (same_upd hL).trans se
          have Ue := Ud.same s2
          have sve := svd.same s2
          cases e1 : firstBad [xb] with
          | none =>
            refine iteT ⟨Ue.t, fun f0 c0 Hf Gf nf lf => ⟨_, rfl, f0, spAddL C CI, rfl, ?_, fun E' hE => ?_⟩⟩
            · refine act0 (k := 10) (N := ["_law_party_here", "_law_bad"]) (fr := fr1) (sp := spAddL C CI) lf (nscope_by (sc := scL [("_law_bad", .free), ("_law_party_here", .free), ("Party", .globalImplicit)]) (by decide +kernel)) (fun _ _ => rfl) fun A outer s H ws Q E hr hw h => ?_
              obtain ⟨p, v, xs, x, rfl, PA, hv, hs, hl, hb, mk⟩ := h
              refine ⟨_, pe_op (op_own2 (fnr_of GP bP) (hr.mono (by decide)) (passes_call (takes_of rfl rfl rfl rfl) fun _ _ _ _ z => z) selfF iP jP) (pv 0) (StX.pe_makeR MN GN (hr.mono (by decide)) rfl PC.gm (passes_call (takes_of rfl rfl rfl rfl) fun _ _ _ _ z => z) (pa_cons (pv 1) pa_nil)), ?_⟩
              have h1 : Short [x] := fun y hy => hs y (List.mem_append_right _ hy)
              have h2 : Short xs := fun y hy => hs y (List.mem_append_left _ hy)
              refine ⟨_, rfl, new1 rfl hv h1 ⟨fun _ r H4 s4 nr P4 => ?_, fun i hi => (by rw [hb] at hi; cases hi)⟩⟩
              exact ⟨p, r, rfl, rfl, ins_party (PA.same s4), ins_party P4, p, r, xs, [x], rfl, PA.same s4, P4, h2, h1, by show xs.length + 1 ≤ 1000; omega, mk.after s4⟩
            · have Uf := Ue.grows Gf
              obtain ⟨tb, rfl, hb⟩ := sve
              have svf : StayV Hf (.ref tb) xb := ⟨tb, rfl, Gf.ext _ _ hb fun _ z => nomatch z⟩
              refine ⟨p, .ref tb, xs, xb, rfl, Uf.p, svf, shx, by omega, e1, fun h3 q H4 s4 nq PQ => h0 _ _ ⟨Uf.same s4, svf.same s4, .inl ⟨h3, q, rfl, PQ⟩⟩, fun i h3 H4 d s4 nd4 e4 => ?_⟩
              exact hE _ _ _ (.inl ⟨rfl, d, (i : Int), rfl, e4, fun t H5 s5 e5 => h0 _ _ ⟨Uf.same (s4.trans s5), svf.same (s4.trans s5), .inr ⟨i, t, h3, rfl, e5⟩⟩⟩)
          | some j =>
            obtain ⟨i, hb⟩ : ∃ i, firstBad (xs ++ [xb]) = some i := by
              cases e2 : firstBad (xs ++ [xb]) with
              | some i => exact ⟨i, rfl⟩
              | none =>
                have v2 := valid_iff.mp e2
                rw [valid_iff.mpr (Valid.one (v2.ok xb (by simp)))] at e1
                cases e1
            rw [hb]
            refine iteF ⟨_, rfl, by show 2 ≤ sizeLine; decide, fun t ht => h0 _ _ ⟨Ue.same (same_upd ht), sve.same (same_upd ht), .inr ⟨i, t, hb, rfl, upd_same⟩⟩⟩
        · refine name_at (if_no (fun R0 h0 => or_no (fun R' h => ?_) (fun Hf sf R' h => ?_) h0) fun Hf sf => ?_)
          · rcases fe with ⟨hb, q, rfl, PQ⟩ | ⟨i, t, hb, rfl, ht⟩
            · rw [hb]
              exact ⟨_, rfl, rfl, _, rfl, iteF (h _ (Same.refl _))⟩
            · rw [hb]
              refine ⟨_, rfl, rfl, _, rfl, iteT ⟨_, rfl, _, rfl, by show 2 ≤ sizeLine; decide, fun t2 ht2 => ?_⟩⟩
              have s3 : Same He (upd He t2 (.tup [.str "InvalidStay", optV (some i)])) := same_upd ht2
              refine ⟨.tuple [.str "InvalidStay", .int (i : Int)], .tuple [.str "InvalidStay", .int (i : Int)], .tup (SqT.of (s3 _ _ ht)) (.cons (.str _) (.cons (.int _) .nil)), .tup (SqT.of upd_same) (.cons (.str _) (.cons (.int _) .nil)), shaped_err (by decide +kernel), shaped_err (by decide +kernel), _, rfl, ?_⟩
              rw [eqv_err]
              exact h _ s3
          · have Uf := Ue.same sf
            have svf := sve.same sf
            rcases fe with ⟨hb, q, rfl, PQ⟩ | ⟨i, t, hb, rfl, ht⟩
            · rw [hb]
              obtain ⟨dx, aq, wq, g1, g2, g3⟩ := id (PQ.same sf)
              refine ⟨_, rfl, rfl, _, rfl, iteT ⟨_, rfl, q, dx, _, rfl, g1, q, dx, _, .ref aq, rfl, g1, lk_stays _, _, rfl, _, rfl, by show 1 ≤ sizeLine; decide, fun L hL => ⟨R, L, ws, [vb], rfl, rfl, same_upd hL _ _ Uf.r, upd_same, ?_, fun M hM => ⟨M, _, rfl, .inl ⟨SqL.of upd_same, fun t2 ht2 => ?_⟩⟩⟩⟩⟩
              · show ws.length + 1 ≤ sizeLine
                rw [lw]
                exact Nat.le_trans (Nat.succ_le_succ l9) (by decide)
              have s3 : Same Hf (upd (upd (upd Hf L (.lst [vb])) M (.lst (ws ++ [vb]))) t2 (.tup (ws ++ [vb]))) := ((same_upd hL).trans (same_upd hM)).trans (same_upd ht2)
              have sv3 : StaysV (upd (upd (upd Hf L (.lst [vb])) M (.lst (ws ++ [vb]))) t2 (.tup (ws ++ [vb]))) (ws ++ [vb]) (xs ++ [xb]) := paired_append (Uf.s.same s3) (.cons (svf.same s3) .nil)
              refine ⟨.tuple ((xs ++ [xb]).map stayD), .tuple ((xs ++ [xb]).map stayD), .tup (SqT.of (s3 _ _ g2)) (dp_stays (g3.same s3)), .tup (SqT.of upd_same) (dp_stays sv3), shaped_tup shx, shaped_tup shx, _, rfl, ?_⟩
              have ee : PyData.eqv (.tuple ((xs ++ [xb]).map stayD)) (.tuple ((xs ++ [xb]).map stayD)) = true := (eqv_stays _ _).trans (decide_eq_true rfl)
              rw [ee]
              exact h _ s3
            · rw [hb]
              exact ⟨_, rfl, rfl, _, rfl, iteF (h _ (Same.refl _))⟩
          have Uf := Ue.same sf
          have svf := sve.same sf
          clear Ue sve fe sf
          refine if_rel (Turn K T C l a ns R p ws xs) (fun R0 h0 => ?_) fun Hg Ug => ?_
          · refine ⟨_, rfl, by show 1 ≤ sizeLine; decide, fun L hL => ⟨L, [vb], [xb], rfl, SqL.of upd_same, .cons (svf.same (same_upd hL)) .nil, shb, by show 1 ≤ 1000; decide, fun Hg sg => ⟨rfl, _, rfl, ?_⟩⟩⟩
            have s2 : Same Hf Hg := (same_upd hL).trans sg
            have Ug := Uf.same s2
            have svg := svf.same s2
            cases e1 : firstBad [xb] with
            | none => exact iteF (h0 _ Ug)
            | some i =>
              have i0 := first_one e1
              subst i0
              refine iteT ⟨Ug.t, fun f0 c0 Hh Gh nh lh => ⟨_, rfl, f0, spNewL C CI, rfl, ?_, fun E' hE => ?_⟩⟩
              · refine act0 (k := 10) (N := ["_law_bad"]) (fr := fr2) (sp := spNewL C CI) lh (nscope_by (sc := scL [("_law_bad", .free), ("Party", .globalImplicit)]) (by decide +kernel)) (fun _ _ => rfl) fun A outer s H ws Q E hr hw h => ?_
                obtain ⟨v, x, rfl, hv, hs, mk⟩ := h
                exact ⟨_, StX.pe_makeR MN GN (hr.mono (by decide)) rfl PC.gm (passes_call (takes_of rfl rfl rfl rfl) fun _ _ _ _ z => z) (pa_cons (pv 0) pa_nil), new1 rfl hv hs mk⟩
              · have Uh := Ug.grows Gh
                obtain ⟨tb, rfl, hb⟩ := svg
                have svh : StayV Hh (.ref tb) xb := ⟨tb, rfl, Gh.ext _ _ hb fun _ z => nomatch z⟩
                refine ⟨.ref tb, xb, rfl, svh, shb, fun h3 => (by rw [e1] at h3; cases h3), fun i h3 H4 d s4 nd4 e4 => ?_⟩
                have i0 := first_one h3
                subst i0
                refine hE _ _ _ (.inl ⟨rfl, d, ((0 : Nat) : Int), rfl, e4, fun t H5 s5 e5 => ?_⟩)
                refine ⟨by show 2 ≤ sizeLine; decide, fun t2 ht2 => ?_⟩
                have s6 : Same H5 (upd H5 t2 (.tup [.str "InvalidStay", .int 0])) := same_upd ht2
                refine ⟨.tuple [.str "InvalidStay", .int 0], .tuple [.str "InvalidStay", .int 0], .tup (SqT.of (s6 _ _ e5)) (.cons (.str _) (.cons (.int _) .nil)), .tup (SqT.of upd_same) (.cons (.str _) (.cons (.int _) .nil)), shaped_err (by decide +kernel), shaped_err (by decide +kernel), _, rfl, ?_⟩
                rw [eqv_err]
                exact h0 _ (Uh.same ((s4.trans s5).trans s6))
          clear Uf svf
          refine if_rel (Turn K T C l a ns R p ws xs) (fun R0 h0 => ?_) fun Hh Uh => ?_
          · refine ⟨_, rfl, _, rfl, _, rfl, l, a, ns, 30, rfl, Ug.d, by decide, by decide, fun r Hh r0 r1 bh dh => ?_⟩
            have Uh := Ug.but bh dh
            exact ⟨_, _, rfl, rfl, p, R, r - 15, ws, xs, rfl, Uh.p, SqL.of Uh.r, Uh.s, hs5, by omega, Uh.t, fun H' G' => ⟨_, rfl, h0 _ (Uh.grows G')⟩⟩
          clear Ug
          have lr : (rot ws).length = xs.length := by rw [len_rot]; exact lw
          refine ⟨_, rfl, _, rfl, R, ws, rfl, SqL.of Uh.r, fun L1 h1 => ⟨_, rfl, _, rfl, R, ws, rfl, SqL.of (same_upd h1 _ _ Uh.r), fun L2 h2 => ?_⟩⟩
          rw [cut_drop, cut_take] at *
          refine ⟨L1, L2, _, _, rfl, rfl, same_upd h2 _ _ upd_same, upd_same, ?_, fun M hM => ?_⟩
          · have := lr
            unfold rot at this
            rw [List.length_append] at this
            rw [this]
            exact Nat.le_trans l9 (by decide)
          have sI : Same Hh (upd (upd (upd Hh L1 (.lst (ws.drop 1))) L2 (.lst (ws.take 1))) M (.lst (ws.drop 1 ++ ws.take 1))) := ((same_upd h1).trans (same_upd h2)).trans (same_upd hM)
          have Ui := Uh.same sI
          have hMI : (upd (upd (upd Hh L1 (.lst (ws.drop 1))) L2 (.lst (ws.take 1))) M (.lst (ws.drop 1 ++ ws.take 1))) M = some (.lst (rot ws)) := upd_same
          generalize (upd (upd (upd Hh L1 (.lst (ws.drop 1))) L2 (.lst (ws.take 1))) M (.lst (ws.drop 1 ++ ws.take 1))) = Hi at *
          refine ⟨M, rot ws, rot xs, rfl, SqL.of hMI, stays_rot Ui.s, hs5.rot, hv5.rot, fun q Hj sj nq PQ => ?_⟩
          have Uj := Ui.same sj
          clear Uh Ui sI hMI nq
          refine name_of (if_rel1 (Turn K T C l a ns R p ws xs) (fun R0 h0 => ?_) fun Hk Uk => ?_)
          · refine ⟨_, rfl, _, rfl, p, rfl, ins_party Uj.p, .inl ⟨q, rfl, ins_party PQ⟩, p, xs, .ref q, rfl, Uj.p, hs5, .inl ⟨q, rot xs, rfl, PQ, hs5.rot, _, rfl, ?_⟩⟩
            refine ⟨_, rfl, _, rfl, _, rfl, R, ws, rfl, SqL.of Uj.r, fun L1 h1 => ⟨_, rfl, _, rfl, R, ws, rfl, SqL.of (same_upd h1 _ _ Uj.r), fun L2 h2 => ?_⟩⟩
            rw [cut_drop, cut_take] at *
            refine ⟨L1, L2, _, _, rfl, rfl, same_upd h2 _ _ upd_same, upd_same, ?_, fun M hM => ?_⟩
            · have := lr
              unfold rot at this
              rw [List.length_append] at this
              rw [this]
              exact Nat.le_trans l9 (by decide)
            have sK : Same Hj (upd (upd (upd Hj L1 (.lst (ws.drop 1))) L2 (.lst (ws.take 1))) M (.lst (ws.drop 1 ++ ws.take 1))) := ((same_upd h1).trans (same_upd h2)).trans (same_upd hM)
            have Uk := Uj.same sK
            have hMK : (upd (upd (upd Hj L1 (.lst (ws.drop 1))) L2 (.lst (ws.take 1))) M (.lst (ws.drop 1 ++ ws.take 1))) M = some (.lst (rot ws)) := upd_same
            generalize (upd (upd (upd Hj L1 (.lst (ws.drop 1))) L2 (.lst (ws.take 1))) M (.lst (ws.drop 1 ++ ws.take 1))) = Hk at *
            refine ⟨.list (xs.map stayD), .list ((rot xs).map stayD), .lst (SqL.of Uk.r) (dp_stays Uk.s), .lst (SqL.of hMK) (dp_stays (stays_rot Uk.s)), shaped_lst hs5, shaped_lst hs5.rot, rfl, _, rfl, ?_⟩
            have ee : PyData.eqv (.list (xs.map stayD)) (.list ((rot xs).map stayD)) = decide (xs = rot xs) := eqv_stays _ _
            have e1 : (!decide (V.bl (decide (xs = rot xs)) = V.bl (PyData.eqv (.list (xs.map stayD)) (.list ((rot xs).map stayD))))) = false := by
              rw [ee]
              simp
            rw [e1]
            have gno : guest xs "nobody" = none := by
              unfold guest
              rw [List.find?_eq_none]
              intro x hx e
              have nm : named xs "nobody" = true := List.any_eq_true.mpr ⟨x, hx, e⟩
              rw [nob] at nm
              cases nm
            refine iteF ⟨_, rfl, _, rfl, R, ws, rfl, .inl ⟨SqL.of Uk.r, fun t ht => ?_⟩⟩
            have sm : Same Hk (upd Hk t (.tup ws)) := same_upd ht
            have Um := Uk.same sm
            refine ⟨p, rfl, ins_party Um.p, .inr ⟨t, ws, rfl, SqT.of upd_same, PC.sT⟩, p, xs, .ref t, rfl, Um.p, hs5, .inr ⟨t, ws, rfl, upd_same, _, rfl, _, rfl, iteF ?_⟩⟩
            exact ⟨_, rfl, p, xs, rfl, Um.p, hs5, hv5, gno, Um.t, fun H' G' => ⟨_, rfl, h0 _ (Um.grows G')⟩⟩
          · exact ⟨_, _, _, _, _, _, _, _, _, _, _, rfl, Uk.d, Uk.t⟩
    · rintro σ H2 ⟨o2, o3, o4, o5, o6, o7, o8, o9, oa, ob, oc, rfl, D2, T2⟩
      exact k _
end
end Sh1
set_option Elab.async false
set_option linter.all false
set_option maxRecDepth 100000
set_option maxHeartbeats 2000000
namespace Sh1
open PySem L2 Sho NdefX He Shh
/-! Facts of the head about Party and the errors. -/
section
variable {K : Shh.Fr} {h : Heap} {mg : Str → Option Value}
def cvalB (K : Shh.Fr) (C : Addr) (f : Str) (i : Int) : Bool := match PySem.W.findCls K (.ref C) (.type "type") f with
  | some (.val (.int j _)) => decide (j = i)
  | _ => false
theorem cvalB_ok {C : Addr} {f : Str} {i : Int} (c : cvalB K C f i = true) : ∃ u, ClX.CVal K C (.type "type") f (.int i) u := by
  unfold cvalB at c
  split at c
  · rename_i j t e
    rw [of_decide_eq_true c] at e
    exact ⟨_, e, ⟨_, rfl⟩⟩
  · cases c
def partyB (K : Shh.Fr) (C : Addr) : Bool := PySem.W.plainGet K C Str.empty && (PySem.W.hasDictIn K C && (PySem.W.plainOver K C && (eqO (PySem.W.findIn K (.ref C) "__setattr__") (some (some (.builtin "object.__setattr__"))) &&
  (eqO (PySem.W.findIn K (.ref C) "_stays") (some none) && (conB K "Party" "MAX_GUESTS" (.int 24) && (eqO (PySem.W.findIn K (.ref C) "__class__") (some (some (.builtin "object.__class__"))) &&
  (eqO (PySem.W.specialIn K (.builtin "object.__class__") "__get__") (some (some (.builtin "getset_descriptor.__get__"))) && (decide (PySem.W.takesIn K (.builtin "object.__class__") = some true) && (decide (PySem.W.mroIn K C (.type "object") = some true) &&
  (decide (PySem.W.kitOne K (.ref C) (.ref C) = some true) && (decide (PySem.W.kitOne K (.type "tuple") (.ref C) = some false) && (decide (PySem.W.subIn K (.type "tuple") (.ref C) = some false) && (PySem.W.selfFirst K C && (PySem.W.makesIn K C && (PySem.W.keepIn K (.ref C) &&
  (PySem.W.readsIn K C (.type "type") && (eqO (PySem.W.specialIn K (.ref C) "__getattribute__") (some (some (.builtin "type.__getattribute__"))) && cvalB K C "MAX_GUESTS" 24)))))))))))))))))
structure PartyF (K : Shh.Fr) (mg : Str → Option Value) (C : Addr) : Prop where
  pc : PartyC K mg C
  self : PySem.W.selfFirst K C = true
  makes : PySem.W.makesIn K C = true
  kp : PySem.W.keepIn K (.ref C) = true
  rd : ClX.CRead K C (.type "type")
  mx : ∃ u, ClX.CVal K C (.type "type") "MAX_GUESTS" (.int 24) u
theorem partyB_ok (gm : mg "Party" = some (.ref (ga K "Party"))) (c : partyB K (ga K "Party") = true) : PartyF K mg (ga K "Party") := by
  obtain ⟨c1, c⟩ := ba c
  obtain ⟨c2, c⟩ := ba c
  obtain ⟨c3, c⟩ := ba c
  obtain ⟨c4, c⟩ := ba c
  obtain ⟨c5, c⟩ := ba c
  obtain ⟨c6, c⟩ := ba c
  obtain ⟨c7, c⟩ := ba c
  obtain ⟨c8, c⟩ := ba c
  obtain ⟨c9, c⟩ := ba c
  obtain ⟨c10, c⟩ := ba c
  obtain ⟨c11, c⟩ := ba c
  obtain ⟨c12, c⟩ := ba c
  obtain ⟨c13, c⟩ := ba c
  obtain ⟨c14, c⟩ := ba c
  obtain ⟨c15, c⟩ := ba c
  obtain ⟨c16, c⟩ := ba c
  obtain ⟨c17, c⟩ := ba c
  obtain ⟨c18, c19⟩ := ba c
  have mx : ∃ t, Con K (ga K "Party") "MAX_GUESTS" (.int 24) (.int 24 t) := by
    obtain ⟨u, q⟩ := conB_ok c6 (by decide)
    obtain ⟨t, e⟩ : ∃ t, u = .int 24 t := by
      have r := q.rel
      cases u with
      | int j t =>
        obtain ⟨t', e⟩ := (show ∃ t', Value.int j t = .int 24 t' from r)
        exact ⟨t', e⟩
      | _ =>
        obtain ⟨t', e⟩ := r
        cases e
    rw [e] at q
    exact ⟨t, q⟩
  exact ⟨⟨gm, ⟨c1, c2, c3, eqO_ok c4⟩, eqO_ok c5, mx, eqO_ok c7, eqO_ok c8, of_decide_eq_true c9, of_decide_eq_true c10, of_decide_eq_true c11, of_decide_eq_true c12, of_decide_eq_true c13⟩, c14, c15, c16, ⟨c17, eqO_ok c18⟩, cvalB_ok c19⟩
theorem ernB_ok {x : Str} (gm : mg x = some (.ref (ga K x))) (c : ernB K x = true) : ErrN K mg x (ga K x) := by
  obtain ⟨c1, c⟩ := ba c
  obtain ⟨c2, c⟩ := ba c
  obtain ⟨c3, c⟩ := ba c
  obtain ⟨c4, c5⟩ := ba c
  exact ⟨c1, gm, c2, of_decide_eq_true c3, of_decide_eq_true c4, of_decide_eq_true c5⟩
def opB (K : Shh.Fr) (C : Addr) (op rop : Str) (T : String) : Bool := dunB K C op && (eqO (PySem.W.findIn K (.ref C) rop) (some none) && ((PySem.W.findIn K (.type T) op).isSome && ((PySem.W.findIn K (.type T) rop).isSome && decide (PySem.W.subIn K (.type T) (.ref C) = some false))))
theorem opB_ok {C : Addr} {op rop : Str} {T : String} (c : opB K C op rop T = true) : OpC K C op rop T (ma K C op) := by
  obtain ⟨c1, c⟩ := ba c
  obtain ⟨c2, c⟩ := ba c
  obtain ⟨c3, c⟩ := ba c
  obtain ⟨c4, c5⟩ := ba c
  have d := dunB_ok c1
  exact ⟨d.at_, d.isF, ⟨none, eqO_ok c2, .inl rfl⟩, Option.isSome_iff_exists.mp c3, Option.isSome_iff_exists.mp c4, of_decide_eq_true c5⟩
/-- the builtins that the text calls -/
abbrev bltNames : List Str := ["len", "all", "isinstance", "bool", "tuple", "list", "range", "enumerate", "int", "super", "sorted"]
theorem blt_ok (X : K.In h) (G : h.Ns mainGlobals mg) (c : freeB K bltNames = true) : Blt mg := by
  have k : ∀ x, x ∈ bltNames → mg x = none := fun x hx => freeB_ok X G c hx
  exact ⟨k _ (by simp), k _ (by simp), k _ (by simp), k _ (by simp), k _ (by simp), k _ (by simp), k _ (by simp), k _ (by simp), k _ (by simp), k _ (by simp), k _ (by simp)⟩
/-! ### InvalidStay, UnknownGuest -/
abbrev aInv (K : Shh.Fr) : Addr := ga K "InvalidStay"
abbrev aUnk (K : Shh.Fr) : Addr := ga K "UnknownGuest"
abbrev dnErr (x : Str) (qual : Str) (st : Stmt) : Dn := ⟨fun K => eInit K x, "__init__", qual, st, fun K => [(("__class__" : Str), cellA K (eInit K x))]⟩
theorem errC_inv {P : Program} (E : ErrF "/claim/cut.py" K "InvalidStay" "index") (D : FunF K "__init__" "InvalidStay.__init__" sInvInit [(("__class__" : Str), cellA K (eInit K "InvalidStay"))] (eInit K "InvalidStay")) (hf : P.main.file = "/claim/cut.py") (sup : mg "super" = none)
    (h2 : (P.main.scope.names.lookup ("super" : Str)).isSome = false) (gm : mg "InvalidStay" = some (.ref (aInv K))) : ErrC P K mg "InvalidStay" "index" nfInv (aInv K) :=
  ⟨⟨_, _, _, err_txt E D hf sup ⟨_, rfl, rfl⟩ h2 (by decide +kernel) (by decide +kernel) (by decide +kernel), E.ini, E.ity⟩, E.sup, E.xf, E.no, gm, E.exm⟩
theorem errC_unk {P : Program} (E : ErrF "/claim/cut.py" K "UnknownGuest" "name") (D : FunF K "__init__" "UnknownGuest.__init__" sUnkInit [(("__class__" : Str), cellA K (eInit K "UnknownGuest"))] (eInit K "UnknownGuest")) (hf : P.main.file = "/claim/cut.py") (sup : mg "super" = none)
    (h2 : (P.main.scope.names.lookup ("super" : Str)).isSome = false) (gm : mg "UnknownGuest" = some (.ref (aUnk K))) : ErrC P K mg "UnknownGuest" "name" nfUnk (aUnk K) :=
  ⟨⟨_, _, _, err_txt E D hf sup ⟨_, rfl, rfl⟩ h2 (by decide +kernel) (by decide +kernel) (by decide +kernel), E.ini, E.ity⟩, E.sup, E.xf, E.no, gm, E.exm⟩
end
end Sh1
set_option Elab.async false
set_option linter.all false
set_option maxRecDepth 100000
set_option maxHeartbeats 2000000
namespace Sh1
open PySem L2 Sho NdefX He Shh
/-! The end of k01. -/
abbrev dn (x : Str) (st : Stmt) : Dn := ⟨fun K => ga K x, x, x, st, fun _ => []⟩
abbrev dm (m qual : Str) (st : Stmt) : Dn := ⟨fun K => ma K (ga K "Party") m, m, qual, st, fun _ => []⟩
abbrev dp (m qual : Str) (st : Stmt) : Dn := ⟨fun K => getA K (ga K "Party") m, m, qual, st, fun _ => []⟩
def fn1 : List Dn := [dn "is_name" sIsName, dn "is_within" sIsWithin, dn "is_tick" sIsTick, dn "is_stay" sIsStay, dn "lifted_from" sLiftedFrom, dn "_check_stays" sCheck, dn "change_without" sChange,
  dn "_law_start" sStart, dn "_law_drawn" sDrawn, dn "_law_same" sSame, dn "_law_outcome" sOut, dn "_law_rows" sRows, dn "_law_party" sLawParty, dn "_law_bad_stay" sBadStay, dn "_law_first_bad" sFirstBad,
  dn "_law_refused" sRefused, dn "_law_moved" sMoved, dn "law" sLaw,
  dnErr "InvalidStay" "InvalidStay.__init__" sInvInit, dnErr "UnknownGuest" "UnknownGuest.__init__" sUnkInit,
  dm "__init__" "Party.__init__" sPInit, dp "stays" "Party.stays" sPStays, dp "names" "Party.names" sPNames, dm "_stay_of" "Party._stay_of" sPStayOf, dm "__len__" "Party.__len__" sPLen, dm "__bool__" "Party.__bool__" sPBool,
  dm "__contains__" "Party.__contains__" sPIn, dm "__getitem__" "Party.__getitem__" sPIx, dm "__eq__" "Party.__eq__" sPEq, dm "__sub__" "Party.__sub__" sPSub, dm "__add__" "Party.__add__" sPAdd, dm "__rshift__" "Party.__rshift__" sPShift,
  dm "__call__" "Party.__call__" sPCall, dm "pile_at" "Party.pile_at" sPPile]
abbrev gloNames : List Str := ["PartyError", "InvalidStay", "UnknownGuest", "InvalidTick", "Party", "is_name", "is_within", "is_tick", "is_stay", "lifted_from", "_check_stays", "change_without",
  "_law_start", "_law_drawn", "_law_same", "_law_outcome", "_law_rows", "_law_party", "_law_bad_stay", "_law_first_bad", "_law_refused", "_law_moved", "law"]
abbrev keepNames : List Str := ["is_name", "is_within", "is_tick", "is_stay", "lifted_from", "_check_stays", "change_without",
  "_law_start", "_law_drawn", "_law_same", "_law_outcome", "_law_rows", "_law_party", "_law_bad_stay", "_law_first_bad", "_law_refused", "_law_moved", "law"]
abbrev dunNames : List Str := ["__init__", "_stay_of", "__len__", "__bool__", "__contains__", "__getitem__", "__eq__", "__sub__", "__add__", "__rshift__", "__call__", "pile_at"]
def exmB (K : Shh.Fr) (x y : Str) (b : Bool) : Bool := decide (PySem.W.exmOne K (.ref (ga K x)) (.ref (ga K y)) = some b)
def tabA (K : Shh.Fr) (x : Str) : Addr := tabOf K (codeA K (ga K x))
def fa1 : List (Shh.Fr → Bool) := [fun K => gloB K gloNames, fun K => freeB K bltNames, fun K => keepB K keepNames, fun K => (Fa.int "LONGEST_NAME" 8).ok K, fun K => (Fa.int "LAST_TICK" 1000000000).ok K,
  fun K => errB "/claim/cut.py" K "InvalidStay" "index", fun K => errB "/claim/cut.py" K "UnknownGuest" "name", fun K => ernB K "InvalidTick",
  fun K => exmB K "InvalidTick" "InvalidStay" false, fun K => exmB K "UnknownGuest" "InvalidStay" false, fun K => exmB K "UnknownGuest" "InvalidTick" false,
  fun K => partyB K (ga K "Party"), fun K => dunNames.all fun m => dunB K (ga K "Party") m, fun K => propB K (ga K "Party") "stays", fun K => propB K (ga K "Party") "names",
  fun K => opB K (ga K "Party") "__sub__" "__rsub__" "str", fun K => opB K (ga K "Party") "__rshift__" "__rrshift__" "int",
  fun K => decide (tabA K "_law_refused" ≠ tabA K "_law_moved") && (decide (tabA K "_law_refused" ≠ tabA K "law") && decide (tabA K "_law_moved" ≠ tabA K "law")),
  fun K => PySem.W.keepIn K (.ref (getA K (ga K "Party") "stays")), fun K => PySem.W.keepIn K (.ref (getA K (ga K "Party") "names"))]
def tf1 : List (Shh.Fr → Addr) := [fun K => ga K "_law_refused", fun K => ga K "_law_moved", fun K => ga K "law"]
theorem _root_.Shh.FunF.funS {K : Shh.Fr} {x qual : Str} {st : Stmt} {f : Addr} (F : FunF K x qual st [] f) : FunS K x qual st f := by
  obtain ⟨oc, od, doc, pm, an, ct, osl, lk, hcd⟩ := F.ex
  exact ⟨oc, od, doc, pm, an, _, ct, osl, lk, hcd⟩
theorem _root_.Shh.FunF.funL {K : Shh.Fr} {x qual : Str} {st : Stmt} {f : Addr} (F : FunF K x qual st [] f) : ∃ fd, FunL K x qual st f (codeA K f) fd ∧
    (∀ ps : List Str, (∀ (kV doc pm : Value) (an : Option Addr) (cdv ct : Value) (us : List Value), us.length = ps.length → bindArgs (PySem.W.fnOf x qual (defArgs st) (defBody st) (defScope st) .none kV doc pm an cdv ct) ⟨us, []⟩ = pure (ps.zip us)) → Binds K fd ps []) ∧
    ∀ ps : List Str, (∀ (kV doc pm : Value) (an : Option Addr) (cdv ct : Value) (us : List Value), us.length = ps.length → bindArgs (PySem.W.fnOf x qual (defArgs st) (defBody st) (defScope st) .none kV doc pm an cdv ct) ⟨us, []⟩ = pure (ps.zip us)) → ∀ (s : Shared) (us : List Value), us.length = ps.length → BindsTo s fd ⟨us, []⟩ (ps.zip us) := by
  obtain ⟨oc, od, doc, pm, an, ct, osl, lk, hcd⟩ := F.ex
  exact ⟨_, ⟨oc, od, .none, doc, pm, an, ct, osl, rfl, lk, hcd⟩, fun ps h => .all (h .none doc pm an _ ct), fun ps h s us hl => .of_eq (h .none doc pm an _ ct us hl)⟩
abbrev T1 (K : Shh.Fr) : List (Addr × Str) := [(tabA K "_law_refused", qRef), (tabA K "_law_moved", qMov), (tabA K "law", qLaw)]
abbrev cs1 (K : Shh.Fr) : List (Addr × Addr) := [(codeA K (ga K "_law_refused"), tabA K "_law_refused"), (codeA K (ga K "_law_moved"), tabA K "_law_moved"), (codeA K (ga K "law"), tabA K "law")]
theorem facts1 {P : Program} {w : World} {K : Shh.Fr} {h : Heap} {mg : Str → Option Value} (X : K.In h) (G : h.Ns mainGlobals mg) (c : SaysS fa1 fn1 tf1 h K) (hf : P.main.file = "/claim/cut.py") (hs : (P.main.scope.names.lookup ("super" : Str)).isSome = false) :
    ∃ fd : FuncData, (∀ (s : Shared) (v : Value), BindsTo s fd ⟨[v], []⟩ [("_law_script", v)]) ∧ ∀ base : Heap, (∀ p ∈ cs1 K, LamX.TabB base mg p.1 p.2) → FnOk P w K mg base (L2.CX P w) 13 (ga K "law") fd ["_law_script"] (spLaw K (T1 K)) := by
  have B := blt_ok X G (c.fact 1)
  have g : ∀ x, x ∈ gloNames → mg x = some (.ref (ga K x)) := fun x hx => gloB_ok X G (c.fact 0) hx
  have kp : ∀ x, x ∈ keepNames → PySem.W.keepIn K (.ref (ga K x)) = true := fun x hx => keepB_ok (c.fact 2) hx
  obtain ⟨t8, g8⟩ := int_ok X G (x := "LONGEST_NAME") (i := 8) (c.fact 3)
  obtain ⟨t9, g9⟩ := int_ok X G (x := "LAST_TICK") (i := 1000000000) (c.fact 4)
  have EI := errB_ok (K := K) (file := "/claim/cut.py") (x := "InvalidStay") (fld := "index") (c.fact 5)
  have EU := errB_ok (K := K) (file := "/claim/cut.py") (x := "UnknownGuest") (fld := "name") (c.fact 6)
  have gI := g "InvalidStay" (by simp)
  have gU := g "UnknownGuest" (by simp)
  have gT := g "InvalidTick" (by simp)
  have ET := ernB_ok (K := K) gT (c.fact 7)
  have x1 : exmB K "InvalidTick" "InvalidStay" false = true := c.fact 8
  have x2 : exmB K "UnknownGuest" "InvalidStay" false = true := c.fact 9
  have x3 : exmB K "UnknownGuest" "InvalidTick" false = true := c.fact 10
  have PF := partyB_ok (K := K) (g "Party" (by simp)) (c.fact 11)
  have dA : (dunNames.all fun m => dunB K (ga K "Party") m) = true := c.fact 12
  have d : ∀ m, m ∈ dunNames → DunF K (ga K "Party") m := fun m hm => dunB_ok (List.all_eq_true.mp dA m hm)
  have pS := propB_ok (K := K) (C := ga K "Party") (m := "stays") (c.fact 13)
  have pN := propB_ok (K := K) (C := ga K "Party") (m := "names") (c.fact 14)
  have oS := opB_ok (K := K) (C := ga K "Party") (op := "__sub__") (rop := "__rsub__") (T := "str") (c.fact 15)
  have oR := opB_ok (K := K) (C := ga K "Party") (op := "__rshift__") (rop := "__rrshift__") (T := "int") (c.fact 16)
  have tA : (decide (tabA K "_law_refused" ≠ tabA K "_law_moved") && (decide (tabA K "_law_refused" ≠ tabA K "law") && decide (tabA K "_law_moved" ≠ tabA K "law"))) = true := c.fact 17
  obtain ⟨n1, n23⟩ := ba tA
  obtain ⟨n2, n3⟩ := ba n23
  have n1 := of_decide_eq_true n1
  have n2 := of_decide_eq_true n2
  have n3 := of_decide_eq_true n3
  have M := (d "__init__" (by simp)).mkr PF.makes PF.kp
  have ECI : ErrC P K mg "InvalidStay" "index" nfInv (aInv K) := errC_inv EI (c.def_ 18 (d := dnErr "InvalidStay" "InvalidStay.__init__" sInvInit)) hf B.sup hs gI
  have ECU : ErrC P K mg "UnknownGuest" "name" nfUnk (aUnk K) := errC_unk EU (c.def_ 19 (d := dnErr "UnknownGuest" "UnknownGuest.__init__" sUnkInit)) hf B.sup hs gU
  obtain ⟨fd_0, F_0, b_0, _⟩ := FunF.funW (c.def_ 0 (d := dn "is_name" sIsName)) (kp "is_name" (by simp))
  have b_0 := b_0 ["word"] (fun _ _ _ _ _ _ us hl => match us, hl with | [_], _ => rfl)
  have m_0 := g "is_name" (by simp)
  have k_0 := kp "is_name" (by simp)
  obtain ⟨fd_1, F_1, b_1, _⟩ := FunF.funW (c.def_ 1 (d := dn "is_within" sIsWithin)) (kp "is_within" (by simp))
  have b_1 := b_1 ["number", "low", "high"] (fun _ _ _ _ _ _ us hl => match us, hl with | [_, _, _], _ => rfl)
  have m_1 := g "is_within" (by simp)
  have k_1 := kp "is_within" (by simp)
  obtain ⟨fd_2, F_2, b_2, _⟩ := FunF.funW (c.def_ 2 (d := dn "is_tick" sIsTick)) (kp "is_tick" (by simp))
  have b_2 := b_2 ["number"] (fun _ _ _ _ _ _ us hl => match us, hl with | [_], _ => rfl)
  have m_2 := g "is_tick" (by simp)
  have k_2 := kp "is_tick" (by simp)
  obtain ⟨fd_3, F_3, b_3, _⟩ := FunF.funW (c.def_ 3 (d := dn "is_stay" sIsStay)) (kp "is_stay" (by simp))
  have b_3 := b_3 ["name", "come", "go"] (fun _ _ _ _ _ _ us hl => match us, hl with | [_, _, _], _ => rfl)
  have m_3 := g "is_stay" (by simp)
  have k_3 := kp "is_stay" (by simp)
  obtain ⟨fd_4, F_4, b_4, _⟩ := FunF.funW (c.def_ 4 (d := dn "lifted_from" sLiftedFrom)) (kp "lifted_from" (by simp))
  have b_4 := b_4 ["stays", "taker"] (fun _ _ _ _ _ _ us hl => match us, hl with | [_, _], _ => rfl)
  have m_4 := g "lifted_from" (by simp)
  have k_4 := kp "lifted_from" (by simp)
  obtain ⟨fd_5, F_5, b_5, _⟩ := FunF.funW (c.def_ 5 (d := dn "_check_stays" sCheck)) (kp "_check_stays" (by simp))
  have b_5 := b_5 ["stays", "most"] (fun _ _ _ _ _ _ us hl => match us, hl with | [_, _], _ => rfl)
  have m_5 := g "_check_stays" (by simp)
  have k_5 := kp "_check_stays" (by simp)
  obtain ⟨fd_6, F_6, b_6, _⟩ := FunF.funW (c.def_ 6 (d := dn "change_without" sChange)) (kp "change_without" (by simp))
  have b_6 := b_6 ["party", "name"] (fun _ _ _ _ _ _ us hl => match us, hl with | [_, _], _ => rfl)
  have m_6 := g "change_without" (by simp)
  have k_6 := kp "change_without" (by simp)
  obtain ⟨fd_7, F_7, b_7, _⟩ := FunF.funW (c.def_ 7 (d := dn "_law_start" sStart)) (kp "_law_start" (by simp))
  have b_7 := b_7 ["_law_script"] (fun _ _ _ _ _ _ us hl => match us, hl with | [_], _ => rfl)
  have m_7 := g "_law_start" (by simp)
  have k_7 := kp "_law_start" (by simp)
  obtain ⟨fd_8, F_8, b_8, _⟩ := FunF.funW (c.def_ 8 (d := dn "_law_drawn" sDrawn)) (kp "_law_drawn" (by simp))
  have b_8 := b_8 ["_law_state", "_law_count"] (fun _ _ _ _ _ _ us hl => match us, hl with | [_, _], _ => rfl)
  have m_8 := g "_law_drawn" (by simp)
  have k_8 := kp "_law_drawn" (by simp)
  obtain ⟨fd_9, F_9, b_9, _⟩ := FunF.funW (c.def_ 9 (d := dn "_law_same" sSame)) (kp "_law_same" (by simp))
  have b_9 := b_9 ["_law_result", "_law_expected"] (fun _ _ _ _ _ _ us hl => match us, hl with | [_, _], _ => rfl)
  have m_9 := g "_law_same" (by simp)
  have k_9 := kp "_law_same" (by simp)
  obtain ⟨fd_10, F_10, b_10, _⟩ := FunF.funW (c.def_ 10 (d := dn "_law_outcome" sOut)) (kp "_law_outcome" (by simp))
  have b_10 := b_10 ["_law_work"] (fun _ _ _ _ _ _ us hl => match us, hl with | [_], _ => rfl)
  have m_10 := g "_law_outcome" (by simp)
  have k_10 := kp "_law_outcome" (by simp)
  obtain ⟨fd_11, F_11, b_11, _⟩ := FunF.funW (c.def_ 11 (d := dn "_law_rows" sRows)) (kp "_law_rows" (by simp))
  have b_11 := b_11 ["_law_state", "_law_most", "_law_high"] (fun _ _ _ _ _ _ us hl => match us, hl with | [_, _, _], _ => rfl)
  have m_11 := g "_law_rows" (by simp)
  have k_11 := kp "_law_rows" (by simp)
  obtain ⟨fd_12, F_12, b_12, _⟩ := FunF.funW (c.def_ 12 (d := dn "_law_party" sLawParty)) (kp "_law_party" (by simp))
  have b_12 := b_12 ["_law_rows_here"] (fun _ _ _ _ _ _ us hl => match us, hl with | [_], _ => rfl)
  have m_12 := g "_law_party" (by simp)
  have k_12 := kp "_law_party" (by simp)
  obtain ⟨fd_13, F_13, b_13, _⟩ := FunF.funW (c.def_ 13 (d := dn "_law_bad_stay" sBadStay)) (kp "_law_bad_stay" (by simp))
  have b_13 := b_13 ["_law_state", "_law_rows_here"] (fun _ _ _ _ _ _ us hl => match us, hl with | [_, _], _ => rfl)
  have m_13 := g "_law_bad_stay" (by simp)
  have k_13 := kp "_law_bad_stay" (by simp)
  obtain ⟨fd_14, F_14, b_14, _⟩ := FunF.funW (c.def_ 14 (d := dn "_law_first_bad" sFirstBad)) (kp "_law_first_bad" (by simp))
  have b_14 := b_14 ["_law_stays"] (fun _ _ _ _ _ _ us hl => match us, hl with | [_], _ => rfl)
  have m_14 := g "_law_first_bad" (by simp)
  have k_14 := kp "_law_first_bad" (by simp)
  have kk_21 : PySem.W.keepIn K (.ref (getA K (ga K "Party") "stays")) = true := c.fact 18
  obtain ⟨fd_21, F_21, b_21, _⟩ := FunF.funW (c.def_ 21 (d := dp "stays" "Party.stays" sPStays)) kk_21
  have b_21 := b_21 ["self"] (fun _ _ _ _ _ _ us hl => match us, hl with | [_], _ => rfl)
  have kk_22 : PySem.W.keepIn K (.ref (getA K (ga K "Party") "names")) = true := c.fact 19
  obtain ⟨fd_22, F_22, b_22, _⟩ := FunF.funW (c.def_ 22 (d := dp "names" "Party.names" sPNames)) kk_22
  have b_22 := b_22 ["self"] (fun _ _ _ _ _ _ us hl => match us, hl with | [_], _ => rfl)
  obtain ⟨fd_23, F_23, b_23, _⟩ := FunF.funW (c.def_ 23 (d := dm "_stay_of" "Party._stay_of" sPStayOf)) (d "_stay_of" (by simp)).kp
  have b_23 := b_23 ["self", "name"] (fun _ _ _ _ _ _ us hl => match us, hl with | [_, _], _ => rfl)
  obtain ⟨fd_24, F_24, b_24, _⟩ := FunF.funW (c.def_ 24 (d := dm "__len__" "Party.__len__" sPLen)) (d "__len__" (by simp)).kp
  have b_24 := b_24 ["self"] (fun _ _ _ _ _ _ us hl => match us, hl with | [_], _ => rfl)
  obtain ⟨fd_25, F_25, b_25, _⟩ := FunF.funW (c.def_ 25 (d := dm "__bool__" "Party.__bool__" sPBool)) (d "__bool__" (by simp)).kp
  have b_25 := b_25 ["self"] (fun _ _ _ _ _ _ us hl => match us, hl with | [_], _ => rfl)
  obtain ⟨fd_26, F_26, b_26, _⟩ := FunF.funW (c.def_ 26 (d := dm "__contains__" "Party.__contains__" sPIn)) (d "__contains__" (by simp)).kp
  have b_26 := b_26 ["self", "name"] (fun _ _ _ _ _ _ us hl => match us, hl with | [_, _], _ => rfl)
  obtain ⟨fd_27, F_27, b_27, _⟩ := FunF.funW (c.def_ 27 (d := dm "__getitem__" "Party.__getitem__" sPIx)) (d "__getitem__" (by simp)).kp
  have b_27 := b_27 ["self", "name"] (fun _ _ _ _ _ _ us hl => match us, hl with | [_, _], _ => rfl)
  obtain ⟨fd_28, F_28, b_28, _⟩ := FunF.funW (c.def_ 28 (d := dm "__eq__" "Party.__eq__" sPEq)) (d "__eq__" (by simp)).kp
  have b_28 := b_28 ["self", "other"] (fun _ _ _ _ _ _ us hl => match us, hl with | [_, _], _ => rfl)
  obtain ⟨fd_29, F_29, b_29, _⟩ := FunF.funW (c.def_ 29 (d := dm "__sub__" "Party.__sub__" sPSub)) (d "__sub__" (by simp)).kp
  have b_29 := b_29 ["self", "name"] (fun _ _ _ _ _ _ us hl => match us, hl with | [_, _], _ => rfl)
  obtain ⟨fd_30, F_30, b_30, _⟩ := FunF.funW (c.def_ 30 (d := dm "__add__" "Party.__add__" sPAdd)) (d "__add__" (by simp)).kp
  have b_30 := b_30 ["self", "other"] (fun _ _ _ _ _ _ us hl => match us, hl with | [_, _], _ => rfl)
  obtain ⟨fd_31, F_31, b_31, _⟩ := FunF.funW (c.def_ 31 (d := dm "__rshift__" "Party.__rshift__" sPShift)) (d "__rshift__" (by simp)).kp
  have b_31 := b_31 ["self", "ticks"] (fun _ _ _ _ _ _ us hl => match us, hl with | [_, _], _ => rfl)
  obtain ⟨fd_32, F_32, b_32, _⟩ := FunF.funW (c.def_ 32 (d := dm "__call__" "Party.__call__" sPCall)) (d "__call__" (by simp)).kp
  have b_32 := b_32 ["self", "name"] (fun _ _ _ _ _ _ us hl => match us, hl with | [_, _], _ => rfl)
  obtain ⟨fd_33, F_33, b_33, _⟩ := FunF.funW (c.def_ 33 (d := dm "pile_at" "Party.pile_at" sPPile)) (d "pile_at" (by simp)).kp
  have b_33 := b_33 ["self", "tick"] (fun _ _ _ _ _ _ us hl => match us, hl with | [_, _], _ => rfl)
  obtain ⟨fdR, FR, bR, _⟩ := FunF.funL (c.def_ 15 (d := dn "_law_refused" sRefused))
  have bR := bR ["_law_party_here"] (fun _ _ _ _ _ _ us hl => match us, hl with | [_], _ => rfl)
  obtain ⟨fdM, FM, bM, _⟩ := FunF.funL (c.def_ 16 (d := dn "_law_moved" sMoved))
  have bM := bM ["_law_party_here", "_law_rows_here", "_law_ticks"] (fun _ _ _ _ _ _ us hl => match us, hl with | [_, _, _], _ => rfl)
  obtain ⟨fdL, FL, _, bL⟩ := FunF.funL (c.def_ 17 (d := dn "law" sLaw))
  have EE : Errs K mg (aInv K) (ga K "InvalidTick") (aUnk K) := ⟨gI, gT, gU, EI.xf, EU.xf, EI.no, EU.no, EI.exm, of_decide_eq_true x1, ET.exm, of_decide_eq_true x2, of_decide_eq_true x3, EU.exm⟩
  refine ⟨fdL, fun s v => bL ["_law_script"] (fun _ _ _ _ _ _ us hl => match us, hl with | [_], _ => rfl) s [v] rfl, fun base hT => ?_⟩
  have TR : LamX.TabB base mg (codeA K (ga K "_law_refused")) (tabA K "_law_refused") := hT (codeA K (ga K "_law_refused"), tabA K "_law_refused") (by simp)
  have TM : LamX.TabB base mg (codeA K (ga K "_law_moved")) (tabA K "_law_moved") := hT (codeA K (ga K "_law_moved"), tabA K "_law_moved") (by simp)
  have TL : LamX.TabB base mg (codeA K (ga K "law")) (tabA K "law") := hT (codeA K (ga K "law"), tabA K "law") (by simp)
  have uR : ∀ p ∈ T1 K, p.1 = tabA K "_law_refused" → p.2 = qRef := fun p hp e => by
    rcases List.mem_cons.mp hp with rfl | hp
    · rfl
    · rcases List.mem_cons.mp hp with rfl | hp
      · exact absurd e.symm n1
      · rcases List.mem_cons.mp hp with rfl | hp
        · exact absurd e.symm n2
        · cases hp
  have uM : ∀ p ∈ T1 K, p.1 = tabA K "_law_moved" → p.2 = qMov := fun p hp e => by
    rcases List.mem_cons.mp hp with rfl | hp
    · exact absurd e n1
    · rcases List.mem_cons.mp hp with rfl | hp
      · rfl
      · rcases List.mem_cons.mp hp with rfl | hp
        · exact absurd e.symm n3
        · cases hp
  have uL : ∀ p ∈ T1 K, p.1 = tabA K "law" → p.2 = qLaw := fun p hp e => by
    rcases List.mem_cons.mp hp with rfl | hp
    · exact absurd e n2
    · rcases List.mem_cons.mp hp with rfl | hp
      · exact absurd e n3
      · rcases List.mem_cons.mp hp with rfl | hp
        · rfl
        · cases hp
  have G0 : FnOk P w K mg base CX0 1 _ _ _ _ := ok_isName F_0 B g8
  have G1 : FnOk P w K mg base CX0 1 _ _ _ _ := ok_isWithin F_1 B
  have G2 : FnOk P w K mg base CX0 2 _ _ _ _ := ok_isTick F_2 g9 G1 m_1 k_1 b_1
  have G3 : FnOk P w K mg base CX0 3 _ _ _ _ := ok_isStay F_3 G0 m_0 k_0 b_0 G2 m_2 k_2 b_2
  have G5 : FnOk P w K mg base (L2.CX P w) 4 _ _ _ _ := ok_check F_5 B ECI G3 m_3 k_3 b_3
  have GI : FnR P w K mg base (L2.CX P w) 5 _ (spPNew (ga K "Party") (aInv K)) := ok_pinit (FunF.funS (c.def_ 20 (d := dm "__init__" "Party.__init__" sPInit))) PF.pc G5 m_5 k_5 b_5
  have G21 : FnOk P w K mg base CX0 1 _ _ _ _ := ok_pstays F_21 PF.pc
  have G22 : FnOk P w K mg base CX0 1 _ _ _ _ := ok_pnames F_22 B PF.pc
  have G23 : FnOk P w K mg base (L2.CX P w) 3 _ _ _ _ := ok_stayOf F_23 PF.pc ECU
  have mS := (d "_stay_of" (by simp)).meth
  have G24 : FnOk P w K mg base CX0 1 _ _ _ _ := ok_plen F_24 B PF.pc
  have G25 : FnOk P w K mg base CX0 1 _ _ _ _ := ok_pbool F_25 B PF.pc
  have G26 : FnOk P w K mg base CX0 3 _ _ _ _ := ok_pin F_26 PF.pc G22 pN b_22
  have G27 : FnOk P w K mg base (L2.CX P w) 4 _ _ _ _ := ok_pix F_27 PF.pc G23 mS b_23
  have G28 : FnOk P w K mg base CX0 1 _ _ _ _ := ok_peq F_28 B PF.pc
  have G29 : FnOk P w K mg base (L2.CX P w) 7 _ _ _ _ := ok_psub F_29 PF.pc G23 mS b_23 M GI
  have G30 : FnOk P w K mg base (L2.CX P w) 7 _ _ _ _ := ok_padd F_30 PF.pc M GI
  have G31 : FnOk P w K mg base (L2.CX P w) 7 _ _ _ _ := ok_pshift F_31 PF.pc M GI
  have G32 : FnOk P w K mg base (L2.CX P w) 4 _ _ _ _ := ok_pcall F_32 B PF.pc G23 mS b_23 m_4 k_4 b_4
  have G33 : FnOk P w K mg base (L2.CX P w) 3 _ _ _ _ := ok_ppile (C := ga K "Party") F_33 ET G2 m_2 k_2 b_2
  have G6 : FnOk P w K mg base (L2.CX P w) 8 _ _ _ _ := ok_change F_6 PF.self oS G29 b_29
  have G7 : FnOk P w K mg base CX0 1 _ _ _ _ := ok_start F_7
  have G8 : FnOk P w K mg base CX0 1 _ _ _ _ := ok_drawn F_8 B
  have G9 := ok_same (P := P) (w := w) (base := base) F_9 B m_9 b_9
  have G11 : FnOk P w K mg base CX0 2 _ _ _ _ := ok_rows F_11 B G8 m_8 k_8 b_8
  have dAdd := d "__add__" (by simp)
  have G12 : FnOk P w K mg base (L2.CX P w) 8 _ _ _ _ := ok_party F_12 PF.pc M GI PF.self dAdd.at_ dAdd.isF G30 b_30
  have G13 : FnOk P w K mg base CX0 2 _ _ _ _ := ok_badStay F_13 G8 m_8 k_8 b_8
  have G14 : FnOk P w K mg base CX0 1 _ _ _ _ := ok_first F_14 B
  have dG := d "__getitem__" (by simp)
  have GR : FnOk P w K mg base (L2.CX P w) 11 _ _ _ _ := ok_refused (T := T1 K) FR B PF.pc EE TR (by simp) uR PF.self oS G29 b_29 G27 b_27 dG.at_ dG.fn dG.isF G32 b_32 (d "__call__" (by simp)).callO G6 m_6 k_6 b_6 G33 (d "pile_at" (by simp)).meth b_33 F_10 b_10 m_10 k_10
  have GM : FnOk P w K mg base (L2.CX P w) 10 _ _ _ _ := ok_moved (T := T1 K) FM B PF.pc EE TM (by simp) uM PF.self oR G31 b_31 G14 m_14 k_14 b_14 G21 b_21 pS F_10 b_10 m_10 k_10
  obtain ⟨uMx, cvMx⟩ := PF.mx
  have dL := d "__len__" (by simp)
  have dB := d "__bool__" (by simp)
  have dH := d "__contains__" (by simp)
  have dE := d "__eq__" (by simp)
  exact ok_law FL ⟨B, PF.pc, EE, ⟨_, _, G7, m_7, k_7, b_7⟩, ⟨_, _, G8, m_8, k_8, b_8⟩, ⟨_, _, G11, m_11, k_11, b_11⟩, ⟨_, _, G12, m_12, k_12, b_12⟩, ⟨_, _, G9, m_9, k_9, b_9⟩, ⟨_, _, G13, m_13, k_13, b_13⟩, ⟨_, _, G14, m_14, k_14, b_14⟩,
    ⟨_, _, F_10, m_10, k_10, b_10⟩, ⟨_, _, GM, g "_law_moved" (by simp), kp "_law_moved" (by simp), bM⟩, ⟨_, _, GR, g "_law_refused" (by simp), kp "_law_refused" (by simp), bR⟩, ⟨_, M, GI⟩, PF.self, ⟨_, uMx, PF.rd, cvMx⟩,
    ⟨_, _, _, G21, pS, b_21⟩, ⟨_, _, _, G22, pN, b_22⟩, ⟨_, _, G24, dL.at_, dL.isF, b_24⟩, ⟨_, _, G25, dB.at_, dB.isF, b_25⟩, ⟨_, _, G26, dH.at_, dH.isF, b_26⟩, ⟨_, _, G27, dG.at_, dG.fn, dG.isF, b_27⟩,
    ⟨_, _, G28, dE.at_, dE.isF, b_28⟩, ⟨_, _, G30, dAdd.at_, dAdd.isF, b_30⟩, ⟨_, _, G29, oS, b_29⟩⟩ TL (by simp) uL
end Sh1
set_option Elab.async false
set_option linter.all false
set_option maxRecDepth 100000
set_option maxHeartbeats 0
namespace Sh1
open PySem PySem.Spec PyProof.Rows L2 Sho He Shh
abbrev R1 : PySem.W.OpenRow := PySem.W.OpenLaw.row PySem.Challenge.rw_shoepile_k01_invalid_parties
abbrev hk1 : PySem.W.Hook := hookS 6 fa1 fn1 tf1
def ob1 (s : PySem.W.SharedT) : AlS := obsS 6 fa1 fn1 tf1 (HandSHeadRun.getT s)
theorem ob1_eq (s : PySem.W.SharedT) : ob1 s = hk1.obs s.abs := obsS_eq (HandSHeadRun.getT_eq s)
def loose1 : List Str := ["_wall", "PartyError", "InvalidStay", "UnknownGuest", "InvalidTick", "LAST_TICK", "LONGEST_NAME", "is_name", "is_within", "is_tick", "is_stay", "bottom_up", "lifted_from", "_check_stays", "Party", "change_without",
  "_law_start", "_law_drawn", "_law_same", "_law_outcome", "_law_rows", "_law_party", "_law_bad_stay", "_law_first_bad", "_law_refused", "_law_moved"]
theorem run1 (w : World) : HandSHeadRun.RunEq R1 (PySem.W.view R1.prog [30]) hk1 ob1 4000 loose1 w := by
  intro os
  kernel_rfl
theorem cases3 {α : Type} {a b c : α} (P : α → Prop) (pa : P a) (pb : P b) (pc : P c) : ∀ x ∈ [a, b, c], P x := fun x h => by
  rcases List.mem_cons.mp h with rfl | h
  · exact pa
  · rcases List.mem_cons.mp h with rfl | h
    · exact pb
    · rcases List.mem_cons.mp h with rfl | h
      · exact pc
      · cases h
theorem at1 {w : World} {K : Shh.Fr} {h : Heap} {mg : Str → Option Value} {fa : Addr} (KX : K.In h) (G : h.Ns mainGlobals mg) (c : SaysS fa1 fn1 tf1 h K) (hmg : mg "law" = some (.ref fa)) :
    LamX.LawAtS PySem.Challenge.rw_shoepile_k01_invalid_parties w K (L2.CX PySem.Challenge.rw_shoepile_k01_invalid_parties.prog w) 13 63 "_law_script" mg fa h := by
  obtain ⟨fd, hb, hF⟩ := facts1 (P := PySem.Challenge.rw_shoepile_k01_invalid_parties.prog) (w := w) KX G c rfl (by decide +kernel)
  have e : fa = ga K "law" := by
    have q := hmg.symm.trans (gloB_ok KX G (xs := gloNames) (c.fact 0) (x := "law") (by simp))
    injection q with q
    injection q
  subst e
  have t0 : (fun K => ga K "_law_refused") ∈ tf1 := List.mem_cons_self
  have t1 : (fun K => ga K "_law_moved") ∈ tf1 := List.mem_cons_of_mem _ List.mem_cons_self
  have t2 : (fun K => ga K "law") ∈ tf1 := List.mem_cons_of_mem _ (List.mem_cons_of_mem _ List.mem_cons_self)
  refine ⟨fd, cs1 K, spLaw K (T1 K), ?_, ?_, ?_, hb, fun H a ns hl _ ht hS => ?_, fun base _ _ hT => hF base hT⟩
  · exact cases3 (fun p : Addr × Addr => h.get? p.2 = some { cls := .none, data := .fields #[] }) (c.empty _ t0) (c.empty _ t1) (c.empty _ t2)
  · exact cases3 (fun p : Addr × Addr => K.lookup p.2 = none) (c.out _ t0) (c.out _ t1) (c.out _ t2)
  · exact cases3 (fun p : Addr × Addr => PySem.W.CodeHd h p.1 p.2) (PySem.W.codeHd_of_K KX (c.hd _ t0)) (PySem.W.codeHd_of_K KX (c.hd _ t1)) (PySem.W.codeHd_of_K KX (c.hd _ t2))
  · refine ⟨a, ns, rfl, hS, hl, ?_, fun _ => rfl⟩
    exact cases3 (fun p : Addr × Str => LamX.TabS H p.1 p.2) (LamX.TabS.nil (ht _ List.mem_cons_self)) (LamX.TabS.nil (ht _ (List.mem_cons_of_mem _ List.mem_cons_self))) (LamX.TabS.nil (ht _ (List.mem_cons_of_mem _ (List.mem_cons_of_mem _ List.mem_cons_self))))
end Sh1
open PySem PySem.W PySem.Calls PyProof.Rows
theorem PySem.Challenge.cw_shoepile_k01_invalid_parties_holds : PySem.Challenge.rw_shoepile_k01_invalid_parties.Holds := by
  w_on; o_law
  refine HandSHeadRun.head_any (r := OpenLaw.row PySem.Challenge.rw_shoepile_k01_invalid_parties) (q := view (OpenLaw.row PySem.Challenge.rw_shoepile_k01_invalid_parties).prog [30]) (H := Sh1.hk1) (ob := Sh1.ob1) (M := 4000) (loose := Sh1.loose1) (d := HandSHeadRun.topDef (OpenLaw.row PySem.Challenge.rw_shoepile_k01_invalid_parties).prog 30) (kwd := []) Sh1.ob1_eq
    (by kernel_rfl) (fun s => by kernel_rfl) Sh1.run1 (by kernel_rfl) (by kernel_rfl) (by kernel_rfl) (by rfl) (by first | assumption | decide +kernel) (by decide +kernel) ⟨rfl, rfl, rfl, rfl, rfl, by decide +kernel⟩ ?hw ?hc
  case hw => w_witness2
  case hc =>
    refine LamX.walk_ofTsE (l := PySem.Challenge.rw_shoepile_k01_invalid_parties) (n := 63) (k := 13) (x := "_law_script") (CX := fun w => L2.CX PySem.Challenge.rw_shoepile_k01_invalid_parties.prog w) rfl (by decide) (by kernel_rfl) ⟨rfl, by decide, by decide⟩ ?F ?hCX
    case hCX =>
      rintro w H s e s' ⟨a, B, H', cls, d, _, _, _, _, _, _, _, z⟩
      exact z
    case F =>
      intro w mg fa h Y G hmg0
      obtain ⟨K, KX, c⟩ := Y
      have hmg : mg ("law" : PySem.Str) = some (.ref fa) := by
        have e : (HandSHeadRun.topDef (OpenLaw.row PySem.Challenge.rw_shoepile_k01_invalid_parties).prog 30).name = ("law" : PySem.Str) := by kernel_rfl
        rw [← e]
        exact hmg0
      exact ⟨K, KX, Sh1.at1 KX G c hmg⟩
