import PyProof.Rows.All
import Wide.All
import OpenK.AllK
import Wide.FinOn
import KE.KStateDown
import HandS.ForExc
import HandS.Defaults
import HandS.Head0
import HandS.Head1
import HandS.Head2
import HandS.HeadHook1
import HandS.HeadHook2
import HandS.HeadHook3
import HandS.HeadHook4
import HandS.HeadNt
import HandS.HeadWalk
import HandS.EndTab
import HandS.Star
import HandS.Property
import HandS.ExcField
import KE.KExcLine
import KE.KSuper
import HandS.ForMost
import HandS.FStr
import HandS.ExcInit
import HandS.ExcOwn
import HandS.Nested
import HandS.MakeKwOnly
import HandS.Walk
import HandS.More
import HandS.Lambda
import HandS.TryMany
import HandS.TupAny
import HandS.IsInst
import HandS.ClsMeth
import HandS.DeepEq
import HandS.Words
import KE.KExcIs
import HandS.SetFor
import HandS.ExcIs
import HandS.RaiseMore
import KE.GoesMore
import PyProof.EnumMake
import PyProof.EnumFor
import PyProof.Draws
import HandS.Small
import KE.KTupTruth
import OpenK.KOps
import HandS.Deep
import PySem.Challenge.RW_shoepile_k48_whole_codes_of_parties
set_option Elab.async false
set_option linter.all false
set_option maxRecDepth 100000
set_option maxHeartbeats 4000000
/-! Own errors over ValueError: made with keywords, their __init__ with super(). -/
namespace ShX
open PySem PySem.W PySem.HandSPX
open Builtin Builtin.ObjectAttr
section
variable {M : Model} {prog : Program} {w : World} {A : Around} {E : Value → Shared → Prop} {R : Result → Shared → Prop}
variable {h : Heap} {g : Array GenState} {d : Drawn} {t : Nat} {os : OsState}
variable {nm q : Str} {C N : Addr} {bs bm bmB : List Value} {hdct : Bool} {sn : List Str} {sub : List Value} {ab : Bool} {col : Option Bool} {dd : Option Addr} {k0 k1 k2 k3 k5 : Option Value} {B newId initId : String}

theorem chk_new (F : ExcBaseFacts B newId initId bmB) (hT : ∀ X : String, bm.contains (.type X) = bmB.contains (.type X)) {kw : List (Str × Value)} {Q : Unit → Shared → Prop}
    (hC : h.get? C = some (excClassObj nm q C N bs bm hdct sn sub ab col dd k0 k1 k2 k3 k5 newId)) (hq : Q () ⟨h, g, d, t, os⟩) :
    wpAny M A (checkBuiltinCall newId ⟨[.ref C], kw⟩) Q E ⟨h, g, d, t, os⟩ := by
  have has : (Value.ref C :: bm).contains (.type B) = true := by rw [List.contains_cons, hT, F.hasB, Bool.or_true]
  have star := F.noStar
  simp only [checkBuiltinCall, F.newKind, F.newSplit, F.newRow]
  repeat (first
    | refine wpAny_loadPart_at hC ?_
    | (refine wpAny_isSubtype_exc hC ?_; rw [has])
    | refine wpAny_staticBase_exc hC ?_
    | refine wpAny_madeBy_exc hC ?_
    | simp only [bne_self_eq_false, Bool.false_eq_true, if_false]
    | wp_step)
  exact hq

/-- the new object: its args are none, the keywords go to __init__ alone -/
theorem new_kw (F : ExcBaseFacts B newId initId bmB) (hT : ∀ X : String, bm.contains (.type X) = bmB.contains (.type X)) {kw : List (Str × Value)}
    (hC : h.get? C = some (excClassObj nm q C N bs bm hdct sn sub ab col dd k0 k1 k2 k3 k5 newId))
    (hq : R (.ok (.ret (.ref (h.objs.size + 1)))) ⟨(h.push (kdv_tup [])).push (excO C h.objs.size), g, d, t, os⟩) :
    codeAny (model prog w) A (.builtin newId ⟨[.ref C], kw⟩) R ⟨h, g, d, t, os⟩ := by
  have ends := F.ends
  have has : ∀ Y : String, (Value.ref C :: bm).contains (.type Y) = bmB.contains (.type Y) := fun Y => by rw [List.contains_cons, hT]; rfl
  have yes : (Value.ref C :: bm).contains (.type B) = true := (has _).trans F.hasB
  have no1 : (Value.ref C :: bm).contains (.type "AttributeError") = false := (has _).trans F.noAttr
  have no2 : (Value.ref C :: bm).contains (.type "NameError") = false := (has _).trans F.noName
  refine codeAny_builtinAt F.entry ?_
  unfold Builtin.«BaseException.__new__»
  refine wpAt_bind ?_
  show wpAt _ _ _ (stack >>= _) _ _ _
  refine wpAt_bind (wpAt_stack fun p below => wpAt_of_wpAny ?_)
  wp_walk
  refine wpAt_of_wpAny ?_
  rw [F.owner]
  repeat (first
    | with_reducible refine wpAny_madeHere_exc F.canon hC ?_
    | with_reducible refine wpAny_loadPart_at hC ?_
    | (with_reducible refine wpAny_isSubtype_exc hC ?_; first | rw [yes] | rw [no1] | rw [no2])
    | wp_step)
  show R _ _
  rw [Heap.size_push]
  exact hq

theorem tcall_kw (F : ExcBaseFacts B newId initId bmB) (hT : ∀ X : String, bm.contains (.type X) = bmB.contains (.type X)) {kw : List (Str × Value)} {fI : Addr} {Q : Fin → Shared → Prop}
    (hC : h.get? C = some (excClassObj nm q C N bs bm hdct sn sub ab col dd k0 k1 k2 k3 k5 newId))
    (hi : Looks (model prog w) h (typeLookup (.ref C) "__init__") (some (.ref fI))) (hb : ∀ self, Looks (model prog w) h (bindSpecial (.ref fI) self) (.ref fI, [self]))
    (hq : codeAny (model prog w) A (.call (.ref fI) ⟨[.ref (h.objs.size + 1)], kw⟩)
      (fun r s' => match r with
        | .ok (.ret v) => v = .none ∧ Q (.done (.ret (.ref (h.objs.size + 1)))) s'
        | .ok _ => False
        | .error e => E e s')
      ⟨(h.push (kdv_tup [])).push (excO C h.objs.size), g, d, t, os⟩) :
    wpAny (model prog w) A (Builtin.«type.__call__» ⟨[.ref C], kw⟩) Q E ⟨h, g, d, t, os⟩ := by
  repeat (first | with_reducible refine wpAny_loadPart_at hC ?_ | with_reducible refine wpAny_madeBy_exc hC ?_ | wp_step)
  refine codeAny_call_builtin_code (Code.quiet_builtin _ F.quiet) (chk_new F hT hC ?_)
  refine new_kw F hT hC ?_
  show wpAny _ _ _ _ _ _
  have kp : ∀ b o, h.get? b = some o → ((h.push (kdv_tup [])).push (excO C h.objs.size)).get? b = some o := fun b o e => Heap.get?_push_of_some _ (Heap.get?_push_of_some _ e)
  have cls1 := kp _ _ hC
  have new1 : ((h.push (kdv_tup [])).push (excO C h.objs.size)).get? (h.objs.size + 1) = some (excO C h.objs.size) := by heap_get
  have self1 : (Value.ref C :: bm).contains (.ref C) = true := by simp
  have look1 := hi.keeps kp
  have bind1 := (hb (.ref (h.objs.size + 1))).keeps kp
  unfold isInstance
  repeat (first | with_reducible refine wpAny_loadPart_at new1 ?_ | (with_reducible refine wpAny_isSubtype_exc cls1 ?_; rw [self1]) | wp_step)
  show wpAny _ _ (typeLookup (.ref C) _) _ _ _
  refine look1.at ?_
  refine wpAny_holding (wpAny_bind (bind1.at ?_))
  refine wpAny_bind (wpAny_call (codeAny_mono hq fun r s' z => ?_))
  rcases r with e | (v | _ | _ | _) <;> first | exact z | exact z.elim | skip
  obtain ⟨rfl, z⟩ := z
  first
    | exact wpAny_pure (wpAny_pure z)
    | (wp_walk; exact z)

theorem chk_tcall {kw : List (Str × Value)} {Q : Unit → Shared → Prop} (hC : h.get? C = some (excClassObj nm q C N bs bm hdct sn sub ab col dd k0 k1 k2 k3 k5 newId))
    (hq : Q () ⟨h, g, d, t, os⟩) : wpAny M A (checkBuiltinCall "type.__call__" ⟨[.ref C], kw⟩) Q E ⟨h, g, d, t, os⟩ := by
  have f3 := tc_sub
  have hT : (⟨h, g, d, t, os⟩ : Shared).TypeIs (.ref C) "type" := ⟨_, hC, rfl⟩
  simp only [checkBuiltinCall, tc_kind, tc_split]
  repeat (any_goals (first | assumption | with_reducible refine wpAny_loadPart_at hC ?_ | with_reducible refine wpAny_onRaise ?_ | with_reducible refine wpAny_map ?_ | wp_step))

theorem call_kw (F : ExcBaseFacts B newId initId bmB) (hT : ∀ X : String, bm.contains (.type X) = bmB.contains (.type X)) {kw : List (Str × Value)} {fI : Addr}
    (hC : h.get? C = some (excClassObj nm q C N bs bm hdct sn sub ab col dd k0 k1 k2 k3 k5 newId))
    (hi : Looks (model prog w) h (typeLookup (.ref C) "__init__") (some (.ref fI))) (hb : ∀ self, Looks (model prog w) h (bindSpecial (.ref fI) self) (.ref fI, [self]))
    (hq : codeAny (model prog w) (A.under (.builtin "type.__call__" ⟨[.ref C], kw⟩)) (.call (.ref fI) ⟨[.ref (h.objs.size + 1)], kw⟩) (InitBack (h.objs.size + 1) R)
      ⟨(h.push (kdv_tup [])).push (excO C h.objs.size), g, d, t, os⟩) :
    codeAny (model prog w) A (.call (.ref C) ⟨[], kw⟩) R ⟨h, g, d, t, os⟩ := by
  have f1 := tc_lookup
  have f2 := tc_bind (.ref C)
  have hTy : (⟨h, g, d, t, os⟩ : Shared).TypeIs (.ref C) "type" := ⟨_, hC, rfl⟩
  refine codeAny_of_tree ?_
  show wpAny _ _ (callAny (.ref C) _) _ _ _
  repeat (any_goals (first | assumption | with_reducible refine wpAny_loadPart_at hC ?_ | wp_step))
  refine ⟨rfl, ?_⟩
  refine codeAny_call_builtin_at (Code.quiet_builtin _ (by decide +kernel)) entry_typeCall (chk_tcall hC (tcall_kw F hT hC hi hb ?_))
  refine codeAny_mono hq fun r s' z => ?_
  rcases r with e | (v | _ | _ | _) <;> exact z
end
end ShX

namespace ShX
open PySem PySem.W PySem.Calls PyProof.Rows PySem.HandSPX
section
variable {prog : Program} {w : World} {A : Around} {E : Value → Shared → Prop} {h : Heap} {g : Array GenState} {d : Drawn} {t : Nat} {os : OsState}
variable {nm q : Str} {C N : Addr} {bs bm : List Value} {hdct : Bool} {sn : List Str} {sub : List Value} {ab : Bool} {col : Option Bool} {dd : Option Addr} {k0 k1 k2 k3 k5 : Option Value}
abbrev veI : String := "ValueError.__init__"
/-- ValueError's __init__, bound to the exception at e, called -/
theorem call_mw {u e t0 : Addr} {rest : List Value} {Q : Value → Shared → Prop}
    (hC : h.get? C = some (excClassObj nm q C N bs bm hdct sn sub ab col dd k0 k1 k2 k3 k5 "ValueError.__new__")) (he : h.get? e = some (excO C t0))
    (hu : h.get? u = some (kxs_mw veI e)) (hz : rest.length ≤ sizeLine)
    (hq : ∀ h' t1, (∀ b o, b ≠ e → h.get? b = some o → h'.get? b = some o) → h'.get? e = some (excO C t1) → Q .none ⟨h', g, d, t, os⟩) :
    wpAny (model prog w) A (call (.ref u) rest) Q E ⟨h, g, d, t, os⟩ := by
  refine wpAny_call (codeAny_of_tree ?_)
  show wpAny _ A.in1 (callAny (.ref u) ⟨rest, []⟩) _ _ _
  simp only [callAny]
  refine wpAny_bind (wpAny_load hu ?_)
  have yes : (Value.type "method-wrapper" == Value.type "method" || Value.type "method-wrapper" == Value.type "builtin_function_or_method" || Value.type "method-wrapper" == Value.type "method-wrapper") = true := by decide
  simp only [kxs_mw, yes, if_true]
  refine KFB.if_so (by decide) ?_
  refine wpAny_bind (check_bound_init F.excBase_ValueError.toExcCallFacts hC he rfl ?_)
  refine wpAny_bind (wpAny_pure (wpAny_pure ?_))
  refine ⟨plainId_quiet F.excBase_ValueError.init.plain _, codeAny_builtin F.excBase_ValueError.initEntry ?_⟩
  exact exc_init_tree (cls := .ref C) (t0 := t0) (dv := none) (c2 := .none) (c3 := .none) (b4 := .bool false) he hz fun h' k e' _ => hq h' _ k e'
end
end ShX
set_option Elab.async false
set_option linter.all false
set_option maxRecDepth 100000
set_option maxHeartbeats 4000000

namespace Sho
open PySem PySem.Spec PyProof.Rows L2 NdefX
/-- what the written part says of an own error's __init__ at f that says super() -/
structure SupTxt (P : Program) (K : PySem.W.Frag) (mg : Str → Option Value) (F : NF) (f cc D : Addr) : Prop where
  fn : ∃ (oc : Value) (od : Option Addr) (doc pm : Value) (an : Option Addr) (ct : Value) (osl : Array (Option Value)),
    K.lookup f = some ⟨oc, od, .func (PySem.W.ksFn F.name F.qual F.params F.body F.scope .none .none doc pm an (.ref F.c) ct cc), osl⟩
  cd : PySem.W.codeIn K (.ref F.c) F.qual = true
  cell : ∃ (cl : Value) (cld : Option Addr) (csl : Array (Option Value)), K.lookup cc = some ⟨cl, cld, .cell (some (.ref D)), csl⟩
  cls : F.cl = [(("__class__" : Str), cc)]
  file : ∃ (oc : Value) (od : Option Addr) (vs : Array Value) (sl : Array (Option Value)) (fl : Str) (tf : Tok), K.lookup F.c = some ⟨oc, od, .fields vs, sl⟩ ∧ vs[2]? = some (.str fl tf) ∧ ((P.main.file : Str) == fl) = true
  first : ∃ ar : Arg, (F.params.posonlyargs ++ F.params.args).head? = some ar ∧ ar.arg = ("self" : Str)
  sup : mg "super" = none
  top : (P.main.scope.names.lookup ("super" : Str)).isSome = false
  ks : F.scope.names.lookup ("super" : Str) = some .globalImplicit
  kc : F.scope.names.lookup ("__class__" : Str) = some .free
  kse : F.scope.names.lookup ("self" : Str) = some .local
  isD : PySem.W.isClsIn K D = true
  opq : PySem.W.nsIn K cStatics "thirdparty.any" = some none
/-- the context's class: C's __init__ from D on is ValueError's -/
structure SupCls (K : PySem.W.Frag) (C D : Addr) : Prop where
  o : OexC K C
  sub : PySem.W.mroIn K C (.ref D) = some true
  nxt : PySem.W.ks_superIn K C D "__init__" = some (some (.builtin ShX.veI))
  ve : PySem.W.subIn K (.ref C) (.type "ValueError") = some true
section
variable {X : Cx} {pins : List (Addr × Obj)} {σ : L2.St} {H : Hp} {s : Shared} {F : NF} {f cc D a C : Addr}
theorem cls_at {K : PySem.W.Frag} {h : Heap} {D : Addr} (X : K.In h) (i : PySem.W.isClsIn K D = true) : ∃ (o : Obj) (cd : ClassData), h.get? D = some o ∧ o.data = .cls cd ∧ PySem.W.clsIn K D = some cd := by
  have i2 : (PySem.W.clsIn K D).isSome = true := i
  cases e : PySem.W.clsIn K D with
  | none =>
    rw [e] at i2
    cases i2
  | some cd =>
    have e0 := e
    unfold PySem.W.clsIn at e
    split at e
    · rename_i c d cd' sl ho
      cases e
      exact ⟨_, _, X _ _ ho, rfl, rfl⟩
    · cases e
/-- super().__init__(e), the exception at a being made -/
theorem sup_stmt {pl : Sem Bool} {R : Hp → Prop} {body : List Stmt} {e : Expr} {te : TA} {p0 p1 p2 p3 p4 : Pos} {Qf : PySem.Flow → Shared → Prop} {Ex : Value → Shared → Prop} (T : SupTxt X.prog X.K X.mg F f cc D) (V : SupCls X.K C D)
    (hX : X.env = envF F f X.env.locals) (I : Inv X pins σ H s) (hi : X.N[0]? = some ("self" : Str)) (hv : σ[0]? = some (some (.ref a))) (ha : H a = some (exo a C none))
    (he : PA X [e] te) (hxe : ∀ v s', X.xe v s' → Ex v s') (hq : te σ H fun xs H1 => xs.length ≤ 1000 ∧ H1 a = some (exo a C none) ∧ R H1) (hR : ∀ H1 s', Inv X pins σ H1 s' → R H1 → Qf .next s')
    (hce : eval (.Call (.Attribute (.Call (.Name "super" p0) [] [] p1) "__init__" p2) [e] [] p3) X.env = (do
      let ov ← attributeBase (.Call (.Name "super" p0) [] [] p1) "__init__" X.env (eval (.Call (.Name "super" p0) [] [] p1) X.env)
      standAt p2.atName
      let (fx, first) ← holding [ov] (getMethod ov "__init__" pl)
      callWith p3 fx first (backTo p3 (starEach [e] X.env)) []))
    (hst : starEach [e] X.env = (false, eval e X.env) :: starEach [] X.env) :
    PySem.wpAt (model X.prog X.w) X.A (.func body X.env) (exec (.Expr (.Call (.Attribute (.Call (.Name "super" p0) [] [] p1) "__init__" p2) [e] [] p3) p4) X.env) Qf Ex s := by
  obtain ⟨fc, fod, doc, pm, an, ct, osl, hf⟩ := T.fn
  obtain ⟨cl, cld, csl, hcell⟩ := T.cell
  obtain ⟨oc, od, vs, sl, fl, tf, hcode, hvs, hfile⟩ := T.file
  obtain ⟨ar, hfirst, har⟩ := T.first
  obtain ⟨oD, cdD, hD1, hD2, _⟩ := cls_at I.kIn T.isD
  obtain ⟨t0, hx⟩ := exo_at I.hok ha
  obtain ⟨nm, q, N, bs, bm, sn, sub, ab, col, dd, k0, k1, k2, k3, k5, hC, hbm⟩ := V.o.cls
  have hclC : PySem.W.clsIn X.K C = some { name := nm, bases := bs, mro := .ref C :: bm, ns := N, qualname := q, hasDict := true, slotNames := sn, subclasses := sub, abstract := ab, collection := col, hasDel := false } := by unfold PySem.W.clsIn; rw [hC] <;> rfl
  have IA : PySem.W.InstAt s.heap a ({ cls := .ref C, data := .fields #[.ref t0, .none, .none, .none, .bool false, .none] } : Obj) C none := ⟨hx, rfl, rfl, True.intro⟩
  have kD : X.env.kindOf ("self" : Str) = some .local := by rw [hX]; exact T.kse
  have selfv : ∃ m, s.heap.Ns X.env.locals m ∧ m ("self" : Str) = some (.ref a) := by
    obtain ⟨m, hm, hl⟩ := I.loc
    obtain ⟨u, ru, lk⟩ := hl 0 _ _ hi hv (.inl (by have := kD; rw [hX] at this; rw [hX]; exact this))
    obtain rfl : u = Value.ref a := ru
    rcases lk with ⟨_, e⟩ | ⟨e, _⟩
    · exact ⟨m, hm, e⟩
    · rw [kD] at e
      rcases e with e | e <;> cases e
  obtain ⟨m, hm, hself⟩ := selfv
  obtain ⟨mb, hb1, hb2⟩ := I.mod.blt
  have ek : X.env.scope.kind = .function := I.ok.kind
  have e1 : X.env.kindOf ("super" : Str) = some .globalImplicit := by rw [hX]; exact T.ks
  have e2 : X.env.kindOf ("__class__" : Str) = some .free := by rw [hX]; exact T.kc
  have e3 : X.env.cells.lookup ("__class__" : Str) = some cc := by
    rw [hX]
    show F.cl.lookup _ = _
    rw [T.cls]
    rfl
  refine ks_wpAt_Expr_any ?_ (I.quiet) (by rfl)
  refine ks_wpAt_MethodCall ?_ hce
  refine ks_wpAt_super_base (prog := X.prog) (w := X.w) (f := f) (cc := F.c) e1 e2 (by rfl) (by rw [hX]) (I.kIn _ _ hf) rfl hfirst (by rw [hX]) (I.kIn _ _ hcode) rfl hvs hfile T.top ?_
  refine PySem.W.ks_loadName_global ek e1 (PySem.Calls.loadGlobal_builtin (by rw [I.ok.glob]; exact I.mod.glob.keeps I.bk) T.sup (by rw [I.ok.blt]; exact hb1.keeps I.bk) ((hb2 _ (by decide)).trans (by decide +kernel)) ⟨rfl, ?_⟩)
  refine wpAny_loadName_free ek e2 e3 ⟨_, I.kIn _ _ hcell, rfl⟩ ?_
  rw [har]
  refine wpAny_loadName_local ek kD hm hself ?_
  refine ks_wpAny_isType_cls hD1 hD2 ⟨rfl, ?_⟩
  obtain ⟨hp, g, d, tk, os⟩ := s
  refine ks_wpAny_call_super hD1 hD2 hx rfl (fun c z => by cases z) (PySem.W.looks_mroIn I.kIn V.sub) fun h1 so1 kp1 => ?_
  have I1 : Inv X pins σ H ⟨h1, g, d, tk, os⟩ := I.kept (t' := tk) kp1
  have nx := V.nxt
  unfold PySem.W.ks_superIn at nx
  rw [hclC] at nx
  have hxC : a ≠ C := by
    rintro rfl
    have z := I.kIn _ _ hC
    have z2 : hp.get? a = some (excClassObj nm q a N bs bm true sn sub ab col dd k0 k1 k2 k3 k5 "ValueError.__new__") := z
    rw [z2] at hx
    cases hx
  have hmro : PySem.W.Looks (model X.prog X.w) h1 (mroOf (.ref C)) (.ref C :: bm) := (PySem.W.looks_clsIn I1.kIn hclC).andThen .now
  have hinst : PySem.W.Looks (model X.prog X.w) h1 (isInstance (.ref a) (.type "ValueError")) true :=
    PySem.W.Looks.andThen (PySem.W.InstAt.type (⟨kp1 _ _ hx, rfl, rfl, True.intro⟩ : PySem.W.InstAt h1 a _ C none)) (PySem.W.looks_subIn I1.kIn V.ve)
  refine PySem.W.kxs_getMethod PySem.W.kxs_ValueError so1 (PySem.W.looks_opaque I1.kIn T.opq) hmro rfl I1.kIn nx hinst hxC (by decide) ?_
  generalize hu : h1.objs.size = u
  have kp2 : ∀ b o, h1.get? b = some o → (h1.push (PySem.W.kxs_mw ShX.veI a)).get? b = some o := fun b o z => Heap.get?_push_of_some _ z
  have I2 : Inv X pins σ H ⟨h1.push (PySem.W.kxs_mw ShX.veI a), g, d, tk + 1, os⟩ := I1.kept (t' := tk + 1) kp2
  have gu : (h1.push (PySem.W.kxs_mw ShX.veI a)).get? u = some (PySem.W.kxs_mw ShX.veI a) := by rw [← hu]; exact Heap.get?_push_size _ rfl
  have fu : FpOk X pins H u := I1.fpOk (by rw [← hu]; exact Nat.le_refl _) (I1.hok.fresh (by rw [← hu]; exact Nat.le_refl _))
  have I3 : Inv X ((u, PySem.W.kxs_mw ShX.veI a) :: pins) σ H ⟨h1.push (PySem.W.kxs_mw ShX.veI a), g, d, tk + 1, os⟩ := I2.pins_of fun p hp => by
    rcases List.mem_cons.mp hp with rfl | hp
    · exact ⟨gu, fu.1, fu.2.1, fu.2.2.1, fun v z => by cases z⟩
    · exact I2.pin p (List.mem_append_right _ hp)
  refine wpAny_mono (PySem.W.kxs_callWith (i := ShX.veI) (x := a) (Q := fun _ s' => Qf .next s') (E := X.xe) (by rw [hst]; rfl) ?_) (fun _ _ z => z) hxe
  rw [hst]
  refine PySem.Calls.evalArgs_plain ?_
  have hr := he.run p3 ((u, PySem.W.kxs_mw ShX.veI a) :: pins) _ σ H _ I3 hq
  rw [hst] at hr
  refine thn hr fun us s2 ⟨xs, H2, I4, rv, hl, ha2, q⟩ => ?_
  have gu2 := (I4.pin (u, PySem.W.kxs_mw ShX.veI a) (List.mem_append_right _ List.mem_cons_self)).1
  refine ⟨gu2, ?_⟩
  obtain ⟨t2, hx2⟩ := exo_at I4.hok ha2
  obtain ⟨hp2, g2, d2, tk2, os2⟩ := s2
  refine ShX.call_mw (I4.kIn _ _ hC) hx2 gu2 ?_ fun h' t3 k3 e3 => ?_
  · show us.length ≤ sizeLine
    rw [← rv.length, sizeLine_eq]
    omega
  · have J := I4.write (t' := tk2) (x := a) (e := a) (o := exo a C none) (by rw [ha2]; exact True.intro) (.inl rfl) k3 ⟨_, e3⟩ (exo_ok e3)
    have eu : upd H2 a (exo a C none) = H2 := by
      funext b
      by_cases hb : b = a
      · rw [hb, upd_same, ha2]
      · rw [upd_ne hb]
    rw [eu] at J
    refine hR _ _ (J.pins_of fun p hp => J.pin p (by
      rcases List.mem_append.mp (List.mem_append_right X.pn hp) with z | z
      · exact List.mem_append_left _ z
      · exact List.mem_append_right _ (List.mem_cons_of_mem _ z))) q
end
section
variable {CX : CXT} {P : Program} {w : World} {K : PySem.W.Frag} {mg : Str → Option Value} {base : Heap} {N ps : List Str} {F : NF} {f cc D C a : Addr} {A : Around} {outer : List Env} {s : Shared} {H : Hp} {E : XK} {Q : VK} {us : List Value} {vs : List V} {k : Nat}
/-- the __init__ of an own error that says super() first, run: a is the exception -/
theorem run_sup {pl : Sem Bool} {args : Args} {e : Expr} {te : TA} {tr : TS} {rest : List Stmt} {p0 p1 p2 p3 p4 : Pos} (T : SupTxt P K mg F f cc D) (VC : SupCls K C D) (S : NScope N ps ["__class__"] F.scope) (hr : Room (k + 1) A) (e0 : Env0 P w K mg base A outer s H)
    (hb : ∀ doc pm an ct, BindsTo s (PySem.W.ksFn F.name F.qual F.params F.body F.scope .none .none doc pm an (.ref F.c) ct cc) args (ps.zip us)) (hl : vs.length = ps.length) (r : Vals vs us)
    (h0 : vs[0]? = some (.ref a)) (hN : N[0]? = some ("self" : Str)) (ha : H a = some (exo a C none))
    (hbody : F.body = .Expr (.Call (.Attribute (.Call (.Name "super" p0) [] [] p1) "__init__" p2) [e] [] p3) p4 :: rest)
    (he : PA (ncx CX P w K mg base N F f A outer s H E) [e] te) (hrest : PSs (ncx CX P w K mg base N F f A outer s H E) rest tr)
    (hq : te (startF N vs [none]) H fun xs H1 => xs.length ≤ 1000 ∧ H1 a = some (exo a C none) ∧ tr { nx := fun _ H' => Q .non H', rt := Q } (startF N vs [none]) H1)
    (hce : ∀ L : Addr, eval (.Call (.Attribute (.Call (.Name "super" p0) [] [] p1) "__init__" p2) [e] [] p3) (envF F f L) = (do
      let ov ← attributeBase (.Call (.Name "super" p0) [] [] p1) "__init__" (envF F f L) (eval (.Call (.Name "super" p0) [] [] p1) (envF F f L))
      standAt p2.atName
      let (fx, first) ← holding [ov] (getMethod ov "__init__" pl)
      callWith p3 fx first (backTo p3 (starEach [e] (envF F f L))) []))
    (hst : ∀ L : Addr, starEach [e] (envF F f L) = (false, eval e (envF F f L)) :: starEach [] (envF F f L)) :
    codeAny (model P w) A (.call (.ref f) args) (CR CX outer P w H s Q E) s := by
  obtain ⟨fc, fod, doc, pm, an, ct, osl, hf⟩ := T.fn
  have kin : K.In s.heap := e0.mod.kin.keeps fun b o z => (e0.bs b o z).1
  have lim : s.heap.NoLimit := e0.mod.nolimit.keeps fun b o z => (e0.bs b o z).1
  obtain ⟨cl, cld, csl, hcell⟩ := T.cell
  have hcb : base.get? cc = some ⟨cl, cld, .cell (some (.ref D)), csl⟩ := e0.mod.kin _ _ hcell
  have CA : CellsAt F.cl ["__class__"] [none] s.heap H := by
    rw [T.cls]
    have one : ∀ {y : Str} {c : Addr}, List.lookup y [(("__class__" : Str), cc)] = some c → y = "__class__" ∧ c = cc := fun {y c} z => by
      by_cases hy : y = ("__class__" : Str)
      · subst hy
        rw [List.lookup_cons_self] at z
        exact ⟨rfl, (Option.some.inj z).symm⟩
      · have q : (y == ("__class__" : Str)) = false := by simpa using hy
        rw [List.lookup_cons, q] at z
        cases z
    refine ⟨rfl, fun y c z => ?_, fun x y c z1 z2 => (one z1).1.trans (one z2).1.symm, fun i y z => ?_⟩
    · obtain ⟨_, rfl⟩ := one z
      exact ⟨(e0.bs _ _ hcb).2, _, _, (e0.bs _ _ hcb).1, rfl⟩
    · match i with
      | 0 =>
        simp at z
        subst z
        exact ⟨cc, List.lookup_cons_self, fun v z => by simp at z⟩
      | i + 1 => simp at z
  refine ks_codeAny_call_defAt (fd := PySem.W.ksFn F.name F.qual F.params F.body F.scope .none .none doc pm an (.ref F.c) ct cc) (body := F.body) (binds := ps.zip us) hr.depth (kin _ _ hf) rfl lim (PySem.W.codeRec_of kin T.cd) rfl (hb _ _ _ _)
    S.nocell (fun ⟨n, _⟩ hy => S.par n (List.of_mem_zip hy).1) (fun h₁ hns kp => ?_) S.co S.gen S.kind
  have I : Inv (ncx CX P w K mg base N F f A outer s H E) [] (startF N vs [none]) H { s with heap := h₁, toks := s.toks + (ps.zip us).length } := inv_startN S hr.hd e0 hl r CA hns kp
  have env_eq : callEnv (PySem.W.ksFn F.name F.qual F.params F.body F.scope .none .none doc pm an (.ref F.c) ct cc) s.heap.objs.size f = envF F f s.heap.objs.size := by
    show PySem.W.envX _ _ _ _ _ [(("__class__" : Str), cc)] = PySem.W.envX _ _ _ _ _ F.cl
    rw [T.cls]
  rw [env_eq]
  show PySem.wpAt (model P w) (ncx CX P w K mg base N F f A outer s H E).A (.func F.body (envF F f s.heap.objs.size)) (execs F.body (envF F f s.heap.objs.size)) _ _ _
  rw [hbody]
  refine ks_wpAt_execs_cons ?_
  have hs0 : (startF N vs [none])[0]? = some (some (.ref a)) := by
    unfold startF
    cases vs with
    | nil => simp at h0
    | cons v vs =>
      simp at h0
      subst h0
      rfl
  refine sup_stmt (X := ncx CX P w K mg base N F f A outer s H E) (Ex := (ncx CX P w K mg base N F f A outer s H E).xe) T VC rfl I hN hs0 ha he (fun _ _ z => z) hq (fun H1 s1 I1 q1 => ?_) (hce _) (hst _)
  refine wpAt_of_wpAny (wpAny_mono (hrest.run [] s1 (startF N vs [none]) H1 _ I1 q1) (fun fl s' hs => ?_) fun e s' hs => hs)
  have fin : ∀ {σ' : L2.St} {H' : Hp} {v : V} {u : Value}, Inv (ncx CX P w K mg base N F f A outer s H E) [] σ' H' s' → L2.RelV v u → Q v H' → CE outer P w H s Q u s' :=
    fun {σ' H' v u} J rv q => ⟨v, H', J.os, J.bare, J.base, J.hok, rv, q⟩
  cases fl with
  | ret u =>
    obtain ⟨v, σ', H', J, rv, q⟩ := hs
    exact fin J rv q
  | next =>
    obtain ⟨σ', H', J, q⟩ := hs
    exact fin (v := V.non) (u := Value.none) J rfl q
  | brk =>
    obtain ⟨_, _, _, q⟩ := hs
    exact False.elim q
  | cont =>
    obtain ⟨_, _, _, q⟩ := hs
    exact False.elim q
end
/-- a value that an error's message may tell -/
def Tells (v : V) : Prop := (∃ y : Str, v = .str y ∧ y.length ≤ 100000) ∨ ∃ i : Int, v = .int i ∧ i.natAbs.log2 < 1920
/-- C(f = e) -/
def tMkW (C : Addr) (fld : Str) (te : TA) : L2.St → Hp → XK → Prop := fun σ H Q => te σ H fun xs H1 => ∃ v, xs = [v] ∧ Tells v ∧ ∀ d, H1 d = none → Q (.ref C) (some d) (upd H1 d (.xd [(fld, v)]))
section
variable {X : Cx} {CX : CXT} {C f cc D : Addr} {F : NF} {k : Nat} {fld x : Str} {e msg : Expr} {kws : List Keyword} {te : TA} {p pos p0 p1 p2 p3 p4 r1 r2 r3 r4 : Pos} {pl : Sem Bool}
theorem pmk_kw (T : SupTxt X.prog X.K X.mg F f cc D) (VC : SupCls X.K C D) (XC : XfC X.K C) (hno : PySem.W.findIn X.K (.ref C) fld = some none)
    (iC : PySem.W.findIn X.K (.ref C) "__init__" = some (some (.ref f))) (tI : PySem.W.typeIn X.K (.ref f) = some (.type "function"))
    (S : NScope ["self", fld, "__class__"] ["self", fld] ["__class__"] F.scope) (hr : Room (k + 2) X.A) (hx : Passes CX X (fun _ _ _ => False)) (hg : Gl X x) (hm : X.mg x = some (.ref C))
    (hkw : PK X kws te) (hall : (backToKw pos (keywordEach kws X.env)).all (·.1.isSome) = true) (hks : (backToKw pos (keywordEach kws X.env)).filterMap (·.1) = [fld])
    (hpl : ((backTo pos (starEach [] X.env)).any (·.1) || (backToKw pos (keywordEach kws X.env)).any (·.1.isNone)) = false)
    (hbody : F.body = [.Expr (.Call (.Attribute (.Call (.Name "super" p0) [] [] p1) "__init__" p2) [msg] [] p3) p4, .Assign [.Attribute (.Name "self" r1) fld r2] (.Name fld r3) r4])
    (hb : ∀ (s : Shared) (doc pm : Value) (an : Option Addr) (ct : Value) (xa : Addr) (u : Value), BindsTo s (PySem.W.ksFn F.name F.qual F.params F.body F.scope .none .none doc pm an (.ref F.c) ct cc) ⟨[.ref xa], [(fld, u)]⟩ [(("self" : Str), .ref xa), (fld, u)])
    (hmsg : ∀ (A : Around) (outer : List Env) (s : Shared) (H : Hp) (E : XK) (xa : Addr) (v : V), Tells v → ∃ tm, PA (ncx CX X.prog X.w X.K X.mg X.base ["self", fld, "__class__"] F f A outer s H E) [msg] tm ∧
      ∀ R : List V → Hp → Prop, (∀ y : Str, R [.str y] H) → tm (startF ["self", fld, "__class__"] [.ref xa, v] [none]) H R)
    (hce : ∀ L : Addr, eval (.Call (.Attribute (.Call (.Name "super" p0) [] [] p1) "__init__" p2) [msg] [] p3) (envF F f L) = (do
      let ov ← attributeBase (.Call (.Name "super" p0) [] [] p1) "__init__" (envF F f L) (eval (.Call (.Name "super" p0) [] [] p1) (envF F f L))
      standAt p2.atName
      let (fx, first) ← holding [ov] (getMethod ov "__init__" pl)
      callWith p3 fx first (backTo p3 (starEach [msg] (envF F f L))) []))
    (hst : ∀ L : Addr, starEach [msg] (envF F f L) = (false, eval msg (envF F f L)) :: starEach [] (envF F f L))
    (hsw : ∀ L : Addr, swapsWith (.Name fld r3) (some (.Attribute (.Name "self" r1) fld r2)) r4.line (envF F f L) = pure false)
    (hf1 : (fld == ("__debug__" : Str)) = false := by decide) (hf2 : (fld == ("__classdict__" : Str)) = false := by decide)
    (hdb : (x == ("__debug__" : Str)) = false := by decide) : PMk X (.Call (.Name x p) [] kws pos) (tMkW C fld te) := by
  intro pins s σ H Q I h
  obtain ⟨nm, q, N, bs, bm, sn, sub, ab, col, dd, k0, k1, k2, k3, k5, hC, hbm⟩ := VC.o.cls
  refine wpAny_Call_Name_kw (ld_glob I hg hm ?_ hdb)
  refine PySem.W.callWith_KW0 (h₀ := X.base) I.ok.mod.kin VC.o.kC hall ?_ hpl
  refine thn (hkw.run pos pins s σ H _ I h) fun ws s1 ⟨zs, H1, I1, rz, v, ezs, hv, q1⟩ => ⟨I1.kIn, ?_⟩
  subst ezs
  cases rz with
  | @cons _ u _ _ rv rn =>
  cases rn
  rw [hks]
  obtain ⟨hp, g, dr, tk, os⟩ := s1
  have hsz : hp.objs.size ≤ hp.objs.size + 1 := Nat.le_succ _
  have hn : H1 (hp.objs.size + 1) = none := I1.hok.fresh hsz
  generalize ha : hp.objs.size + 1 = a at hn hsz
  have kk : ∀ b o, hp.get? b = some o → ((hp.push (PySem.W.kdv_tup [])).push (PySem.HandSPX.excO C hp.objs.size)).get? b = some o := fun b o e => Heap.get?_push_of_some _ (Heap.get?_push_of_some _ e)
  have hget : ((hp.push (PySem.W.kdv_tup [])).push (PySem.HandSPX.excO C hp.objs.size)).get? a = some (PySem.HandSPX.excO C hp.objs.size) := by
    rw [← ha]
    heap_get
  generalize hh2 : (hp.push (PySem.W.kdv_tup [])).push (PySem.HandSPX.excO C hp.objs.size) = h2 at kk hget
  have I2 : Inv X pins σ (upd H1 a (exo a C none)) ⟨h2, g, dr, tk, os⟩ := I1.laid (t' := tk) (a := a) (o := exo a C none) (h' := h2) kk hsz (exo_ok hget)
  obtain ⟨tm, hpm, htm⟩ := hmsg (X.A.under (.builtin "type.__call__" ⟨[.ref C], [(fld, u)]⟩)) X.stack ⟨h2, g, dr, tk, os⟩ (upd H1 a (exo a C none)) (fun _ _ _ => False) a v hv
  refine wpAny_call (ShX.call_kw PySem.F.excBase_ValueError (fun Y => PySem.HandSPX.refsVE_contains Y bm hbm) (I1.kIn _ _ hC) (PySem.W.looks_findIn I1.kIn iC) (fun self => PySem.W.bind_fn I1.kIn self tI) ?_)
  rw [ha, hh2]
  have vis0 : Vis F.scope ("self" : Str) := .inl (S.par _ List.mem_cons_self)
  have vis1 : Vis F.scope fld := .inl (S.par _ (List.mem_cons_of_mem _ List.mem_cons_self))
  refine codeAny_mono (run_sup (CX := CX) (k := k) (N := ["self", fld, "__class__"]) (ps := ["self", fld]) (us := [.ref a, u]) (vs := [.ref a, v]) (E := fun _ _ _ => False)
    (Q := fun r H2 => r = .non ∧ ∃ (d : Addr) (fs : List (Str × V)), H2 a = some (exo a C (some d)) ∧ H2 d = some (exd d fs) ∧ H1 d = none ∧ Q (.ref C) (some d) (upd (del H2 a) d (.xd fs)))
    T VC S (hr.make C [] _) (I2.env0.make C [] _) ?_ rfl (.cons rfl (.cons rv .nil)) rfl rfl upd_same hbody hpm
    (pss_one (ps_ost (pe_var (i := 0) rfl vis0) (pe_var (i := 1) rfl vis1 hf1 hf2) (hsw _))) ?_ hce hst) fun r s' hq' => ?_
  · intro doc pm an ct
    exact hb _ doc pm an ct a u
  · refine htm _ fun y => ⟨by simp, upd_same, v, rfl, .ref a, rfl, a, C, rfl, VC.o, hno, .inl ⟨upd_same, fun dx hdx ndx => ?_⟩⟩
    have hdx1 : H1 dx = none := by
      rw [upd_ne ndx] at hdx
      exact hdx
    refine ⟨rfl, dx, [(fld, v)], upd_same, ?_, hdx1, ?_⟩
    · rw [upd_ne ndx, upd_same]
    · have eH : upd (del (upd (upd (upd H1 a (exo a C none)) dx (exd dx [(fld, v)])) a (exo a C (some dx))) a) dx (.xd [(fld, v)]) = upd H1 dx (.xd [(fld, v)]) := by
        funext b
        by_cases h1 : b = dx
        · rw [h1, upd_same, upd_same]
        · rw [upd_ne h1, upd_ne h1]
          by_cases h2 : b = a
          · rw [h2, del_same, hn]
          · rw [del_ne h2, upd_ne h2, upd_ne h1, upd_ne h2]
      rw [eH]
      exact q1 dx hdx1
  · cases r with
    | error er => exact hx pins σ _ _ er s' I2 hq'
    | ok fl =>
      cases fl with
      | ret uu =>
        obtain ⟨vv, H2, os2, bare2, un2, hok2, rv2, ev, d2, fs, ea, ed, hd1, q2⟩ := hq'
        subst ev
        obtain ⟨h3, g2, dr2, t2, os'⟩ := s'
        exact ⟨rv2, mk_end (raises_own VC.o.exC VC.o.tyC) I1 hsz kk un2 hok2 os2 bare2 ea ed hd1 q2⟩
      | next => exact False.elim hq'
      | brk => exact False.elim hq'
      | cont => exact False.elim hq'
end
end Sho
set_option Elab.async false
set_option linter.all false
set_option maxRecDepth 100000
set_option maxHeartbeats 2000000
/-! The head of a law with facts: defs with and without a closure, Bools of the written part, empty tables of code objects left out. -/
namespace Shh
open PySem PySem.Spec PyProof.Rows L2 He Sho
abbrev Fr : Type := PySem.W.Frag
/-! ### a def -/
abbrev FnS : Type := Option (Str × Str × Arguments × FuncBody × Scope)
def fnS (K : Fr) (a : Addr) : FnS := match K.lookup a with
  | some ⟨_, _, .func fd, _⟩ => some (fd.name, fd.qualname, fd.params, fd.body, fd.scope)
  | _ => none
def noneB : Value → Bool
  | .none => true
  | _ => false
theorem noneB_ok {v : Value} (h : noneB v = true) : v = .none := by
  cases v with
  | none => rfl
  | _ => cases h
def fnB (K : Fr) (a : Addr) (q : Str) (cl : List (Str × Addr)) : Bool := match K.lookup a with
  | some ⟨_, _, .func fd, _⟩ => decide (fd.globals = mainGlobals) && (decide (fd.closure = cl) && (decide (fd.builtins = builtinsNs) && (noneB fd.defaults && (noneB fd.kwdefaults && PySem.W.codeIn K fd.code q))))
  | _ => false
def codeA (K : Fr) (a : Addr) : Addr := match K.lookup a with
  | some ⟨_, _, .func fd, _⟩ => (match fd.code with
    | .ref c => c
    | _ => 0)
  | _ => 0
/-- the first cell of a function's closure -/
def cellA (K : Fr) (a : Addr) : Addr := match K.lookup a with
  | some ⟨_, _, .func fd, _⟩ => (match fd.closure with
    | (_, c) :: _ => c
    | _ => 0)
  | _ => 0
structure FunF (K : Fr) (x qual : Str) (st : Stmt) (cl : List (Str × Addr)) (f : Addr) : Prop where
  ex : ∃ (oc : Value) (od : Option Addr) (doc pm : Value) (an : Option Addr) (ct : Value) (osl : Array (Option Value)),
    K.lookup f = some ⟨oc, od, .func (PySem.W.fnX x qual (defArgs st) (defBody st) (defScope st) cl .none .none doc pm an (.ref (codeA K f)) ct), osl⟩ ∧ PySem.W.codeIn K (.ref (codeA K f)) qual = true
/-- one def: where it stands, its name, qualified name, statement, closure -/
structure Dn where
  at_ : Fr → Addr
  name : Str
  qual : Str
  st : Stmt
  cl : Fr → List (Str × Addr) := fun _ => []
def Dn.val (d : Dn) : FnS := some (d.name, d.qual, defArgs d.st, .stmts (defBody d.st), defScope d.st)
def Dn.ok (K : Fr) (d : Dn) : Bool := fnB K (d.at_ K) d.qual (d.cl K)
theorem Dn.funF {K : Fr} {d : Dn} (e : fnS K (d.at_ K) = d.val) (c : d.ok K = true) : FunF K d.name d.qual d.st (d.cl K) (d.at_ K) := by
  unfold Dn.ok fnB at c
  unfold fnS at e
  have ec : ∀ fd oc od osl, K.lookup (d.at_ K) = some ⟨oc, od, .func fd, osl⟩ → ∀ c, fd.code = .ref c → codeA K (d.at_ K) = c := fun fd oc od osl q c h => by
    unfold codeA
    rw [q]
    show (match fd.code with | .ref c => c | _ => 0) = c
    rw [h]
  cases q : K.lookup (d.at_ K) with
  | none =>
    rw [q] at c
    cases c
  | some o =>
    obtain ⟨oc, od, dt, osl⟩ := o
    rw [q] at c e
    cases dt with
    | func fd =>
      have ec' := ec fd oc od osl q
      obtain ⟨n1, n2, n3, n4, n5, n6, n7, n8, n9, n10, n11, n12, n13, n14, n15⟩ := fd
      have e2 : (some (n1, n2, n3, n4, n5) : FnS) = some (d.name, d.qual, defArgs d.st, .stmts (defBody d.st), defScope d.st) := e
      simp only [Option.some.injEq, Prod.mk.injEq] at e2
      obtain ⟨h1, h2, h3, h4, h5⟩ := e2
      obtain ⟨c1, c⟩ := ba c
      obtain ⟨c2, c⟩ := ba c
      obtain ⟨c3, c⟩ := ba c
      obtain ⟨c4, c⟩ := ba c
      obtain ⟨c5, c6⟩ := ba c
      have g1 : n6 = mainGlobals := of_decide_eq_true c1
      have g2 : n7 = d.cl K := of_decide_eq_true c2
      have g3 : n15 = builtinsNs := of_decide_eq_true c3
      have g4 : n8 = .none := noneB_ok c4
      have g5 : n9 = .none := noneB_ok c5
      obtain ⟨cc, hc⟩ := codeIn_ref c6
      have hc' : n13 = .ref cc := hc
      have e3 := ec' cc hc'
      subst h1 h2 h3 h4 h5 g1 g2 g3 g4 g5 hc'
      exact ⟨oc, od, n10, n11, n12, n14, osl, by rw [e3]; exact q, by rw [e3]; exact c6⟩
    | _ => cases c
/-! ### the Hook -/
def okAll (fa : List (Fr → Bool)) (fn : List Dn) (K : Fr) : Bool := (fa.all fun f => f K) && fn.all fun d => d.ok K
def tabsS (g : Addr → Option Obj) (tf : List (Fr → Addr)) (K : Fr) : Bool := tf.all fun p => PySem.W.codeHdIn K (codeA K (p K)) (tabOf K (codeA K (p K))) && (match g (tabOf K (codeA K (p K))) with
  | some o => emptyTab o
  | none => false)
def fragS (n : Nat) (g : Addr → Option Obj) : Fr := frT g (asD g n ++ [cStatics])
abbrev AlS : Type := Bool × List FnS
def obsS (n : Nat) (fa : List (Fr → Bool)) (fn : List Dn) (tf : List (Fr → Addr)) (g : Addr → Option Obj) : AlS := (okAll fa fn (fragS n g) && tabsS g tf (fragS n g), fn.map fun d => fnS (fragS n g) (d.at_ (fragS n g)))
def valS (fn : List Dn) : AlS := (true, fn.map Dn.val)
structure SaysS (fa : List (Fr → Bool)) (fn : List Dn) (tf : List (Fr → Addr)) (h : Heap) (K : Fr) : Prop where
  fa : ∀ f ∈ fa, f K = true
  fn : ∀ d ∈ fn, FunF K d.name d.qual d.st (d.cl K) (d.at_ K)
  hd : ∀ p ∈ tf, PySem.W.codeHdIn K (codeA K (p K)) (tabOf K (codeA K (p K))) = true
  out : ∀ p ∈ tf, K.lookup (tabOf K (codeA K (p K))) = none
  empty : ∀ p ∈ tf, h.get? (tabOf K (codeA K (p K))) = some { cls := .none, data := .fields #[] }
theorem saysS_of {n : Nat} {fa : List (Fr → Bool)} {fn : List Dn} {tf : List (Fr → Addr)} {h : Heap} (e : obsS n fa fn tf h.get? = valS fn) : SaysS fa fn tf h (fragS n h.get?) := by
  have e1 : (okAll fa fn (fragS n h.get?) && tabsS h.get? tf (fragS n h.get?)) = true := congrArg (fun z : AlS => z.1) e
  have e2 : (fn.map fun d => fnS (fragS n h.get?) (d.at_ (fragS n h.get?))) = fn.map Dn.val := congrArg (fun z : AlS => z.2) e
  obtain ⟨h1, h2⟩ := ba e1
  obtain ⟨h3, h4⟩ := ba h1
  have key : ∀ p ∈ tf, PySem.W.codeHdIn (fragS n h.get?) (codeA (fragS n h.get?) (p (fragS n h.get?))) (tabOf (fragS n h.get?) (codeA (fragS n h.get?) (p (fragS n h.get?)))) = true ∧
      ∃ o, h.get? (tabOf (fragS n h.get?) (codeA (fragS n h.get?) (p (fragS n h.get?)))) = some o ∧ emptyTab o = true := fun p hp => by
    obtain ⟨h5, h6⟩ := ba (List.all_eq_true.mp h2 p hp)
    refine ⟨h5, ?_⟩
    cases q : h.get? (tabOf (fragS n h.get?) (codeA (fragS n h.get?) (p (fragS n h.get?)))) with
    | none =>
      rw [q] at h6
      cases h6
    | some o =>
      rw [q] at h6
      exact ⟨o, rfl, h6⟩
  refine ⟨fun f hf => List.all_eq_true.mp h3 f hf, fun d hd => ?_, fun p hp => (key p hp).1, fun p hp => ?_, fun p hp => ?_⟩
  · obtain ⟨i, hi, ei⟩ := List.mem_iff_getElem.mp hd
    have e3 : (fn.map fun d => fnS (fragS n h.get?) (d.at_ (fragS n h.get?)))[i]? = (fn.map Dn.val)[i]? := by rw [e2]
    rw [List.getElem?_map, List.getElem?_map, List.getElem?_eq_getElem hi, ei] at e3
    exact Dn.funF (Option.some.inj e3) (List.all_eq_true.mp h4 d hd)
  · obtain ⟨_, o, q, z⟩ := key p hp
    exact frT_none q z
  · obtain ⟨_, o, q, z⟩ := key p hp
    rw [q, emptyTab_eq z]
def hookS (n : Nat) (fa : List (Fr → Bool)) (fn : List Dn) (tf : List (Fr → Addr)) : PySem.W.Hook where
  α := AlS
  obs := fun s => obsS n fa fn tf s.heap.get?
  val := fun _ => valS fn
  says := fun _ h => ∃ K : PySem.W.Frag, K.In h ∧ SaysS fa fn tf h K
  of := fun _ _ e => ⟨_, frT_in, saysS_of e⟩
  keeps := fun _ _ _ ⟨K, hK, c⟩ k => ⟨K, PySem.W.Frag.In.keeps hK k, ⟨c.fa, c.fn, c.hd, c.out, fun p hp => k _ _ (c.empty p hp)⟩⟩
theorem obsS_eq {n : Nat} {fa : List (Fr → Bool)} {fn : List Dn} {tf : List (Fr → Addr)} {g : Addr → Option Obj} {s : Shared} (h : ∀ a, g a = s.heap.get? a) : obsS n fa fn tf g = (hookS n fa fn tf).obs s := by
  have e : g = s.heap.get? := funext h
  rw [e] <;> rfl
section
variable {fa : List (Fr → Bool)} {fn : List Dn} {tf : List (Fr → Addr)} {h : Heap} {K : Fr}
theorem SaysS.fact (c : SaysS fa fn tf h K) (i : Nat) {f : Fr → Bool} (e : fa[i]? = some f := by rfl) : f K = true := c.fa f (List.mem_of_getElem? e)
theorem SaysS.def_ (c : SaysS fa fn tf h K) (i : Nat) {d : Dn} (e : fn[i]? = some d := by rfl) : FunF K d.name d.qual d.st (d.cl K) (d.at_ K) := c.fn d (List.mem_of_getElem? e)
end
/-! ### names of the module -/
section
variable {K : Fr} {h : Heap} {mg : Str → Option Value}
def gloB (K : Fr) (xs : List Str) : Bool := xs.all fun x => eqO (PySem.W.nsIn K mainGlobals x) (some (some (.ref (ga K x))))
theorem gloB_ok (X : K.In h) (G : h.Ns mainGlobals mg) {xs : List Str} (c : gloB K xs = true) {x : Str} (hx : x ∈ xs) : mg x = some (.ref (ga K x)) := PySem.W.mg_of X G (eqO_ok (List.all_eq_true.mp c x hx))
def freeB (K : Fr) (xs : List Str) : Bool := xs.all fun x => eqO (PySem.W.nsIn K mainGlobals x) (some none)
theorem freeB_ok (X : K.In h) (G : h.Ns mainGlobals mg) {xs : List Str} (c : freeB K xs = true) {x : Str} (hx : x ∈ xs) : mg x = none := PySem.W.mg_none_of X G (eqO_ok (List.all_eq_true.mp c x hx))
def keepB (K : Fr) (xs : List Str) : Bool := xs.all fun x => PySem.W.keepIn K (.ref (ga K x))
theorem keepB_ok {xs : List Str} (c : keepB K xs = true) {x : Str} (hx : x ∈ xs) : PySem.W.keepIn K (.ref (ga K x)) = true := List.all_eq_true.mp c x hx
end
/-! ### an own error whose __init__ says super().__init__(text) and stores a field -/
def oexB (K : Fr) (C : Addr) : Bool := match K.lookup C with
  | some ⟨.type t, _, .cls cd, sl⟩ => decide (t = "type") && (decide (cd.mro.head? = some (.ref C)) && (PySem.HandSPX.refsVE cd.mro.tail && (cd.hasDict && (!cd.hasDel && (match sl.toList with
    | [_, _, _, _, some (.builtin n), _] => decide (n = "ValueError.__new__")
    | _ => false)))))
  | _ => false
theorem oexB_ok {K : Fr} {C : Addr} (h : oexB K C = true) : ∃ nm q N bs bm sn sub ab col dd k0 k1 k2 k3 k5, K.lookup C = some (excClassObj nm q C N bs bm true sn sub ab col dd k0 k1 k2 k3 k5 "ValueError.__new__") ∧ PySem.HandSPX.refsVE bm = true := by
  unfold oexB at h
  split at h
  · rename_i t dd cd sl e
    obtain ⟨h1, h⟩ := ba h
    obtain ⟨h2, h⟩ := ba h
    obtain ⟨h3, h⟩ := ba h
    obtain ⟨h4, h⟩ := ba h
    obtain ⟨h5, h6⟩ := ba h
    split at h6
    · rename_i k0 k1 k2 k3 n k5 hs
      obtain ⟨nm, bs, mro, N, q, hd, sn, sub, ab, col, hdel⟩ := cd
      have a1 : t = "type" := of_decide_eq_true h1
      have a2 : mro.head? = some (.ref C) := of_decide_eq_true h2
      have a4 : hd = true := h4
      have a5 : hdel = false := by
        cases z : hdel with
        | false => rfl
        | true =>
          have h5' : (!hdel) = true := h5
          rw [z] at h5'
          cases h5'
      have a6 : n = "ValueError.__new__" := of_decide_eq_true h6
      have a7 : sl = #[k0, k1, k2, k3, some (.builtin n), k5] := by
        have z : sl.toList.toArray = [k0, k1, k2, k3, some (.builtin n), k5].toArray := by rw [hs]
        simpa using z
      cases mro with
      | nil => cases a2
      | cons m0 bm =>
        have a8 : m0 = .ref C := Option.some.inj a2
        subst a1 a4 a5 a6 a7 a8
        exact ⟨nm, q, N, bs, bm, sn, sub, ab, col, dd, k0, k1, k2, k3, k5, e, h3⟩
    · cases h6
  · cases h
def cellB (K : Fr) (cc C : Addr) : Bool := match K.lookup cc with
  | some ⟨_, _, .cell (some (.ref D)), _⟩ => decide (D = C)
  | _ => false
theorem cellB_ok {K : Fr} {cc C : Addr} (h : cellB K cc C = true) : ∃ (cl : Value) (cld : Option Addr) (csl : Array (Option Value)), K.lookup cc = some ⟨cl, cld, .cell (some (.ref C)), csl⟩ := by
  unfold cellB at h
  split at h
  · rename_i cl cld D csl e
    rw [of_decide_eq_true h] at e
    exact ⟨cl, cld, csl, e⟩
  · cases h
def fileB (K : Fr) (c : Addr) (file : Str) : Bool := match K.lookup c with
  | some ⟨_, _, .fields vs, _⟩ => (match (vs[2]? : Option Value) with
    | some (.str fl _) => file == fl
    | _ => false)
  | _ => false
theorem fileB_ok {K : Fr} {c : Addr} {file : Str} (h : fileB K c file = true) : ∃ (oc : Value) (od : Option Addr) (vs : Array Value) (sl : Array (Option Value)) (fl : Str) (tf : Tok), K.lookup c = some ⟨oc, od, .fields vs, sl⟩ ∧ vs[2]? = some (.str fl tf) ∧ (file == fl) = true := by
  unfold fileB at h
  split at h
  · rename_i oc od vs sl e
    split at h
    · rename_i fl tf e2
      exact ⟨oc, od, vs, sl, fl, tf, e, e2, h⟩
    · cases h
  · cases h
/-- where an error's __init__ stands -/
def eInit (K : Fr) (x : Str) : Addr := ma K (ga K x) "__init__"
def errB (file : Str) (K : Fr) (x fld : Str) : Bool :=
  oexB K (ga K x) && (cellB K (cellA K (eInit K x)) (ga K x) && (fileB K (codeA K (eInit K x)) file && (PySem.W.isClsIn K (ga K x) && (eqO (PySem.W.nsIn K cStatics "thirdparty.any") (some none) &&
  (decide (PySem.W.mroIn K (ga K x) (.ref (ga K x)) = some true) && (eqO (PySem.W.ks_superIn K (ga K x) (ga K x) "__init__") (some (some (.builtin ShX.veI))) && (decide (PySem.W.subIn K (.ref (ga K x)) (.type "ValueError") = some true) &&
  (xfB K (ga K x) && (eqO (PySem.W.findIn K (.ref (ga K x)) fld) (some none) && (decide (PySem.W.exmOne K (.ref (ga K x)) (.ref (ga K x)) = some true) && (eqO (PySem.W.findIn K (.ref (ga K x)) "__init__") (some (some (.ref (eInit K x)))) &&
  (decide (PySem.W.typeIn K (.ref (eInit K x)) = some (.type "function")) && (eqO (PySem.W.findIn K (.ref (ga K x)) "__setattr__") (some (some (.builtin "object.__setattr__"))) && (decide (PySem.W.subIn K (.ref (ga K x)) (.type "BaseException") = some true) &&
  (decide (PySem.W.typeIn K (.ref (ga K x)) = some (.type "type")) && PySem.W.keepIn K (.ref (ga K x)))))))))))))))))
section
variable {K : Fr} {h : Heap} {mg : Str → Option Value} {P : Program}
/-- the pieces of errB -/
structure ErrF (file : Str) (K : Fr) (x fld : Str) : Prop where
  oex : OexC K (ga K x)
  cell : ∃ (cl : Value) (cld : Option Addr) (csl : Array (Option Value)), K.lookup (cellA K (eInit K x)) = some ⟨cl, cld, .cell (some (.ref (ga K x))), csl⟩
  file : ∃ (oc : Value) (od : Option Addr) (vs : Array Value) (sl : Array (Option Value)) (fl : Str) (tf : Tok), K.lookup (codeA K (eInit K x)) = some ⟨oc, od, .fields vs, sl⟩ ∧ vs[2]? = some (.str fl tf) ∧ (file == fl) = true
  isC : PySem.W.isClsIn K (ga K x) = true
  opq : PySem.W.nsIn K cStatics "thirdparty.any" = some none
  sup : SupCls K (ga K x) (ga K x)
  xf : XfC K (ga K x)
  no : PySem.W.findIn K (.ref (ga K x)) fld = some none
  exm : PySem.W.exmOne K (.ref (ga K x)) (.ref (ga K x)) = some true
  ini : PySem.W.findIn K (.ref (ga K x)) "__init__" = some (some (.ref (eInit K x)))
  ity : PySem.W.typeIn K (.ref (eInit K x)) = some (.type "function")
theorem errB_ok {file x fld : Str} (c : errB file K x fld = true) : ErrF file K x fld := by
  obtain ⟨c1, c⟩ := ba c
  obtain ⟨c2, c⟩ := ba c
  obtain ⟨c3, c⟩ := ba c
  obtain ⟨c4, c⟩ := ba c
  obtain ⟨c5, c⟩ := ba c
  obtain ⟨c6, c⟩ := ba c
  obtain ⟨c7, c⟩ := ba c
  obtain ⟨c8, c⟩ := ba c
  obtain ⟨c9, c⟩ := ba c
  obtain ⟨c10, c⟩ := ba c
  obtain ⟨c11, c⟩ := ba c
  obtain ⟨c12, c⟩ := ba c
  obtain ⟨c13, c⟩ := ba c
  obtain ⟨c14, c⟩ := ba c
  obtain ⟨c15, c⟩ := ba c
  obtain ⟨c16, c17⟩ := ba c
  have O : OexC K (ga K x) := ⟨oexB_ok c1, eqO_ok c14, of_decide_eq_true c15, of_decide_eq_true c16, c17⟩
  exact ⟨O, cellB_ok c2, fileB_ok c3, c4, eqO_ok c5, ⟨O, of_decide_eq_true c6, eqO_ok c7, of_decide_eq_true c8⟩, xfB_ok c9, eqO_ok c10, of_decide_eq_true c11, eqO_ok c12, of_decide_eq_true c13⟩
/-- the text of its __init__ -/
theorem err_txt {file x fld qual : Str} {st : Stmt} (E : ErrF file K x fld) (D : FunF K "__init__" qual st [(("__class__" : Str), cellA K (eInit K x))] (eInit K x)) (hf : P.main.file = file) (sup : mg "super" = none)
    (h1 : ∃ ar : Arg, ((defArgs st).posonlyargs ++ (defArgs st).args).head? = some ar ∧ ar.arg = ("self" : Str)) (h2 : (P.main.scope.names.lookup ("super" : Str)).isSome = false)
    (h3 : (defScope st).names.lookup ("super" : Str) = some .globalImplicit) (h4 : (defScope st).names.lookup ("__class__" : Str) = some .free) (h5 : (defScope st).names.lookup ("self" : Str) = some .local) :
    SupTxt P K mg ⟨"__init__", qual, defArgs st, defBody st, defScope st, [(("__class__" : Str), cellA K (eInit K x))], codeA K (eInit K x)⟩ (eInit K x) (cellA K (eInit K x)) (ga K x) := by
  obtain ⟨oc, od, doc, pm, an, ct, osl, lk, hcd⟩ := D.ex
  exact ⟨⟨oc, od, doc, pm, an, ct, osl, lk⟩, hcd, E.cell, rfl, by rw [hf]; exact E.file, h1, sup, h2, h3, h4, h5, E.isC, E.opq⟩
end
/-! ### an own error without a field, a property, an operator -/
def ernB (K : Fr) (x : Str) : Bool := PySem.W.excIn K (ga K x) veBase "ValueError.__new__" && (PySem.W.keepIn K (.ref (ga K x)) && (decide (PySem.W.subIn K (.ref (ga K x)) (.type "BaseException") = some true) && (decide (PySem.W.typeIn K (.ref (ga K x)) = some (.type "type")) &&
  decide (PySem.W.exmOne K (.ref (ga K x)) (.ref (ga K x)) = some true))))
/-- the getter of a property -/
def getA (K : Fr) (C : Addr) (m : Str) : Addr := He5.wf K C "property" m
def propB (K : Fr) (C : Addr) (m : Str) : Bool := eqO (PySem.W.findIn K (.ref C) m) (some (some (.ref (ma K C m)))) && (eqO (PySem.W.specialIn K (.ref (ma K C m)) "__get__") (some (some (.builtin "property.__get__"))) && (decide (PySem.W.takesIn K (.ref (ma K C m)) = some true) &&
  (match PySem.W.recIn K (ma K C m) "property" with
    | some (.ref _ :: _) => true
    | _ => false)))
theorem propB_ok {K : Fr} {C : Addr} {m : Str} (c : propB K C m = true) : PropOf K C m (ma K C m) (getA K C m) := by
  obtain ⟨c1, c⟩ := ba c
  obtain ⟨c2, c⟩ := ba c
  obtain ⟨c3, c4⟩ := ba c
  refine ⟨eqO_ok c1, eqO_ok c2, of_decide_eq_true c3, ?_⟩
  unfold getA He5.wf
  split at c4
  · rename_i f r e
    exact ⟨r, by rw [e]⟩
  · cases c4
/-- a def of the class under a name that Python itself looks up -/
def dunB (K : Fr) (C : Addr) (m : Str) : Bool := eqO (PySem.W.findIn K (.ref C) m) (some (some (.ref (ma K C m)))) && (PySem.W.isFn K (.ref (ma K C m)) && (PySem.W.fnIn K (ma K C m) && PySem.W.keepIn K (.ref (ma K C m))))
structure DunF (K : Fr) (C : Addr) (m : Str) : Prop where
  at_ : PySem.W.findIn K (.ref C) m = some (some (.ref (ma K C m)))
  isF : PySem.W.isFn K (.ref (ma K C m)) = true
  fn : PySem.W.fnIn K (ma K C m) = true
  kp : PySem.W.keepIn K (.ref (ma K C m)) = true
theorem dunB_ok {K : Fr} {C : Addr} {m : Str} (c : dunB K C m = true) : DunF K C m := by
  obtain ⟨c1, c⟩ := ba c
  obtain ⟨c2, c⟩ := ba c
  obtain ⟨c3, c4⟩ := ba c
  exact ⟨eqO_ok c1, c2, c3, c4⟩
theorem DunF.meth {K : Fr} {C : Addr} {m : Str} (d : DunF K C m) : Meth K C m (ma K C m) := ⟨d.at_, d.isF, d.kp⟩
theorem DunF.mkr {K : Fr} {C : Addr} (d : DunF K C "__init__") (m : PySem.W.makesIn K C = true) (k : PySem.W.keepIn K (.ref C) = true) : Mk K C (ma K C "__init__") := ⟨m, d.at_, d.isF, k⟩
theorem DunF.callO {K : Fr} {C : Addr} (d : DunF K C "__call__") : StX.CallO K C (ma K C "__call__") := ⟨d.at_, d.isF, d.fn⟩
/-! ### functions without a closure -/
section
variable {K : Fr} {x qual : Str} {st : Stmt} {f : Addr}
/-- its object -/
theorem FunF.funW (F : FunF K x qual st [] f) (kp : PySem.W.keepIn K (.ref f) = true) : ∃ fd, L2.Fun K x qual st f fd ∧ (∀ ps : List Str, (∀ (kV doc pm : Value) (an : Option Addr) (cdv ct : Value) (us : List Value), us.length = ps.length → bindArgs (PySem.W.fnOf x qual (defArgs st) (defBody st) (defScope st) .none kV doc pm an cdv ct) ⟨us, []⟩ = pure (ps.zip us)) → Binds K fd ps []) ∧
    ∀ ps : List Str, (∀ (kV doc pm : Value) (an : Option Addr) (cdv ct : Value) (us : List Value), us.length = ps.length → bindArgs (PySem.W.fnOf x qual (defArgs st) (defBody st) (defScope st) .none kV doc pm an cdv ct) ⟨us, []⟩ = pure (ps.zip us)) → ∀ (s : Shared) (us : List Value), us.length = ps.length → BindsTo s fd ⟨us, []⟩ (ps.zip us) := by
  obtain ⟨oc, od, doc, pm, an, ct, osl, lk, hcd⟩ := F.ex
  exact ⟨_, ⟨⟨oc, od, .none, doc, pm, an, _, ct, osl, rfl, lk, hcd⟩, kp⟩, fun ps h => .all (h .none doc pm an _ ct), fun ps h s us hl => .of_eq (h .none doc pm an _ ct us hl)⟩
end
end Shh
set_option Elab.async false
set_option linter.all false
set_option maxRecDepth 100000
set_option maxHeartbeats 2000000
/-! A list comprehension whose element may rest on what the block's start knows of the heap itself. -/
namespace Sho
open PySem PySem.Spec PyProof.Rows L2
section
variable {X : Cx} {scope : Scope} {fp : List Addr} {own : List (Str × Nat)}
/-- the block's environment, made at s -/
abbrev blkEnv (X : Cx) (scope : Scope) (s : Shared) : Env := compEnvC scope (cellsFrom (s.heap.objs.size + 1) scope.names (cloFrom X.env.cells scope.names [])) s.heap.objs.size X.env
abbrev blkS (scope : Scope) (s : Shared) : Shared := { s with heap := pushCells (s.heap.push { cls := .type "dict", data := .dict #[] }) scope.names }
/-- out of the block: its state is one of the def's -/
theorem blk_out {pins : List (Addr × Obj)} {σ σ' : L2.St} {H H' : Hp} {s s' : Shared} (I : Inv X pins σ H s) (hfp : ∀ b ∈ fp, FpOk X pins H b)
    (J : Inv (X.blk s H scope (blkEnv X scope s) fp) [] σ' H' s') : Inv X pins σ H' s' ∧ ∃ m, s'.heap.Ns s.heap.objs.size m ∧ FpOk X pins H' s.heap.objs.size := by
  obtain ⟨m, hm, _⟩ := J.loc
  refine ⟨I.call' (ch := fp) J.os J.base J.hok J.bare fun b hb => ?_, m, hm, I.fpOk (Nat.le_refl _) J.free⟩
  obtain ⟨_, z1, z2, z3, z4, z5⟩ := hfp b hb
  exact ⟨z3, z1, z4, z5⟩
/-- a tracked list that grows -/
theorem grow {pins : List (Addr × Obj)} {σ : L2.St} {H : Hp} {s : Shared} (I : Inv X pins σ H s) :
    Inv X pins σ (upd H s.heap.objs.size (.lst [])) { s with heap := s.heap.push { cls := .type "list", data := .seq ([] : List Value).toArray } } :=
  I.laid (t' := s.toks) (fun b o e => Heap.get?_push_of_some _ e) (Nat.le_refl _) ⟨Nat.zero_le _, [], 0, .nil, Heap.get?_push_size _ rfl⟩

/-- the block's loop, by the readings of its target, tests and element -/
theorem lc_loop {B : Cx} {R : Result → Shared → Prop} {elt tg iter : Expr} {ifs : List Expr} {pos : Pos} {g : TG} {tt : TT} {te : TE} {J : It} {it D : Addr} {tn : Nat → Heap → Prop} {W : Nat → Nat → Hp → Prop} {σ : L2.St} {vs : List Nat}
    (hc : B.calm = true) (hxe : B.xe = fun _ _ => False) (T : Turn B.prog B.w B.K tg J fp it tn) (pg : PG B tg g) (pt : PTs B ifs tt) (pe : PE B elt te)
    (fpok : ∀ (pins : List (Addr × Obj)) (τ : L2.St) (H : Hp) (s : Shared), Inv B [] τ H s → (∀ b ∈ fp, H b = none) → ∀ b ∈ fp, FpOk B [] H b)
    (turn : ∀ (i m : Nat) (H : Hp), W i m H → (J.stop i H ∧ ∀ s, Inv B [] σ H s → R (.ok .next) s) ∨
      (J.go i H ∧ ∃ Nx : Hp → Prop, (∀ H', Nx H' → ∃ m', m' < m ∧ W (i + 1) m' H') ∧ ∀ x H', J.yld i H x H' → g x σ H' fun σ2 H2 => wipe σ2 vs = σ ∧ tt σ2 H2 fun b H3 =>
        if b = true then te σ2 H3 fun y H4 => ∃ acc, H4 D = some (.lst acc) ∧ acc.length < sizeLine ∧ Nx (upd H4 D (.lst (acc ++ [y]))) else Nx H3))
    {m : Nat} {H : Hp} {s : Shared} (I : Inv B [] σ H s) (st : tn 0 s.heap) (hn : ∀ b ∈ fp, H b = none) (w : W 0 m H) :
    codeAny (model B.prog B.w) B.A (.compLoop (.ListComp elt [⟨tg, iter, ifs, 0⟩] scope pos) 0 (.ref it) (.ref D) B.env) R s := by
  refine compLoop_any (fun n s' => ∃ i H', Inv B [] σ H' s' ∧ tn i s'.heap ∧ (∀ b ∈ fp, H' b = none) ∧ W i n H') ?_ m ⟨0, H, I, st, hn, w⟩
  rintro n s5 ⟨i, H5, I5, st5, n5, w5⟩
  rcases turn i n H5 w5 with ⟨stop, fin⟩ | ⟨go, Nx, less, step⟩
  · refine thnF (T.done B rfl rfl rfl hc i [] s5 σ H5 (fun _ _ => False) I5 (fpok [] _ _ _ I5 n5) st5 stop) fun r s6 x => ?_
    obtain ⟨rfl, I6⟩ := x
    exact fin _ I6
  · refine thnF (T.item B rfl rfl rfl hc i [] s5 σ H5 (fun _ _ => False) I5 (fpok [] _ _ _ I5 n5) st5 go) fun r s6 x => ?_
    obtain ⟨u, rfl, x⟩ := x
    refine thnF x fun _ s7 y => ?_
    obtain ⟨v, H7, I7, rv, yl, st7, n7⟩ := y
    have P7 := I7.pinned (fpok [] _ _ _ I7 n7) (T.obj _ _ st7)
    have pg1 := pg.run _ s7 σ H7 v u _ P7 rv (step v H7 yl)
    rw [hxe] at pg1
    refine thnF pg1 fun _ s8 x8 => ?_
    obtain ⟨σ8, H8, I8, back, q8⟩ := x8
    have pt1 := pt.run _ s8 σ8 H8 _ I8 q8
    rw [hxe] at pt1
    refine thnF pt1 fun b s9 x9 => ?_
    obtain ⟨H9, I9, q9⟩ := x9
    have next : ∀ (H' : Hp) (s' : Shared), Inv B ([] ++ pinsAt fp s7.heap) σ8 H' s' → Nx H' → ∃ m, m < n ∧ ∃ i H', Inv B [] σ H' s' ∧ tn i s'.heap ∧ (∀ b ∈ fp, H' b = none) ∧ W i m H' := fun H' s' I' nx => by
      obtain ⟨m', lt, w'⟩ := less H' nx
      have stay : ∀ b ∈ fp, ∀ o, s7.heap.get? b = some o → s'.heap.get? b = some o ∧ H' b = none := fun b hb o e => by
        have z := I'.pin (b, o) (List.mem_append_right _ (List.mem_append_right _ (mem_pinsAt hb e)))
        exact ⟨z.1, z.2.1⟩
      have lens : σ.length = σ8.length := by rw [← back, wipe_length]
      refine ⟨m', lt, i + 1, H', (I'.unpinned (pins := [])).weak lens (fun j v e => ?_), T.keep _ _ _ st7 fun b hb o e => (stay b hb o e).1, fun b hb => ?_, w'⟩
      · rw [← back] at e
        exact (wipe_some e).1
      · obtain ⟨o, e, _⟩ := T.obj _ _ st7 b hb
        exact (stay b hb o e).2
    cases b with
    | false =>
      rw [if_neg Bool.false_ne_true] at q9
      rw [if_neg Bool.false_ne_true]
      exact next _ _ I9 q9
    | true =>
      rw [if_pos rfl] at q9
      rw [if_pos rfl]
      have pe1 := pe.run _ s9 σ8 H9 _ I9 q9
      rw [hxe] at pe1
      refine thnF pe1 fun z s10 x10 => ?_
      obtain ⟨yv, H10, I10, r10, acc, hD, hz, nx⟩ := x10
      exact app_ok (X := B) I10 hD hz r10 fun s11 I11 => next _ _ I11 nx
/-- P: what the start of the block knows, of the slots and of the state; te: the element's reading, by the slots -/
theorem pe_lcS {P : L2.St → Shared → Hp → Prop} {elt tg iter : Expr} {ifs : List Expr} {pos : Pos} {wi : TI} {g : TG} {tt : TT} {te : L2.St → TE} (hc : X.calm = true) (hN : X.N.Nodup) (hi : PI X tg iter wi) (ok : BlkOk X.N X.env.scope scope own)
    (hP : ∀ (pins : List (Addr × Obj)) (σ : L2.St) (H : Hp) (s : Shared), Inv X pins σ H s → P σ s H)
    (hg : ∀ (s : Shared) (H : Hp) (C : Addr) (cl : List (Str × Addr)) (fp : List Addr), PG (X.blk s H scope (compEnvC scope cl C X.env) fp) tg g)
    (ht : ∀ (s : Shared) (H : Hp) (C : Addr) (cl : List (Str × Addr)) (fp : List Addr), PTs (X.blk s H scope (compEnvC scope cl C X.env) fp) ifs tt)
    (he : ∀ (σ : L2.St) (s : Shared) (H : Hp) (C : Addr) (cl : List (Str × Addr)) (fp : List Addr), P σ s H → (∀ b ∈ fp, ∃ o, s.heap.get? b = some o ∧ ∀ v, o.data ≠ .cell v) → PE (X.blk s H scope (compEnvC scope cl C X.env) fp) elt (te σ)) (hs : ∀ x, foldedSetIterable iter X.env x = pure x := by intro _; rfl) :
    PE X (.ListComp elt [⟨tg, iter, ifs, 0⟩] scope pos) (fun σ H Q => tLc wi g tt (te σ) (own.map (·.2)) σ H Q) := by
  refine ⟨fun pins s σ H Q I h => ?_⟩
  rw [eval_ListComp]
  have clo : ∀ y ∈ scope.names, y.2 = .free → ∃ c, X.env.cells.lookup y.1 = some c := fun y hy e => (ok.free y hy e).elim (fun k => I.ok.has _ (.inl k)) fun k => I.ok.has _ (.inr k)
  refine wpAny_comprehension_free (use := none) rfl hs (closure_ok clo) ok.kind (fun y hy e => (ok.uniq y hy).trans (congrArg some e))
    (thn (hi.run pins s σ H _ I h) fun xv s1 hx => thn hx fun itv s2 h2 => ?_)
  obtain ⟨it, fp, tn, J, H2, rfl, I2, T, st2, f2, q⟩ := h2
  refine wpAny_newObj_type (newEnv_comp ?_) (show 0 ≤ sizeLine by decide)
  have hDn : H2 s2.heap.objs.size = none := I2.hok.fresh (Nat.le_refl _)
  obtain ⟨W, ⟨m0, w0⟩, turn⟩ := q _ hDn
  have I3 := grow I2
  have old : ∀ b ∈ fp, b < s2.heap.objs.size := fun b hb => (T.obj _ _ st2 b hb).elim fun o e => Heap.lt_size e.1
  generalize hD : s2.heap.objs.size = D at *
  generalize hs3 : ({ s2 with heap := s2.heap.push { cls := .type "list", data := .seq ([] : List Value).toArray } } : Shared) = s3 at *
  have k3 : ∀ b o, s2.heap.get? b = some o → s3.heap.get? b = some o := fun b o e => by
    rw [← hs3]
    exact Heap.get?_push_of_some _ e
  have z3 : s3.heap.objs.size = D + 1 := by
    rw [← hs3, ← hD]
    exact Heap.size_push ..
  have st3 : tn 0 s3.heap := T.keep _ _ _ st2 fun b _ o e => k3 b o e
  have f3 : ∀ b ∈ fp, FpOk X pins (upd H2 D (.lst [])) b ∧ b < s3.heap.objs.size := fun b hb =>
    ⟨⟨(upd_ne (Nat.ne_of_lt (old b hb))).trans (f2 b hb).1, (f2 b hb).2⟩, by rw [z3]; exact Nat.lt_succ_of_lt (old b hb)⟩
  generalize hH3 : upd H2 D (.lst []) = H3 at *
  have know := hP pins σ H3 s3 I3
  have I4 := block_start I3 ok hN f3
  have pe := he σ s3 H3 s3.heap.objs.size (cellsFrom (s3.heap.objs.size + 1) scope.names (cloFrom X.env.cells scope.names [])) fp know (T.obj _ _ st3)
  have pg := hg s3 H3 s3.heap.objs.size (cellsFrom (s3.heap.objs.size + 1) scope.names (cloFrom X.env.cells scope.names [])) fp
  have pt := ht s3 H3 s3.heap.objs.size (cellsFrom (s3.heap.objs.size + 1) scope.names (cloFrom X.env.cells scope.names [])) fp
  show codeAny _ _ (.compStart (.ListComp elt [⟨tg, iter, ifs, 0⟩] scope pos) 0 (.ref it) (.ref D) (blkEnv X scope s3)) (compPost (model X.prog X.w) X.A X.xe none _ (.ref D) s3.heap.objs.size) (blkS scope s3)
  have st4 : tn 0 (blkS scope s3).heap := T.keep _ _ _ st3 fun b _ o e => pushCells_keeps _ _ _ _ (Heap.get?_push_of_some _ e)
  have nfp : ∀ b ∈ fp, H3 b = none := fun b hb => (f3 b hb).1.1
  have loop : codeAny (model X.prog X.w) X.A (.compLoop (.ListComp elt [⟨tg, iter, ifs, 0⟩] scope pos) 0 (.ref it) (.ref D) (blkEnv X scope s3))
      (compPost (model X.prog X.w) X.A X.xe none (EP X pins σ Q) (.ref D) s3.heap.objs.size) (blkS scope s3) := by
    refine lc_loop (B := X.blk s3 H3 scope (blkEnv X scope s3) fp) (σ := wipe σ (own.map (·.2))) (vs := own.map (·.2)) (W := W) hc rfl T pg pt pe (fun _ τ H' s' J' n' b hb => ?_) (fun i m H' w' => ?_) I4 st4 nfp w0
    · refine ⟨n' b hb, (J'.ok.exf b hb).1, J'.ok.exfs b hb, .inl hb, fun x c e => (J'.ok.exf b hb).2 x c e, fun p hp => ?_⟩
      exact absurd (show p ∈ ([] : List (Addr × Obj)) ++ [] from hp) (by simp)
    · rcases turn i m H' w' with ⟨a, b⟩ | ⟨a, Nx, b, c⟩
      · refine .inl ⟨a, fun s' J' => ?_⟩
        obtain ⟨I6, m6, ns6, f6⟩ := blk_out I3 (fun b hb => (f3 b hb).1) J'
        obtain ⟨f0, f1, f2, f3', f4, f5⟩ := f6
        exact ⟨m6, ns6, fun h'' sb => ⟨.ref D, H', I6.turned (t' := s'.toks) (fun b o hb e => (sb.2 b hb).trans e) f0 f1 f3' f4 f5, rfl, b⟩⟩
      · exact .inr ⟨a, Nx, b, c⟩
  exact codeAny_compStart_list loop (T.self X.A 0 _ _ _ st4 loop)
end

/-! ### what a comprehension gathers -/
section
/-- the values of the first n turns -/
def gather (f : Nat → Option V) (n : Nat) : List V := (List.range n).filterMap f
theorem gather_zero (f : Nat → Option V) : gather f 0 = [] := rfl
theorem gather_some {f : Nat → Option V} {n : Nat} {y : V} (h : f n = some y) : gather f (n + 1) = gather f n ++ [y] := by
  unfold gather
  rw [List.range_succ, List.filterMap_append]
  simp [h]
theorem gather_none {f : Nat → Option V} {n : Nat} (h : f n = none) : gather f (n + 1) = gather f n := by
  unfold gather
  rw [List.range_succ, List.filterMap_append]
  simp [h]
theorem gather_len (f : Nat → Option V) (n : Nat) : (gather f n).length ≤ n := by
  unfold gather
  exact Nat.le_trans (List.length_filterMap_le ..) (by simp)
/-- over a list: the items kept, each made anew -/
theorem gather_take {α : Type} (xs : List α) (p : α → Option V) : ∀ n, n ≤ xs.length → gather (fun i => (xs[i]?).bind p) n = (xs.take n).filterMap p
  | 0, _ => rfl
  | n + 1, h => by
    have ih := gather_take xs p n (by omega)
    have hn : xs[n]? = some (xs[n]'(by omega)) := List.getElem?_eq_getElem (by omega)
    rw [List.take_add_one, hn, List.filterMap_append, ← ih]
    cases e : p (xs[n]'(by omega)) with
    | none =>
      rw [gather_none (by rw [hn]; exact e)]
      simp [e]
    | some y =>
      rw [gather_some (y := y) (by rw [hn]; exact e)]
      simp [e]
theorem gather_list {α : Type} (xs : List α) (p : α → Option V) : gather (fun i => (xs[i]?).bind p) xs.length = xs.filterMap p := by
  rw [gather_take xs p _ (Nat.le_refl _), List.take_length]
theorem gather_map {α : Type} (xs : List α) (f : α → V) : gather (fun i => (xs[i]?).map f) xs.length = xs.map f := by
  have e : (fun i : Nat => (xs[i]?).map f) = fun i : Nat => (xs[i]?).bind fun x => some (f x) := by
    funext i
    cases xs[i]? <;> rfl
  rw [e, gather_list]
  simp
theorem gather_fn (f : Nat → V) (n : Nat) : gather (fun i => some (f i)) n = (List.range n).map f := by
  unfold gather
  simp
/-- a comprehension whose turns leave what is known: f i, what the i-th turn gives -/
theorem lc_gather {J : It} {n : Nat} {G : Hp → Prop} {Y : Nat → Hp → V → Hp → Prop} (w : Walk J n G Y) {g : TG} {tt : TT} {te : TE} {vs : List Nat} {σ : L2.St} {H1 : Hp} {D : Addr} {Qd : Hp → Prop} (f : Nat → Option V) (hD : H1 D = none) (hz : n ≤ sizeLine)
    (hG : ∀ H, Same H1 H → G H)
    (hs : ∀ i x H H', i < n → Same H1 H → Y i H x H' → ∀ R : Option V → Hp → Prop, (∀ H4, Same H H4 → R (f i) H4) →
      g x (wipe σ vs) H' fun σ2 H2 => wipe σ2 vs = wipe σ vs ∧ tt σ2 H2 fun b H3 => if b = true then te σ2 H3 fun y H4 => R (some y) H4 else R none H3)
    (hd : ∀ H, Same H1 H → H D = some (.lst (gather f n)) → Qd H) :
    ∃ W : Nat → Nat → Hp → Prop, (∃ m, W 0 m (upd H1 D (.lst []))) ∧ ∀ i m H, W i m H →
      (J.stop i H ∧ Qd H) ∨ (J.go i H ∧ ∃ Nx : Hp → Prop, (∀ H', Nx H' → ∃ m', m' < m ∧ W (i + 1) m' H') ∧ ∀ x H', J.yld i H x H' → g x (wipe σ vs) H' fun σ2 H2 => wipe σ2 vs = wipe σ vs ∧ tt σ2 H2 fun b H3 =>
        if b = true then te σ2 H3 fun y H4 => ∃ acc, H4 D = some (.lst acc) ∧ acc.length < sizeLine ∧ Nx (upd H4 D (.lst (acc ++ [y]))) else Nx H3) := by
  have s0 : ∀ o, Same H1 (upd H1 D o) := fun o b u e => by rw [upd_ne (ne_of_none e hD)]; exact e
  refine lc_it w (fun i H => Same H1 H ∧ H D = some (.lst (gather f i))) ⟨s0 _, upd_same⟩ (fun i H _ p => hG H p.1) (fun i x H H' hi p y => ?_) fun H p => hd H p.1 p.2
  obtain ⟨p1, p2⟩ := p
  refine hs i x H H' hi p1 y (fun oy H4 => match oy with
    | some y => ∃ acc, H4 D = some (.lst acc) ∧ acc.length < sizeLine ∧ Same H1 (upd H4 D (.lst (acc ++ [y]))) ∧ upd H4 D (.lst (acc ++ [y])) D = some (.lst (gather f (i + 1)))
    | none => Same H1 H4 ∧ H4 D = some (.lst (gather f (i + 1)))) fun H4 q => ?_
  have p4 := p1.trans q
  cases e : f i with
  | none => exact ⟨p4, by rw [gather_none e]; exact q _ _ p2⟩
  | some y =>
    refine ⟨gather f i, q _ _ p2, Nat.lt_of_le_of_lt (gather_len f i) (Nat.lt_of_lt_of_le hi hz), fun b u z => ?_, by rw [upd_same, gather_some e]⟩
    rw [upd_ne (ne_of_none z hD)]
    exact p4 b u z
/-- .. without tests -/
theorem lc_map {J : It} {n : Nat} {G : Hp → Prop} {Y : Nat → Hp → V → Hp → Prop} (w : Walk J n G Y) {g : TG} {te : TE} {vs : List Nat} {σ : L2.St} {H1 : Hp} {D : Addr} {Qd : Hp → Prop} (f : Nat → Option V) (hD : H1 D = none) (hz : n ≤ sizeLine)
    (hG : ∀ H, Same H1 H → G H)
    (hs : ∀ i x H H', i < n → Same H1 H → Y i H x H' → ∀ R : V → Hp → Prop, (∀ y H4, Same H H4 → f i = some y → R y H4) →
      g x (wipe σ vs) H' fun σ2 H2 => wipe σ2 vs = wipe σ vs ∧ te σ2 H2 R) (hf : ∀ i, i < n → ∃ y, f i = some y)
    (hd : ∀ H, Same H1 H → H D = some (.lst (gather f n)) → Qd H) :
    ∃ W : Nat → Nat → Hp → Prop, (∃ m, W 0 m (upd H1 D (.lst []))) ∧ ∀ i m H, W i m H →
      (J.stop i H ∧ Qd H) ∨ (J.go i H ∧ ∃ Nx : Hp → Prop, (∀ H', Nx H' → ∃ m', m' < m ∧ W (i + 1) m' H') ∧ ∀ x H', J.yld i H x H' → g x (wipe σ vs) H' fun σ2 H2 => wipe σ2 vs = wipe σ vs ∧ tYes σ2 H2 fun b H3 =>
        if b = true then te σ2 H3 fun y H4 => ∃ acc, H4 D = some (.lst acc) ∧ acc.length < sizeLine ∧ Nx (upd H4 D (.lst (acc ++ [y]))) else Nx H3) := by
  refine lc_gather w f hD hz hG (fun i x H H' hi s y R k => ?_) hd
  have z := hs i x H H' hi s y (fun y H4 => R (some y) H4) fun y H4 q e => by
    have := k H4 q
    rw [e] at this
    exact this
  exact z
/-- .. whose turns make new things: Rl i y H, what holds of the i-th -/
theorem lc_rel {J : It} {n : Nat} {G : Hp → Prop} {Y : Nat → Hp → V → Hp → Prop} (w : Walk J n G Y) {g : TG} {te : TE} {vs : List Nat} {σ : L2.St} {H1 : Hp} {D : Addr} {Qd : Hp → Prop} (Rl : Nat → V → Hp → Prop) (hD : H1 D = none) (hz : n ≤ sizeLine)
    (hG : ∀ H, Same H1 H → G H) (stable : ∀ i y H H', (∀ b xs, H b = some (.tup xs) → H' b = some (.tup xs)) → Rl i y H → Rl i y H')
    (hs : ∀ i x H H', i < n → Same H1 H → Y i H x H' → ∀ R : V → Hp → Prop, (∀ y H4, Same H H4 → Rl i y H4 → R y H4) →
      g x (wipe σ vs) H' fun σ2 H2 => wipe σ2 vs = wipe σ vs ∧ te σ2 H2 R)
    (hd : ∀ H ys, Same H1 H → H D = some (.lst ys) → ys.length = n → (∀ i y, ys[i]? = some y → Rl i y H) → Qd H) :
    ∃ W : Nat → Nat → Hp → Prop, (∃ m, W 0 m (upd H1 D (.lst []))) ∧ ∀ i m H, W i m H →
      (J.stop i H ∧ Qd H) ∨ (J.go i H ∧ ∃ Nx : Hp → Prop, (∀ H', Nx H' → ∃ m', m' < m ∧ W (i + 1) m' H') ∧ ∀ x H', J.yld i H x H' → g x (wipe σ vs) H' fun σ2 H2 => wipe σ2 vs = wipe σ vs ∧ tYes σ2 H2 fun b H3 =>
        if b = true then te σ2 H3 fun y H4 => ∃ acc, H4 D = some (.lst acc) ∧ acc.length < sizeLine ∧ Nx (upd H4 D (.lst (acc ++ [y]))) else Nx H3) := by
  have s0 : ∀ o, Same H1 (upd H1 D o) := fun o b u e => by rw [upd_ne (ne_of_none e hD)]; exact e
  refine lc_it w (fun i H => Same H1 H ∧ ∃ ys, H D = some (.lst ys) ∧ ys.length = i ∧ ∀ j y, ys[j]? = some y → Rl j y H) ⟨s0 _, [], upd_same, rfl, fun j y e => by simp at e⟩ (fun i H _ p => hG H p.1) (fun i x H H' hi p y => ?_) fun H p => ?_
  · obtain ⟨p1, ys, p2, p3, p4⟩ := p
    have z := hs i x H H' hi p1 y (fun y H4 => ∃ acc, H4 D = some (.lst acc) ∧ acc.length < sizeLine ∧ Same H1 (upd H4 D (.lst (acc ++ [y]))) ∧
      ∃ ys, upd H4 D (.lst (acc ++ [y])) D = some (.lst ys) ∧ ys.length = i + 1 ∧ ∀ j y', ys[j]? = some y' → Rl j y' (upd H4 D (.lst (acc ++ [y])))) fun y H4 q r => by
        have e4 := q _ _ p2
        have tups : ∀ o b xs, H4 b = some (.tup xs) → upd H4 D o b = some (.tup xs) := fun o b xs e => by
          by_cases hb : b = D
          · rw [hb, e4] at e
            cases e
          · rw [upd_ne hb]
            exact e
        refine ⟨ys, e4, by rw [p3]; exact Nat.lt_of_lt_of_le hi hz, fun b u e => by rw [upd_ne (ne_of_none e hD)]; exact (p1.trans q) b u e, ys ++ [y], upd_same, by simp [p3], fun j y' e => ?_⟩
        by_cases hj : j < ys.length
        · rw [List.getElem?_append_left hj] at e
          exact stable j y' H4 _ (tups _) (stable j y' H H4 (fun b xs e => q _ _ e) (p4 j y' e))
        · rw [List.getElem?_append_right (by omega)] at e
          have ej : j = ys.length := by
            have := (List.getElem?_eq_some_iff.mp e).1
            simp at this
            omega
          subst ej
          simp at e
          subst e
          rw [p3]
          exact stable _ _ H4 _ (tups _) r
    exact z
  · obtain ⟨p1, ys, p2, p3, p4⟩ := p
    exact hd H ys p1 p2 p3 p4
end
end Sho
set_option Elab.async false
set_option linter.all false
set_option maxRecDepth 100000
set_option maxHeartbeats 2000000
/-! Lambdas as objects that are known: made (with a default or without), called. -/
namespace Sho
open PySem PySem.Spec PyProof.Rows L2 LamX NdefX

/-- a lambda's words: those of a def without a body, its expression, its defaults -/
structure LF where
  F : NF
  e : Expr
  dV : Value
abbrev LF.fd (Z : LF) (pm ctv : Value) : FuncData :=
  { PySem.W.kla_fn Z.F.name Z.F.qual Z.F.params Z.e Z.F.scope Z.F.cl pm (.ref Z.F.c) ctv with defaults := Z.dV }
/-- the object at f is that lambda -/
def LamO (f : Addr) (Z : LF) : HO :=
  .ext fun g => ∃ pm ctv : Value, g.get? f = some (({ cls := .type "function", data := .func (Z.fd pm ctv) }) : Obj)
theorem lamO_ne {f : Addr} {Z : LF} (qs : Array Value) : LamO f Z ≠ .tbl qs := fun h => nomatch h
theorem lamO_at {P : Program} {w : World} {H : Hp} {h : Heap} {f : Addr} {Z : LF} (ok : HOk P w H h) (hf : H f = some (LamO f Z)) :
    ∃ pm ctv : Value, h.get? f = some (({ cls := .type "function", data := .func (Z.fd pm ctv) }) : Obj) := by
  obtain ⟨x, _, _⟩ := ok f _ hf
  exact x
/-- nothing that was known is forgotten, but for the tables -/
structure Grows (T : List (Addr × Str)) (H H1 : Hp) : Prop where
  ext : ExtN H H1
  tab : Tabs T H → Tabs T H1
theorem Grows.rfl' {T : List (Addr × Str)} (H : Hp) : Grows T H H := ⟨ExtN.refl H, id⟩
theorem Grows.trans {T : List (Addr × Str)} {H H1 H2 : Hp} (a : Grows T H H1) (b : Grows T H1 H2) : Grows T H H2 := ⟨a.ext.trans b.ext, fun t => b.tab (a.tab t)⟩
theorem Grows.upd {T : List (Addr × Str)} {H : Hp} {p : Addr} {o : HO} (hp : H p = none) : Grows T H (L2.upd H p o) := by
  have e : ∀ b u, H b = some u → L2.upd H p o b = some u := fun b u q => (upd_ne (ne_of_none q hp)).trans q
  exact ⟨ExtN.of e, fun t => Tabs.ext t e⟩
/-- the words of a lambda that is made in X -/
abbrev mkLF (X : Cx) (params : Arguments) (body : Expr) (scope : Scope) (c' : Addr) (dV : Value) : LF :=
  ⟨⟨"<lambda>", X.env.qual ++ "<lambda>", params, [], scope, cloFrom X.env.cells scope.names [], c'⟩, body, dV⟩
section
variable {M : Model} {A : Around} {E : Value → Shared → Prop} {s : Shared}
/-- the making's end, the code object by a premise -/
theorem tail_d {name qual : Str} {params : Arguments} {body : Expr} {scope : Scope} {env : Env} {dV : Value} {pos : Pos} {fl : Nat} {clos : List (Str × Addr)} {mg : Str → Option Value} {Pl : Addr} {Q : Value → Shared → Prop}
    (hcl : closureFor scope env = pure clos) (hge : env.globals = mainGlobals)
    (h : ∀ h1 ctv, (∀ b o, s.heap.get? b = some o → h1.get? b = some o) → s.heap.objs.size ≤ h1.objs.size →
      wpAny M A (functionCode env pos fl name qual params scope (.expr body)) (fun cv s2 => s2.heap.Ns mainGlobals mg ∧ s2.heap.BuiltinsAt mg Pl ∧
        Q (.ref s2.heap.objs.size) { s2 with heap := s2.heap.push { cls := .type "function", data := .func { PySem.W.kla_fn name qual params body scope clos ((mg "__name__").getD .none) cv ctv with defaults := dV } } }) E { s with heap := h1 }) :
    wpAny M A (makeTail name qual params (.expr body) scope env dV .none none pos fl) Q E s := by
  unfold makeTail
  rw [hcl]
  refine wpAny_bind (wpAny_pure ?_)
  cases clos with
  | nil =>
    simp only [List.isEmpty_nil, if_true]
    refine wpAny_bind (wpAny_pure (wpAny_bind (wpAny_mono (h s.heap .none (fun _ _ e => e) (Nat.le_refl _)) (fun cv s2 x => ?_) fun _ _ x => x)))
    obtain ⟨g2, ⟨bm, ob, b1, b2, _, _, b5, b6, b7, b8⟩, q⟩ := x
    rw [hge]
    exact wpAny_bind (wpAny_builtinsFor g2 b1 b2 b5 b6 b7 b8 (wpAny_bind (wpAny_nsGet g2 (wpAny_bind (wpAny_pure (wpAny_newObj_type q (by size_fits)))))))
  | cons c r =>
    simp only [List.isEmpty_cons, Bool.false_eq_true, if_false]
    refine wpAny_bind (wpAny_newTextTuple (wpAny_bind (wpAny_mono (h _ (.ref s.heap.objs.size) (fun _ _ e => Heap.get?_push_of_some _ e) (by rw [Heap.size_push]; omega)) (fun cv s2 x => ?_) fun _ _ x => x)))
    obtain ⟨g2, ⟨bm, ob, b1, b2, _, _, b5, b6, b7, b8⟩, q⟩ := x
    rw [hge]
    exact wpAny_bind (wpAny_builtinsFor g2 b1 b2 b5 b6 b7 b8 (wpAny_bind (wpAny_nsGet g2 (wpAny_bind (wpAny_pure (wpAny_newObj_type q (by size_fits)))))))
end
section
variable {X : Cx} {pins : List (Addr × Obj)} {σ : L2.St} {H : Hp} {s : Shared}
theorem lamO_new {Z : LF} {tk : Nat} {pm ctv : Value} (I : Inv X pins σ H s) :
    Inv X pins σ (upd H s.heap.objs.size (LamO s.heap.objs.size Z))
      { s with heap := s.heap.push (({ cls := .type "function", data := .func (Z.fd pm ctv) }) : Obj), toks := tk } := by
  refine I.laid (fun b u e => Heap.get?_push_of_some _ e) (Nat.le_refl _) ?_
  have here : (s.heap.push (({ cls := .type "function", data := .func (Z.fd pm ctv) }) : Obj)).get? s.heap.objs.size = some (({ cls := .type "function", data := .func (Z.fd pm ctv) }) : Obj) :=
    Heap.get?_push_size _ rfl
  exact ⟨⟨pm, ctv, here⟩, ⟨_, here⟩, fun g1 g2 ⟨p, t, z⟩ st => ⟨p, t, st _ z⟩⟩

theorem lam_made {T : List (Addr × Str)} {c P : Addr} {params : Arguments} {body : Expr} {scope : Scope} {pos : Pos} {dV : Value} {E : Value → Shared → Prop} {Q : Value → Shared → Prop}
    (I : Inv X pins σ H s) (TB : TabB X.base X.mg c P) (hcode : X.env.code = .ref c)
    (hm : (P, X.env.qual ++ "<lambda>") ∈ T) (hu : ∀ p ∈ T, p.1 = P → p.2 = X.env.qual ++ "<lambda>") (hT : Tabs T H)
    (hcl : ∀ y ∈ scope.names, y.2 = .free → ∃ c, X.env.cells.lookup y.1 = some c)
    (h : ∀ (f c' : Addr) (H1 : Hp) (s' : Shared), Inv X pins σ H1 s' → Grows T H H1 → H f = none →
      H1 f = some (LamO f (mkLF X params body scope c' dV)) → H1 c' = some (CodeO c' (X.env.qual ++ "<lambda>")) → Q (.ref f) s') :
    wpAny (model X.prog X.w) X.A (makeTail "<lambda>" (X.env.qual ++ "<lambda>") params (.expr body) scope X.env dV .none none pos pos.line) Q E s := by
  obtain ⟨qs, hP, tri, among⟩ := (show TabS H P (X.env.qual ++ "<lambda>") from hT _ hm)
  refine tail_d (mg := X.mg) (Pl := P) (closure_ok hcl) I.ok.glob fun h1 ctv k1 z1 => ?_
  have I1 : Inv X pins σ H { s with heap := h1 } := I.kept (t' := s.toks) k1
  have hgP : h1.get? P = some { cls := .none, data := .fields qs } := I1.hok P _ hP
  have hbP := TB.bm.keeps I1.bk
  have CH := TB.code.keeps I1.bk
  cases hit : codeAmong pos qs.toList with
  | some cv =>
    obtain ⟨c', rfl, kc⟩ := among pos cv hit
    refine wpAny_functionCode_hit hcode (CH.code hgP tri) hit ⟨I1.mod.glob.keeps I1.bk, hbP, ?_⟩
    have nF : H h1.objs.size = none := I1.hok.fresh (Nat.le_refl _)
    exact h h1.objs.size c' _ _ (lamO_new (Z := mkLF X params body scope c' dV) (pm := (X.mg "__name__").getD .none) (ctv := ctv) (tk := s.toks) I1) (Grows.upd nF) nF upd_same
      ((upd_ne (ne_of_none kc nF)).trans kc)
  | none =>
    refine wpAny_functionCodeX hcode (CH.code hgP tri) (CH.tab hgP) hit fun c' h' tk hx hge hlt _ hrec htb _ => ?_
    have gl := (I1.mod.glob.keeps I1.bk).extBut hx TB.gP
    have bl : h'.BuiltinsAt X.mg P := by
      obtain ⟨bm, ob, b1, b2, b3, b4, b5, b6⟩ := hbP
      exact ⟨bm, ob, b1, b2, b3, b4, hx _ _ b4 b5, b6⟩
    refine ⟨gl, bl, ?_⟩
    obtain ⟨c2, oc, vs, t, e2, hoc, hd, hv⟩ := hrec
    cases e2
    have nC : H c' = none := I1.hok.fresh hge
    have J := inv_table (q := X.env.qual ++ "<lambda>") (t' := tk) (more := #[rawInt pos.line, rawInt pos.col, .ref c']) (h' := h') I1 hP (fun b o hb e => hx b o hb e) htb.2 hge ⟨oc, vs, t, hoc, hd, hv⟩
    generalize hH2 : L2.upd (L2.upd H P (.tbl (qs ++ #[rawInt pos.line, rawInt pos.col, .ref c']))) c' (CodeO c' (X.env.qual ++ "<lambda>")) = H2 at J
    have kC : H2 c' = some (CodeO c' (X.env.qual ++ "<lambda>")) := by rw [← hH2]; exact upd_same
    have ext : ExtN H H2 := fun b o e n => by
      have nP : b ≠ P := by
        rintro rfl
        exact n qs (Option.some.inj (e.symm.trans hP))
      rw [← hH2, upd_ne (ne_of_none e nC), upd_ne nP]
      exact e
    have eL : (qs ++ #[rawInt pos.line, rawInt pos.col, .ref c']).toList = qs.toList ++ [rawInt pos.line, rawInt pos.col, .ref c'] := by simp
    have tabs2 : Tabs T H2 := by
      intro p hp
      by_cases hb : p.1 = P
      · rw [hu p hp hb, hb]
        refine ⟨qs ++ #[rawInt pos.line, rawInt pos.col, .ref c'], ?_, ?_, ?_⟩
        · rw [← hH2, upd_ne (ne_of_none hP nC), upd_same]
        · rw [eL]
          exact PySem.TriplesOk_snoc _ _ _ _ tri
        · intro p' cv hcv
          rw [eL] at hcv
          rcases among_app _ tri hcv with z | z
          · obtain ⟨c0, f1, f2⟩ := among p' cv z
            exact ⟨c0, f1, ext _ _ f2 codeO_ne⟩
          · exact ⟨c', z, kC⟩
      · obtain ⟨qs', q1, q2, q3⟩ := hT p hp
        refine ⟨qs', ?_, q2, ?_⟩
        · rw [← hH2, upd_ne (ne_of_none q1 nC), upd_ne hb]
          exact q1
        · intro p' cv hcv
          obtain ⟨c0, f1, f2⟩ := q3 p' cv hcv
          exact ⟨c0, f1, ext _ _ f2 codeO_ne⟩
    have nF : H2 h'.objs.size = none := J.hok.fresh (Nat.le_refl _)
    have g2 : Grows T H2 (L2.upd H2 h'.objs.size (LamO h'.objs.size (mkLF X params body scope c' dV))) := Grows.upd nF
    exact h h'.objs.size c' _ _ (lamO_new (Z := mkLF X params body scope c' dV) (pm := (X.mg "__name__").getD .none) (ctv := ctv) (tk := tk) J) (Grows.trans ⟨ext, fun _ => tabs2⟩ g2)
      (I1.hok.fresh (Nat.le_trans hge (Nat.le_of_lt hlt))) upd_same (g2.ext _ _ kC codeO_ne)
end

/-! ### calls -/
section
variable {CX : CXT} {P : Program} {w : World} {K : PySem.W.Frag} {mg : Str → Option Value} {base : Heap} {N ps fr : List Str} {Z : LF} {f : Addr} {k : Nat}
/-- the body's context, at its entry -/
abbrev lcx (CX : CXT) (P : Program) (w : World) (K : PySem.W.Frag) (mg : Str → Option Value) (base : Heap) (N : List Str) (Z : LF) (f : Addr) (A : Around) (outer : List Env) (s : Shared) (H : Hp) (E : XK) : Cx :=
  ncx CX P w K mg base N Z.F f A outer s H E
theorem lam_call {A : Around} {outer : List Env} {s : Shared} {H : Hp} {args : Args} {us : List Value} {vs : List V} {ws : List (Option V)} {Q : VK} {E : XK} {t : TE} {pm ctv : Value}
    (S : NScope N ps fr Z.F.scope) (hr : Room (k + 1) A) (e0 : Env0 P w K mg base A outer s H)
    (ho : s.heap.get? f = some (({ cls := .type "function", data := .func (Z.fd pm ctv) }) : Obj)) (hcr : s.heap.CodeRec (.ref Z.F.c) Z.F.qual)
    (hb : BindsTo s (Z.fd pm ctv) args (ps.zip us)) (hl : vs.length = ps.length) (C : CellsAt Z.F.cl fr ws s.heap H) (r : Vals vs us)
    (hbody : Room k (A.deeper (envF Z.F f s.heap.objs.size)) → PE (lcx CX P w K mg base N Z f A outer s H E) Z.e t) (hq : t (startF N vs ws) H Q) :
    codeAny (model P w) A (.call (.ref f) args) (CR CX outer P w H s Q E) s := by
  have nolim : s.heap.NoLimit := e0.mod.nolimit.keeps fun b o e => (e0.bs b o e).1
  refine PySem.W.kla_callFunE hr.depth ho rfl S.co S.gen rfl hcr ?_
  refine hb _ _ _ _ ?_
  refine wpAny_newFunctionEnv S.nocell (fun ⟨n, _⟩ hy => S.par n (List.of_mem_zip hy).1) (fun h₁ hns hsb => ⟨nolim.fresh _ hsb, ?_⟩) S.kind
  show codeAny _ _ (.expr Z.e (envF Z.F f s.heap.objs.size)) _ _
  have kp : ∀ b o, s.heap.get? b = some o → h₁.get? b = some o :=
    fun b o e => hsb.extBut b o (Nat.ne_of_lt (Heap.lt_size e)) (Heap.get?_push_of_some _ e)
  have J : Inv (lcx CX P w K mg base N Z f A outer s H E) [] (startF N vs ws) H { s with heap := h₁, toks := s.toks + (ps.zip us).length } :=
    inv_startN S hr.hd e0 hl r C hns kp
  refine PySem.W.kla_codeExpr (wpAny_mono ((hbody (hr.deeper _)).run [] _ _ H Q J hq) (fun v s' hh => ?_) fun e s' hh => hh)
  obtain ⟨v', H', J', rv, q⟩ := hh
  exact ⟨v', H', J'.os, J'.bare, J'.base, J'.hok, rv, q⟩
/-- what the heap knows of a lambda at f -/
structure LamAt (H : Hp) (f : Addr) (Z : LF) : Prop where
  o : H f = some (LamO f Z)
  c : H Z.F.c = some (CodeO Z.F.c Z.F.qual)
  d : ∀ T : Addr, Z.dV = .ref T → ∃ xs, H T = some (.tup xs) ∧ xs = [.int 0]
theorem LamAt.ext {H H1 : Hp} (a : LamAt H f Z) (e : ExtN H H1) : LamAt H1 f Z :=
  ⟨e _ _ a.o lamO_ne, e _ _ a.c codeO_ne, fun T h => (a.d T h).elim fun xs q => ⟨xs, e _ _ q.1 (fun ps z => nomatch z), q.2⟩⟩
abbrev SpL := List (Option V) → Hp → VK → XK → Prop
/-- f may be called without arguments; cl, fr: its captured cells; sp: by what they hold -/
def Act (P : Program) (w : World) (K : PySem.W.Frag) (mg : Str → Option Value) (base : Heap) (CX : CXT) (k : Nat) (cl : List (Str × Addr)) (fr : List Str) (sp : SpL) (f : Addr) (H : Hp) : Prop :=
  ∃ Z : LF, Z.F.cl = cl ∧ LamAt H f Z ∧ ∀ (A : Around) (outer : List Env) (s : Shared) (H' : Hp) (ws : List (Option V)) (Q : VK) (E : XK), Room k A → Env0 P w K mg base A outer s H' → LamAt H' f Z →
    CellsAt cl fr ws s.heap H' → sp ws H' Q E → codeAny (model P w) A (.call (.ref f) ⟨[], []⟩) (CR CX outer P w H' s Q E) s
theorem Act.ext {cl : List (Str × Addr)} {sp : SpL} {H H1 : Hp} (a : Act P w K mg base CX k cl fr sp f H) (e : ExtN H H1) : Act P w K mg base CX k cl fr sp f H1 := by
  obtain ⟨Z, h1, h2, h3⟩ := a
  exact ⟨Z, h1, h2.ext e, h3⟩
theorem Act.mono {cl : List (Str × Addr)} {sp sp' : SpL} {H : Hp} {k' : Nat} (a : Act P w K mg base CX k cl fr sp f H) (h : k ≤ k') (i : ∀ ws H Q E, sp' ws H Q E → sp ws H Q E) : Act P w K mg base CX k' cl fr sp' f H := by
  obtain ⟨Z, h1, h2, h3⟩ := a
  exact ⟨Z, h1, h2, fun A outer s H' ws Q E hr e0 l c q => h3 A outer s H' ws Q E (hr.mono h) e0 l c (i _ _ _ _ q)⟩
/-- a lambda without parameters -/
theorem act0 {sp : SpL} {H : Hp} (l : LamAt H f Z) (S : NScope N [] fr Z.F.scope) (hb : ∀ pm ctv : Value, bindArgs (Z.fd pm ctv) ⟨[], []⟩ = pure [])
    (hbody : ∀ (A : Around) (outer : List Env) (s : Shared) (H : Hp) (ws : List (Option V)) (Q : VK) (E : XK), Room k (A.deeper (envF Z.F f s.heap.objs.size)) → ws.length = fr.length → sp ws H Q E →
      ∃ t, PE (lcx CX P w K mg base N Z f A outer s H E) Z.e t ∧ t (startF N [] ws) H Q) : Act P w K mg base CX (k + 1) Z.F.cl fr sp f H := by
  refine ⟨Z, rfl, l, fun A outer s H' ws Q E hr e0 l' C h => ?_⟩
  obtain ⟨pm, ctv, ho⟩ := lamO_at e0.hok l'.o
  obtain ⟨t, ht, hq⟩ := hbody A outer s H' ws Q E (hr.deeper _) C.len h
  exact lam_call (ps := []) (us := []) S hr e0 ho (codeO_at e0.hok l'.c) (.of_eq (hb pm ctv)) rfl C .nil (fun _ => ht) hq
/-- .. of one parameter, whose default is 0 -/
theorem act1 {x : Str} {T : Addr} {sp : SpL} {H : Hp} (l : LamAt H f Z) (hT : Z.dV = .ref T) (S : NScope N [x] fr Z.F.scope)
    (hb : ∀ (pm ctv u : Value), ∃ kk, bindArgs (Z.fd pm ctv) ⟨[], []⟩ = seqItems? Z.dV >>= kk ∧ kk (some #[u]) = pure [(x, u)])
    (hbody : ∀ (A : Around) (outer : List Env) (s : Shared) (H : Hp) (ws : List (Option V)) (Q : VK) (E : XK), Room k (A.deeper (envF Z.F f s.heap.objs.size)) → ws.length = fr.length → sp ws H Q E →
      ∃ t, PE (lcx CX P w K mg base N Z f A outer s H E) Z.e t ∧ t (startF N [.int 0] ws) H Q) : Act P w K mg base CX (k + 1) Z.F.cl fr sp f H := by
  refine ⟨Z, rfl, l, fun A outer s H' ws Q E hr e0 l' C h => ?_⟩
  obtain ⟨pm, ctv, ho⟩ := lamO_at e0.hok l'.o
  obtain ⟨xs, hx, rfl⟩ := l'.d T hT
  obtain ⟨_, its, rv, ht1⟩ := e0.hok T _ hx
  cases rv with
  | @cons _ u _ _ ru rn =>
  cases rn
  obtain ⟨t, ht, hq⟩ := hbody A outer s H' ws Q E (hr.deeper _) C.len h
  obtain ⟨kk, b1, b2⟩ := hb pm ctv u
  obtain ⟨oT, g1, _, n, g3⟩ := ht1
  refine lam_call (ps := [x]) (us := [u]) S hr e0 ho (codeO_at e0.hok l'.c) ?_ rfl C (.cons ru .nil) (fun _ => ht) hq
  exact BindsTo.of_defaults (fd := Z.fd pm ctv) (k := kk) hT g1 g3 b1 b2
end

/-! ### the rules: a lambda as a value -/
section
variable {X : Cx} {T : List (Addr × Str)} {c P : Addr} {params : Arguments} {body : Expr} {scope : Scope} {pos : Pos}
/-- the new lambda stands at f; mk: its words by its code object and its defaults -/
def tLamO (T : List (Addr × Str)) (mk : Addr → Value → LF) : TE := fun σ H Q => Tabs T H ∧ ∀ (f c' : Addr) (H1 : Hp), Grows T H H1 → H f = none → LamAt H1 f (mk c' .none) → Q (.ref f) H1
def tLamD (T : List (Addr × Str)) (mk : Addr → Value → LF) : TE := fun σ H Q => Tabs T H ∧ ∀ (f c' t : Addr) (H1 : Hp), Grows T H H1 → H f = none → LamAt H1 f (mk c' (.ref t)) → Q (.ref f) H1
theorem pe_lam (TB : TabB X.base X.mg c P) (hcode : X.env.code = .ref c)
    (hm : (P, X.env.qual ++ "<lambda>") ∈ T) (hu : ∀ p ∈ T, p.1 = P → p.2 = X.env.qual ++ "<lambda>")
    (hfree : ∀ y ∈ scope.names, y.2 = .free → X.env.scope.names.lookup y.1 = some .cell ∨ X.env.scope.names.lookup y.1 = some .free) (hdef : defaultsOf params X.env = ([], []) := by exact rfl) :
    PE X (.Lambda params body scope pos) (tLamO T (mkLF X params body scope)) := by
  refine ⟨fun pins s σ H Q I ⟨hT, h⟩ => PySem.W.kla_eval hdef ?_⟩
  rw [makeFunction_eq]
  simp only [List.zip_nil_right, List.filterMap_nil, List.isEmpty_nil, if_true, pure_bind]
  refine lam_made I TB hcode hm hu hT (fun y hy e => I.ok.has _ (hfree y hy e)) fun f c' H1 s' I1 g n1 e1 e2 => ?_
  exact ⟨.ref f, H1, I1, rfl, h f c' H1 g n1 ⟨e1, e2, fun t z => nomatch z⟩⟩
/-- a default that is an int: 0 -/
theorem pe_lamD {d : Expr} (TB : TabB X.base X.mg c P) (hcode : X.env.code = .ref c)
    (hm : (P, X.env.qual ++ "<lambda>") ∈ T) (hu : ∀ p ∈ T, p.1 = P → p.2 = X.env.qual ++ "<lambda>")
    (hfree : ∀ y ∈ scope.names, y.2 = .free → X.env.scope.names.lookup y.1 = some .cell ∨ X.env.scope.names.lookup y.1 = some .free)
    (hd : PE X d (tC (.int 0))) (hdef : defaultsOf params X.env = ([eval d X.env], []) := by exact rfl) :
    PE X (.Lambda params body scope pos) (tLamD T (mkLF X params body scope)) := by
  refine ⟨fun pins s σ H Q I ⟨hT, h⟩ => ?_⟩
  rw [arm_eval_Lambda, hdef]
  show wpAny _ X.A (do
    let dv ← evalAll [eval d X.env]
    let kdv ← holding dv (evalAllOpt [])
    makeFunction "<lambda>" (X.env.qual ++ "<lambda>") params (.expr body) scope X.env dv kdv [] pos pos.line) _ _ s
  refine wpAny_bind ?_
  show wpAny _ X.A (eval d X.env >>= fun v => _) _ _ s
  refine wpAny_bind (thn (hd.run pins s σ H (fun v H1 => v = .int 0 ∧ H1 = H) I ⟨rfl, rfl⟩) fun v s1 x => ?_)
  obtain ⟨v0, H1, I1, rv, rfl, rfl⟩ := x
  refine wpAny_bind (wpAny_holding (wpAny_pure (wpAny_pure ?_)))
  refine wpAny_bind (wpAny_holding (wpAny_pure ?_))
  rw [makeFunction_eq]
  simp only [List.zip_nil_right, List.filterMap_nil, List.isEmpty_nil, List.isEmpty_cons, Bool.false_eq_true, if_true, if_false, pure_bind]
  refine wpAny_bind (wpAny_newTextTuple ?_)
  have nT : H1 s1.heap.objs.size = none := I1.hok.fresh (Nat.le_refl _)
  have I2 : Inv X pins σ (upd H1 s1.heap.objs.size (.tup [.int 0])) { s1 with heap := s1.heap.push { cls := .type "tuple", data := .seq [v].toArray } } :=
    I1.laid (t' := s1.toks) (fun b o e => Heap.get?_push_of_some _ e) (Nat.le_refl _) ⟨by decide, [v], .cons rv .nil, _, Heap.get?_push_size _ rfl, rfl, 0, rfl⟩
  have G2 : Grows T H1 (upd H1 s1.heap.objs.size (.tup [.int 0])) := Grows.upd nT
  refine lam_made I2 TB hcode hm hu (G2.tab hT) (fun y hy e => I2.ok.has _ (hfree y hy e)) fun f c' H3 s' I3 g n1 e1 e2 => ?_
  have tT : H3 s1.heap.objs.size = some (.tup [.int 0]) := g.ext _ _ upd_same fun ps z => nomatch z
  have nf : H1 f = none := by
    by_cases z : f = s1.heap.objs.size
    · rw [z]
      exact nT
    · rw [upd_ne z] at n1
      exact n1
  exact ⟨.ref f, H3, I3, rfl, h f c' s1.heap.objs.size H3 (G2.trans g) nf ⟨e1, e2, fun t z => by cases z; exact ⟨_, tT, rfl⟩⟩⟩
end
end Sho
set_option Elab.async false
set_option linter.all false
set_option maxRecDepth 100000
set_option maxHeartbeats 2000000
/-! A try whose clauses may each bind the exception or not. -/
namespace Sho
open PySem PySem.Spec PyProof.Rows L2
/-- a clause: the class, the slot of its name (if it has one), its suite's reading -/
structure Clause where
  c : Value
  i : Option Nat
  ts : Addr → Value → Option Addr → TS
def setO (σ : L2.St) : Option Nat → Option V → L2.St
  | none, _ => σ
  | some i, v => σ.set i v
/-- a suite's ends: the clause's name is gone -/
def endsO (D : Ends) (i : Option Nat) : Ends :=
  { nx := fun σ H => D.nx (setO σ i none) H, rt := D.rt, bk := fun σ H => D.bk (setO σ i none) H, ct := fun σ H => D.ct (setO σ i none) H }
def wClauses (K : PySem.W.Frag) (Wout : WX) (D : Ends) : List Clause → WX
  | [] => Wout
  | C :: r => fun cls d σ H => ∃ b, PySem.W.exmOne K cls C.c = some b ∧
    (b = true → ∀ a, H a = none → C.ts a cls d (endsO D C.i) (setO σ C.i (some (.ref a))) H) ∧ (b = false → wClauses K Wout D r cls d σ H)
def Bound (X : Cx) : Option Str → Option Nat → Prop
  | none, none => True
  | some n, some i => X.N[i]? = some n ∧ X.env.kindOf n = some .local
  | _, _ => False
inductive ClausesOk (X : Cx) : List ExceptHandler → List Clause → Prop
  | nil : ClausesOk X [] []
  | cons {x : Str} {n : Option Str} {C : Clause} {b₀ : Stmt} {suite : List Stmt} {np hp : Pos} {hds : List ExceptHandler} {l : List Clause} (hc : Names X x C.c) (hn : Bound X n C.i)
      (body : ∀ (a : Addr) (oe : Obj) (cls : Value) (d : Option Addr) (pn : List (Addr × Obj)), Zc cls d oe → (∃ vs, oe.data = .fields vs) → PSs (X.suite a ((a, oe) :: pn)) (b₀ :: suite) (C.ts a cls d))
      (rest : ClausesOk X hds l) : ClausesOk X (.ExceptHandler (some (.Name x np)) n (b₀ :: suite) hp :: hds) (C :: l)
/-- an exception that X's frame has caught, in the state s -/
structure Caught (X : Cx) (pins : List (Addr × Obj)) (σ : L2.St) (H : Hp) (B : Heap) (a : Addr) (cls : Value) (d : Option Addr) (s : Shared) : Prop where
  fly : HandSPX.FlyingZ B (X.env :: X.outer) a (Zc cls d) s.heap
  back : ∀ h, HandSPX.FlyingZ B (X.env :: X.outer) a (Zc cls d) h → s.heap.UpToSlots h → Inv X pins σ H { s with heap := h }
  on : ∀ h (W : WX), HandSPX.HeldZ B (X.env :: X.outer) a (Zc cls d) X.env.locals h → s.heap.UpToSlots h → W cls d σ H → XE X W (.ref a) { s with heap := h }
  free : H a = none
section
variable {X : Cx} {pins : List (Addr × Obj)} {σ : L2.St} {H : Hp} {B : Heap} {a : Addr} {cls : Value} {d : Option Addr} {s : Shared}
theorem Caught.inv (c : Caught X pins σ H B a cls d s) : Inv X pins σ H s := c.back s.heap c.fly (.refl _)
theorem Caught.apart (c : Caught X pins σ H B a cls d s) (hf : X.env.frame = some X.env.locals) : a ≠ X.env.locals ∧ a ∉ X.fs := by
  obtain ⟨oe, vs, he, _, hd⟩ := c.fly.there
  have out : a ∉ frs (X.env :: X.outer) := fun hm => by
    obtain ⟨_, o, e, nf⟩ := c.fly.2.2.1.mem hm
    rw [he] at e
    cases e
    exact nf _ hd
  refine ⟨fun z => out (List.mem_filterMap.mpr ⟨X.env, .head _, hf.trans (congrArg some z.symm)⟩), fun hm => ?_⟩
  obtain ⟨e, he2, q⟩ := List.mem_filterMap.mp hm
  exact out (List.mem_filterMap.mpr ⟨e, .tail _ he2, q⟩)
theorem caught_of {xe : Value → Shared → Prop} {W : WX} {u : Value} {Q : Shared → Prop} {E : Value → Shared → Prop} (hs : X.stack = X.env :: X.outer) (hf : X.env.frame = some X.env.locals) (ok : X.Ok)
    (x : XE (X.tr (X.pn ++ pins) xe) W u s)
    (h : ∀ a B σ H cls d h3, u = .ref a → Caught X pins σ H B a cls d { s with heap := h3 } → W cls d σ H → Q { s with heap := h3 }) :
    wpAny (model X.prog X.w) X.A (noteFrame u X.env) (fun _ s2 => wpAny (model X.prog X.w) X.A (setFlight u none) (fun _ s3 => Q s3) E s2) E s := by
  obtain ⟨a, B, s0, pins', σ1, H1, cls, d, rfl, J1, ground, up, sky, na, os, ag, w⟩ := x
  have J : Inv X pins σ1 H1 s0 := J1.ofTry ok
  have sky2 : Sky B (X.env :: X.outer) a (Zc cls d) X.env.locals s.heap := hs ▸ sky
  refine Sky.land Zc.steady (ok.frames.trans (congrArg some hs)) hf sky2 fun h3 fly up3 => ?_
  refine h a B σ1 H1 cls d h3 rfl ⟨fly, fun g fg ug => J.landed ground fg.1 (up.trans (up3.trans ug)) os ag, fun g W2 hg ug w2 => ?_, na⟩ w
  exact ⟨a, B, s0, pins, σ1, H1, cls, d, rfl, J, ground, up.trans (up3.trans ug), .inr (.inr (by rw [hs]; exact hg)), na, os, ag, w2⟩

theorem clauses_run {Wout : WX} {D : Ends} (hs : X.stack = X.env :: X.outer) (hf : X.env.frame = some X.env.locals) (hN : X.N.Nodup) (tk : Takes X Wout) (c : Caught X pins σ H B a cls d s)
    {hds : List ExceptHandler} {l : List Clause} (hk : ClausesOk X hds l) : wClauses X.K Wout D l cls d σ H →
    wpAny (model X.prog X.w) X.A (handleBy (.ref a) X.env hds) (SP X pins D) X.xe s := by
  have ok := c.inv.ok
  induction hk with
  | nil =>
    intro w
    refine wpAny_handleBy_nil ?_
    obtain ⟨_, _, _, oe, vs, T, oT, ts', he, hz, hd, h1, _⟩ := id c.fly
    unfold PySem.passOn
    refine wpAny_bind (wpAny_field he hd h1 ?_)
    rw [if_neg (show ¬ ((Value.ref T == Value.none) = true) by simp)]
    have up : wpAny (model X.prog X.w) X.A (setFlight (.ref a) X.env.frame) (fun _ s4 => wpAny (model X.prog X.w) X.A (throw (.ref a) : Sem PySem.Flow) (SP X pins D) X.xe s4) X.xe s := by
      rw [hf]
      exact HandSPX.setFlight_upZ c.fly fun g hg ug => wpAny_throw (tk _ _ (c.on g Wout hg ug w))
    first
      | exact wpAny_bind (wpAny_pure (wpAny_bind up))
      | exact wpAny_bind up
  | @cons x n C b₀ suite np hp hds2 l2 hc hn body rest ih =>
    intro w
    obtain ⟨b, hb, yes, no⟩ := w
    obtain ⟨oe, vs, he, hz, hd⟩ := c.fly.there
    obtain ⟨nL, nF⟩ := c.apart hf
    have I := c.inv
    have IS := I.suite he hd c.free nL nF
    refine wpAny_handleBy_cons (codeAny_handlers_test ?_) (by intro q; cases q)
    have lt : PySem.W.Looks (model X.prog X.w) s.heap (typeOf (.ref a)) cls := fun A Q E s k q => wpAny_typeOf_ref (k _ _ he) (by rw [hz.1]; exact q)
    have lm := PySem.W.exm_one (M := model X.prog X.w) I.kIn lt hb
    have named : ∀ {Q : Value → Shared → Prop} {E : Value → Shared → Prop}, Q C.c s → wpAny (model X.prog X.w) (X.A.mark (some (.ref a))) (eval (.Name x np) X.env) Q E s := fun {Q E} q => by
      obtain ⟨g1, g2, g3⟩ := hc
      rcases g3 with g3 | ⟨g3, g4, g5⟩
      · exact ld_glob (X := X.suite a ((a, oe) :: (X.pn ++ pins))) IS g1 g3 q g2
      · exact ld_blt (X := X.suite a ((a, oe) :: (X.pn ++ pins))) IS g1 g3 g4 q g5 g2
    refine named (lm.here ?_)
    cases b with
    | false => exact ih (no rfl)
    | true =>
      have go : ∀ g, HandSPX.FlyingZ B (X.env :: X.outer) a (Zc cls d) g → s.heap.UpToSlots g → ∃ oe4 vs4, Zc cls d oe4 ∧ oe4.data = .fields vs4 ∧ Inv (X.suite a ((a, oe4) :: (X.pn ++ pins))) [] σ H { s with heap := g } := fun g fg ug => by
        obtain ⟨oe4, vs4, he4, hz4, hd4⟩ := fg.there
        exact ⟨oe4, vs4, hz4, hd4, (c.back g fg ug).suite he4 hd4 c.free nL nF⟩
      cases n with
      | none =>
        match hi : C.i with
        | some i =>
          rw [hi] at hn
          exact hn.elim
        | none =>
          rw [hi] at yes
          refine codeAny_handlers_suite ?_
          refine HandSPX.lands_againZ c.fly fun g fg ug => ?_
          obtain ⟨oe4, vs4, hz4, hd4, I4⟩ := go g fg ug
          refine wpAny_mono ((body a oe4 cls d (X.pn ++ pins) hz4 ⟨_, hd4⟩).run [] _ _ H _ I4 (yes rfl a c.free)) (fun f s6 r => ?_) fun _ _ z => False.elim z
          cases f with
          | ret u =>
            obtain ⟨v6, σ6, H6, I6, r6, q6⟩ := r
            exact ⟨v6, σ6, H6, I6.unsuite ok, r6, q6⟩
          | next => obtain ⟨σ6, H6, I6, q6⟩ := r; exact ⟨σ6, H6, I6.unsuite ok, q6⟩
          | brk => obtain ⟨σ6, H6, I6, q6⟩ := r; exact ⟨σ6, H6, I6.unsuite ok, q6⟩
          | cont => obtain ⟨σ6, H6, I6, q6⟩ := r; exact ⟨σ6, H6, I6.unsuite ok, q6⟩
      | some n =>
        match hi : C.i with
        | none =>
          rw [hi] at hn
          exact hn.elim
        | some i =>
          rw [hi] at hn yes
          obtain ⟨hni, hln⟩ := hn
          refine codeAny_handlers_suite_as ?_
          refine HandSPX.lands_againZ c.fly fun g fg ug => ?_
          obtain ⟨oe4, vs4, hz4, hd4, I4⟩ := go g fg ug
          refine store_ok (X := X.suite a ((a, oe4) :: (X.pn ++ pins))) (v := .ref a) I4 hN hni (.inl hln) rfl (fun s5 I5 => ?_) (.inr hln)
          refine wpAny_mono ((body a oe4 cls d (X.pn ++ pins) hz4 ⟨_, hd4⟩).run [] s5 _ H _ I5 (yes rfl a c.free)) (fun f s6 r => ?_) fun _ _ z => False.elim z
          have gone : ∀ {σ6 : L2.St} {H6 : Hp} {Q : Shared → Prop}, Inv (X.suite a ((a, oe4) :: (X.pn ++ pins))) [] σ6 H6 s6 → (∀ s7, Inv X pins (σ6.set i none) H6 s7 → Q s7) →
              wpAny (model X.prog X.w) X.A (do bindName X.env n .none; unbindBehindTheSuite X.env n hp) (fun _ s7 => Q s7) X.xe s6 := fun {σ6 H6 Q} I6 k => gone_ok (I6.unsuite ok) hN hni hln k
          cases f with
          | ret u =>
            obtain ⟨v6, σ6, H6, I6, r6, q6⟩ := r
            exact gone I6 fun s7 I7 => ⟨v6, _, H6, I7, r6, q6⟩
          | next => obtain ⟨σ6, H6, I6, q6⟩ := r; exact gone I6 fun s7 I7 => ⟨_, H6, I7, q6⟩
          | brk => obtain ⟨σ6, H6, I6, q6⟩ := r; exact gone I6 fun s7 I7 => ⟨_, H6, I7, q6⟩
          | cont => obtain ⟨σ6, H6, I6, q6⟩ := r; exact gone I6 fun s7 I7 => ⟨_, H6, I7, q6⟩
end
section
variable {X : Cx} {body : List Stmt} {h₀ : ExceptHandler} {hds : List ExceptHandler} {l : List Clause} {pos : Pos} {tb : WX → TS} {Wout : WX}
/-- try: body / except A as e: .. / except B: .. -/
theorem ps_try (hs : X.stack = X.env :: X.outer) (hf : X.env.frame = some X.env.locals) (hN : X.N.Nodup) (tk : Takes X Wout)
    (hb : ∀ (W : WX) (pn : List (Addr × Obj)) (xe : Value → Shared → Prop), Takes (X.tr pn xe) W → PassesOwn (model X.prog X.w) X.A X.env xe → PSs (X.tr pn xe) body (tb W))
    (hk : ClausesOk X (h₀ :: hds) l) : PS X (.Try body (h₀ :: hds) [] [] pos) (fun D σ H => tb (wClauses X.K Wout D l) D σ H) := by
  refine ⟨fun pins s σ H D I h => wpAny_Try_except ?_⟩
  have ok := I.ok
  refine wpAny_mono ((hb (wClauses X.K Wout D l) (X.pn ++ pins) (fun e s₁ => wpAny (model X.prog X.w) X.A (noteFrame e X.env)
    (fun _ s₂ => wpAny (model X.prog X.w) X.A (setFlight e none) (fun _ s₃ => wpAny (model X.prog X.w) X.A (handleBy e X.env (h₀ :: hds)) (SP X pins D) X.xe s₃) X.xe s₂) X.xe s₁)
    (fun u s' x => ?_) PassesOwn.looking).run [] s σ H D (I.toTry _) h) (fun f s1 r => ?_) fun _ _ z => z
  · refine caught_of hs hf ok x fun a B σ1 H1 cls d h3 e c w => ?_
    subst e
    exact clauses_run hs hf hN tk c hk w
  · cases f with
    | ret u =>
      obtain ⟨v6, σ6, H6, I6, r6, q6⟩ := r
      exact ⟨v6, σ6, H6, I6.ofTry ok, r6, q6⟩
    | next => obtain ⟨σ6, H6, I6, q6⟩ := r; exact wpAny_execs_nil ⟨σ6, H6, I6.ofTry ok, q6⟩
    | brk => obtain ⟨σ6, H6, I6, q6⟩ := r; exact ⟨σ6, H6, I6.ofTry ok, q6⟩
    | cont => obtain ⟨σ6, H6, I6, q6⟩ := r; exact ⟨σ6, H6, I6.ofTry ok, q6⟩
end
end Sho
set_option Elab.async false
set_option linter.all false
set_option maxRecDepth 100000
set_option maxHeartbeats 2000000
/-! A callable that is handed on, called without arguments. -/
namespace Sho
open PySem PySem.Spec PyProof.Rows L2 LamX NdefX
section
variable {X : Cx} {pins : List (Addr × Obj)} {σ : L2.St} {H : Hp} {s : Shared} {cl : List (Str × Addr)} {fr : List Str} {ws : List (Option V)}
theorem cells_un {fs ex : List Addr} {H0 : Hp} {h0 h : Heap} (C : CellsAt cl fr ws h0 H0) (U : Un fs ex H0 H h0 h) (hex : ∀ y c, cl.lookup y = some c → c ∉ ex) : CellsAt cl fr ws h H := by
  have one : ∀ {y : Str} {c : Addr} {v : Option Value}, cl.lookup y = some c → h0.IsCell c v → h.IsCell c v := fun {y c v} e ⟨o, ho, hd⟩ => by
    by_cases hm : c ∈ fs
    · obtain ⟨sl, q⟩ := U.slot c o ho (C.all y c e).1 hm (hex y c e)
      exact ⟨_, q, hd⟩
    · exact ⟨o, U.keep c o ho (C.all y c e).1 hm (hex y c e), hd⟩
  refine ⟨C.len, fun y c e => ?_, C.inj, fun i y hi => ?_⟩
  · obtain ⟨n, v, o, ho, hd⟩ := C.all y c e
    exact ⟨U.free c o ho n (hex y c e), v, one e ⟨o, ho, hd⟩⟩
  · obtain ⟨c, e, k⟩ := C.has i y hi
    refine ⟨c, e, fun v hv => ?_⟩
    obtain ⟨u, r, z⟩ := k v hv
    exact ⟨u, r, one e z⟩
/-- cells of the entry's time stand as they stood -/
theorem cells_kept (I : Inv X pins σ H s) (C : CellsAt cl fr ws X.s_0.heap X.H_0) (hex : ∀ y c, cl.lookup y = some c → c ∉ X.ex) : CellsAt cl fr ws s.heap H := cells_un C I.base hex

/-- x(): x's slot holds a callable -/
def tAct (P : Program) (w : World) (K : PySem.W.Frag) (mg : Str → Option Value) (base : Heap) (CX : CXT) (k : Nat) (i : Nat) (cl : List (Str × Addr)) (fr : List Str) (ws : List (Option V)) (E : L2.St → XK) : TE := fun σ H Q =>
  ∃ f sp, σ[i]? = some (some (.ref f)) ∧ Act P w K mg base CX k cl fr sp f H ∧ sp ws H Q (E σ)
theorem pe_act {CX : CXT} {k i : Nat} {E : L2.St → XK} {x : Str} {p pos : Pos} (hr : Room k X.A) (C : CellsAt cl fr ws X.s_0.heap X.H_0) (hex : ∀ y c, cl.lookup y = some c → c ∉ X.ex) (hx : ∀ σ, PassesAt CX X σ (E σ))
    (hN : X.N[i]? = some x) (hv : Vis X.env.scope x) (hd : (x == ("__debug__" : Str)) = false := by decide) (hcd : (x == ("__classdict__" : Str)) = false := by decide) :
    PE X (.Call (.Name x p) [] [] pos) (tAct X.prog X.w X.K X.mg X.base CX k i cl fr ws E) := by
  refine ⟨fun pins s σ H Q I ⟨f, sp, hs, ⟨Z, ecl, hl, run⟩, h⟩ => ?_⟩
  refine wpAny_Call_Name_kw (thn ((pe_var (pos := p) (i := i) hN hv hd hcd).run pins s σ H (fun v H1 => v = .ref f ∧ H1 = H) I ⟨.ref f, hs, rfl, rfl⟩) fun u s1 y => ?_)
  obtain ⟨v, H1, I1, rv, rfl, rfl⟩ := y
  obtain rfl : u = Value.ref f := rv
  obtain ⟨pm, ctv, ho⟩ := lamO_at I1.hok hl.o
  refine PySem.W.callWith_F0 ⟨_, _, _, _, ho⟩ ?_
  refine wpAny_call (codeAny_mono (run X.A X.stack s1 H1 ws Q (E σ) hr I1.env0 hl (cells_kept I1 C hex) h) fun r s' hq => ?_)
  cases r with
  | error e => exact hx σ pins H1 s1 e s' I1 hq
  | ok fl =>
    cases fl with
    | ret u => exact I1.after hq
    | next => exact hq.elim
    | brk => exact hq.elim
    | cont => exact hq.elim

/-- g(e): a def of the module, its promise told of the very state; know: what the state at the call shows -/
theorem pe_callAt {CX : CXT} {E : XK} {know : L2.St → Shared → Hp → Prop} {sp : L2.St → V → Hp → VK → Prop} {g : Addr} {x : Str} {e : Expr} {ta : TA} {p pos : Pos} (hg : Gl X x) (hm : X.mg x = some (.ref g)) (hk : PySem.W.keepIn X.K (.ref g) = true)
    (hx : Passes CX X E) (hP : ∀ (pins : List (Addr × Obj)) (σ : L2.St) (H : Hp) (s : Shared), Inv X pins σ H s → know σ s H) (ha : PA X [e] ta)
    (run : ∀ (σ : L2.St) (s : Shared) (H : Hp) (u : Value) (v : V) (Q : VK), Env0 X.prog X.w X.K X.mg X.base X.A X.stack s H → know σ s H → RelV v u → sp σ v H Q →
      codeAny (model X.prog X.w) X.A (.call (.ref g) ⟨[u], []⟩) (CR CX X.stack X.prog X.w H s Q E) s)
    (hdb : (x == ("__debug__" : Str)) = false := by decide) (hst : starEach [e] X.env = (false, eval e X.env) :: starEach [] X.env := by rfl) :
    PE X (.Call (.Name x p) [e] [] pos) (fun σ H Q => ta σ H fun vs H1 => ∃ v, vs = [v] ∧ sp σ v H1 Q) := by
  refine ⟨fun pins s σ H Q I h => ?_⟩
  refine wpAny_Call_Name_kw (ld_glob I hg hm ?_ hdb)
  refine PySem.W.callWith_K (h₀ := X.base) I.ok.mod.kin hk (thn (ha.run pos pins s σ H _ I h) fun us s1 y => ?_) hst rfl
  · obtain ⟨vs, H1, I1, rv, v, rfl, q⟩ := y
    cases rv with
    | @cons _ u _ _ ru rn =>
    cases rn
    refine ⟨I1.kIn, wpAny_call (codeAny_mono (run σ s1 H1 u v Q I1.env0 (hP pins σ H1 s1 I1) ru q) fun r s' hq => ?_)⟩
    cases r with
    | error er => exact hx pins σ H1 s1 er s' I1 hq
    | ok fl =>
      cases fl with
      | ret w2 => exact I1.after hq
      | next => exact hq.elim
      | brk => exact hq.elim
      | cont => exact hq.elim
end
end Sho
set_option Elab.async false
set_option linter.all false
set_option maxRecDepth 100000
set_option maxHeartbeats 2000000
/-! Small words that every law's text uses. -/
namespace Shg
open PySem L2 Sho
theorem pair_len {α β : Type} {R : α → β → Prop} : ∀ {as : List α} {bs : List β}, PySem.Paired R as bs → as.length = bs.length
  | _, _, .nil => rfl
  | _, _, .cons _ r => congrArg Nat.succ (pair_len r)
theorem pair_get {α β : Type} {R : α → β → Prop} : ∀ {as : List α} {bs : List β} {i : Nat} {a : α}, PySem.Paired R as bs → as[i]? = some a → ∃ b, bs[i]? = some b ∧ R a b
  | _, _, i, a, .nil, h => by simp at h
  | _, _, 0, a, .cons h r, e => by
    simp at e
    subst e
    exact ⟨_, rfl, h⟩
  | _, _, i + 1, a, .cons h r, e => by
    simp at e
    obtain ⟨b, e2, r2⟩ := pair_get r e
    exact ⟨b, by simpa using e2, r2⟩
theorem pair_mono {α β : Type} {R S : α → β → Prop} (k : ∀ a b, R a b → S a b) : ∀ {as : List α} {bs : List β}, PySem.Paired R as bs → PySem.Paired S as bs
  | _, _, .nil => .nil
  | _, _, .cons h r => .cons (k _ _ h) (pair_mono k r)
theorem pair_app {α β : Type} {R : α → β → Prop} : ∀ {as : List α} {bs : List β} {cs : List α} {ds : List β}, PySem.Paired R as bs → PySem.Paired R cs ds → PySem.Paired R (as ++ cs) (bs ++ ds)
  | _, _, _, _, .nil, k => k
  | _, _, _, _, .cons h r, k => .cons h (pair_app r k)
theorem same_upd {p : Addr} {H : Hp} {o : HO} (hp : H p = none) : Same H (upd H p o) := fun b u e => by rw [upd_ne (ne_of_none e hp)]; exact e
theorem asg_seq {te : TE} {g : TG} {u : TS} {D : Ends} {σ : L2.St} {H : Hp} (h : te σ H fun x H1 => g x σ H1 (u D)) : tSeq (tAsg te g) u D σ H := h
theorem asg_one {te : TE} {g : TG} {D : Ends} {σ : L2.St} {H : Hp} (h : te σ H fun x H1 => g x σ H1 D.nx) : tAsg te g D σ H := h
theorem cons_of {te : TE} {ta : L2.TA} {σ : L2.St} {H : Hp} {Q : List V → Hp → Prop} (h : te σ H fun v H1 => ta σ H1 fun vs H2 => Q (v :: vs) H2) : tCons te ta σ H Q := h
theorem name_of {i : Nat} {v : V} {σ : L2.St} {H : Hp} {N : L2.St → Hp → Prop} {r : VK} {b c : L2.St → Hp → Prop} (h : N (σ.set i (some v)) H) : gName i v σ H (L2.Ends.nx { nx := N, rt := r, bk := b, ct := c }) := h
theorem name_at {i : Nat} {v : V} {σ : L2.St} {H : Hp} {N : L2.St → Hp → Prop} (h : N (σ.set i (some v)) H) : gName i v σ H N := h
theorem lst_of {t : L2.TA} {σ : L2.St} {H : Hp} {Q : VK} (h : t σ H fun xs H1 => xs.length ≤ sizeLine ∧ ∀ p, H1 p = none → Q (.ref p) (upd H1 p (.lst xs))) : tLst t σ H Q := h
theorem nx_of {N : L2.St → Hp → Prop} {r : VK} {b c : L2.St → Hp → Prop} {σ : L2.St} {H : Hp} (h : N σ H) : L2.Ends.nx { nx := N, rt := r, bk := b, ct := c } σ H := h
theorem asg_val {te : TE} {g : TG} {u : TS} {D : Ends} {σ : L2.St} {H : Hp} (v : V) (h1 : ∀ R : VK, (∀ H', Same H H' → R v H') → te σ H R) (h2 : ∀ H', Same H H' → g v σ H' (u D)) : tSeq (tAsg te g) u D σ H := h1 _ h2
theorem asg_rel {te : TE} {g : TG} {u : TS} {D : Ends} {σ : L2.St} {H : Hp} (P : V → Hp → Prop) (h1 : ∀ R : VK, (∀ v H', P v H' → R v H') → te σ H R) (h2 : ∀ v H', P v H' → g v σ H' (u D)) : tSeq (tAsg te g) u D σ H := h1 _ h2
theorem if_rel {c : TT} {A u : TS} {D : Ends} {σ : L2.St} {H : Hp} (P : Hp → Prop) (h1 : ∀ R : Bool → Hp → Prop, (∀ H', P H' → R false H') → c σ H R) (h2 : ∀ H', P H' → u D σ H') : tSeq (tIfS c A tNext) u D σ H :=
  h1 _ fun H' p => iteF (h2 H' p)
theorem if_rel1 {c : TT} {A : TS} {D : Ends} {σ : L2.St} {H : Hp} (P : Hp → Prop) (h1 : ∀ R : Bool → Hp → Prop, (∀ H', P H' → R false H') → c σ H R) (h2 : ∀ H', P H' → D.nx σ H') : tIfS c A tNext D σ H :=
  h1 _ fun H' p => iteF (h2 H' p)
theorem ok_no {P : Program} {w : World} {K : PySem.W.Frag} {mg : Str → Option Value} {base : Heap} {CX : CXT} {k : Nat} {f : Addr} {fd : FuncData} {ps : List Str} : FnOk P w K mg base CX k f fd ps (fun _ _ _ _ => False) :=
  ⟨fun _ _ _ _ h => h.elim, fun _ _ _ _ _ _ _ _ _ _ _ _ _ h => h.elim⟩
theorem free_by {sn os : List (Str × NameKind)} (h : (sn.all fun y => !decide (y.2 = .free) || (decide (os.lookup y.1 = some .cell) || decide (os.lookup y.1 = some .free))) = true) :
    ∀ y ∈ sn, y.2 = .free → os.lookup y.1 = some .cell ∨ os.lookup y.1 = some .free := fun y hy e => by
  have q := List.all_eq_true.mp h y hy
  rw [decide_eq_true e] at q
  simpa using q
abbrev scL (l : List (Str × NameKind)) : Scope := { kind := .function, names := l, isGenerator := false, isCoroutine := false }
theorem ne_lst {L b : Addr} {H : Hp} {xs : List V} {o : HO} (hL : H L = some (.lst xs)) (e : H b = some o) (n : ∀ ys, o ≠ .lst ys) : b ≠ L := fun z => by
  rw [z, hL] at e
  exact n xs (Option.some.inj e).symm
theorem seq_nat {j n : Nat} (h : j < n) : seqIndex? (j : Int) n = some j := by
  have e0 : (if (j : Int) < 0 then (j : Int) + n else (j : Int)) = (j : Int) := if_neg (by omega)
  show (if (decide (0 ≤ (if (j : Int) < 0 then (j : Int) + n else (j : Int))) && decide ((if (j : Int) < 0 then (j : Int) + n else (j : Int)) < (n : Int))) = true then some (if (j : Int) < 0 then (j : Int) + n else (j : Int)).toNat else none) = some j
  rw [e0]
  have e : (decide (0 ≤ (j : Int)) && decide ((j : Int) < (n : Int))) = true := by simp; omega
  rw [if_pos e]
  simp
theorem ixN_nat {n j : Nat} (hj : j < n) : ixN n (j : Int) = some j := by
  unfold ixN
  rw [if_pos (by omega), if_pos (by omega)]
  simp
theorem gather_filter {α : Type} (xs : List α) (p : α → Bool) (f : α → V) : gather (fun i => (xs[i]?).bind fun x => if p x = true then some (f x) else none) xs.length = (xs.filter p).map f := by
  rw [gather_list]
  induction xs with
  | nil => rfl
  | cons x xs ih =>
    rw [List.filterMap_cons, List.filter_cons]
    cases h : p x with
    | true =>
      simp only [if_true, List.map_cons, ih]
    | false =>
      simp only [Bool.false_eq_true, if_false, ih]
/-- an expression read in one of two ways -/
theorem pe_either {X : Cx} {e : Expr} {t1 t2 : TE} (h1 : PE X e t1) (h2 : PE X e t2) : PE X e (fun σ H Q => t1 σ H Q ∨ t2 σ H Q) :=
  ⟨fun pins s σ H Q I h => h.elim (h1.run pins s σ H Q I) (h2.run pins s σ H Q I)⟩
/-- the builtins that the text calls -/
structure Blt (mg : Str → Option Value) : Prop where
  len : mg "len" = none
  all : mg "all" = none
  isi : mg "isinstance" = none
  bool : mg "bool" = none
  tuple : mg "tuple" = none
  list : mg "list" = none
  range : mg "range" = none
  enum : mg "enumerate" = none
  int : mg "int" = none
  sup : mg "super" = none
  sorted : mg "sorted" = none
  dict : mg "dict" = none
  str : mg "str" = none
  min : mg "min" = none
  max : mg "max" = none
  ve : mg "ValueError" = none
  set : mg "set" = none
  sum : mg "sum" = none
  any : mg "any" = none
/-- all but two objects stay -/
def But2 (l S : Addr) (H H' : Hp) : Prop := ∀ b o, H b = some o → b ≠ l → b ≠ S → H' b = some o
theorem But2.refl {l S : Addr} (H : Hp) : But2 l S H H := fun _ _ e _ _ => e
theorem But2.trans {l S : Addr} {H H1 H2 : Hp} (a : But2 l S H H1) (b : But2 l S H1 H2) : But2 l S H H2 := fun c o e n m => b c o (a c o e n m) n m
theorem But2.of {l S : Addr} {H H' : Hp} (s : Same H H') : But2 l S H H' := fun b o e _ _ => s b o e
theorem But2.upd1 {l S : Addr} {H : Hp} {o : HO} : But2 l S H (upd H l o) := fun b u e nb _ => by rw [upd_ne nb]; exact e
theorem But2.upd2 {l S : Addr} {H : Hp} {o : HO} : But2 l S H (upd H S o) := fun b u e _ nb => by rw [upd_ne nb]; exact e
/-- all but two objects and the tables stay -/
def Keep2 (l S : Addr) (H H' : Hp) : Prop := ∀ b o, H b = some o → b ≠ l → b ≠ S → (∀ ps, o ≠ .tbl ps) → H' b = some o
theorem Keep2.trans {l S : Addr} {H H1 H2 : Hp} (a : Keep2 l S H H1) (b : Keep2 l S H1 H2) : Keep2 l S H H2 := fun c o e n m t => b c o (a c o e n m t) n m t
theorem Keep2.of {l S : Addr} {H H' : Hp} (s : Same H H') : Keep2 l S H H' := fun b o e _ _ _ => s b o e
theorem Keep2.but {l S : Addr} {H H' : Hp} (s : But2 l S H H') : Keep2 l S H H' := fun b o e n m _ => s b o e n m
theorem Keep2.ext {l S : Addr} {H H' : Hp} (s : LamX.ExtN H H') : Keep2 l S H H' := fun b o e _ _ t => s b o e t
/-- a def whose code object is known -/
structure FunL (K : PySem.W.Frag) (x qual : Str) (st : Stmt) (f c : Addr) (fd : FuncData) : Prop where
  ex : ∃ (oc : Value) (od : Option Addr) (kV doc pm : Value) (an : Option Addr) (ct : Value) (osl : Array (Option Value)),
    fd = PySem.W.fnOf x qual (defArgs st) (defBody st) (defScope st) .none kV doc pm an (.ref c) ct ∧ K.lookup f = some ⟨oc, od, .func (PySem.W.fnOf x qual (defArgs st) (defBody st) (defScope st) .none kV doc pm an (.ref c) ct), osl⟩ ∧ PySem.W.codeIn K (.ref c) qual = true
theorem FunL.okX {P : Program} {w : World} {K : PySem.W.Frag} {mg : Str → Option Value} {base : Heap} {x qual : Str} {st : Stmt} {f c : Addr} {fd : FuncData} {N ps : List Str} {k : Nat} {sp : Sp} (F : FunL K x qual st f c fd) (S : FnScope N ps (defScope st)) (len : ∀ vs H Q E, sp vs H Q E → vs.length = ps.length)
    (hbody : ∀ (A : Around) (outer : List Env) (s : Shared) (H : Hp) (vs : List V) (Q : VK) (E : XK), Room k (A.deeper (PyProof.Rows.envOfC qual (defScope st) s.heap.objs.size f (.ref c))) → sp vs H Q E →
      ∃ t, PSs (cxOf (L2.CX P w) P w K mg base N qual (defScope st) f (.ref c) A outer s H E) (defBody st) t ∧ t { nx := fun _ H' => Q .non H', rt := Q } (L2.start N vs) H) : FnOk P w K mg base (L2.CX P w) (k + 1) f fd ps sp := by
  obtain ⟨oc, od, kV, doc, pm, an, ct, osl, rfl, lk, hcd⟩ := F.ex
  exact fn_of lk hcd S len fun A outer s H vs Q E hr hsp => hbody A outer s H vs Q E hr hsp
theorem FunL.ok0 {P : Program} {w : World} {K : PySem.W.Frag} {mg : Str → Option Value} {base : Heap} {x qual : Str} {st : Stmt} {f c : Addr} {fd : FuncData} {N ps : List Str} {k : Nat} {sp : Sp} (F : FunL K x qual st f c fd) (S : FnScope N ps (defScope st)) (len : ∀ vs H Q E, sp vs H Q E → vs.length = ps.length)
    (hbody : ∀ (A : Around) (outer : List Env) (s : Shared) (H : Hp) (vs : List V) (Q : VK) (E : XK), Room k (A.deeper (PyProof.Rows.envOfC qual (defScope st) s.heap.objs.size f (.ref c))) → sp vs H Q E →
      ∃ t, PSs (cxOf CX0 P w K mg base N qual (defScope st) f (.ref c) A outer s H E).nox (defBody st) t ∧ t { nx := fun _ H' => Q .non H', rt := Q } (L2.start N vs) H) : FnOk P w K mg base CX0 (k + 1) f fd ps sp := by
  obtain ⟨oc, od, kV, doc, pm, an, ct, osl, rfl, lk, hcd⟩ := F.ex
  refine fn_of lk hcd S len fun A outer s H vs Q E hr hsp => ?_
  obtain ⟨t, h, q⟩ := hbody A outer s H vs Q E hr hsp
  exact ⟨t, h.nox, q⟩
end Shg
set_option Elab.async false
set_option linter.all false
set_option maxRecDepth 100000
set_option maxHeartbeats 2000000
/-! Operators of own classes by a promise; instances made with a star. -/
namespace Sho
open PySem PySem.Spec PyProof.Rows L2 StX

section
variable {P : Program} {w : World} {K : PySem.W.Frag} {mg : Str → Option Value} {base : Heap} {CX : CXT} {k : Nat} {f : Addr} {fd : FuncData} {ps : List Str} {sp : Sp}
/-- a def's promise by its values alone -/
theorem fnr_of (F : FnOk P w K mg base CX k f fd ps sp) (hb : Binds K fd ps []) : FnR P w K mg base CX k f sp := by
  intro A outer s H us vs Q E hr e0 r h
  have hl := F.len _ _ _ _ h
  have hk : K.In s.heap := e0.mod.kin.keeps fun b o e => (e0.bs b o e).1
  have b := hb s us hk (by rw [List.append_nil, ← r.length]; exact hl)
  rw [List.append_nil] at b
  exact F.run A outer s H ⟨us, []⟩ us vs Q E hr e0 b r h
end

section
variable {X : Cx} {CX : CXT} {k : Nat} {f C : Addr} {sp : Sp} {E : XK}
theorem run_r {pins : List (Addr × Obj)} {σ : L2.St} {H : Hp} {s : Shared} {Q : VK} {us : List Value} {vs : List V} (F : FnR X.prog X.w X.K X.mg X.base CX k f sp) (hr : Room k X.A) (hx : Passes CX X E)
    (I : Inv X pins σ H s) (r : Vals vs us) (h : sp vs H Q E) : wpAny (model X.prog X.w) X.A (call (.ref f) us) (EP X pins σ Q) X.xe s := by
  refine wpAny_call (codeAny_mono (F X.A X.stack s H us vs Q E hr I.env0 r h) fun r s' hq => ?_)
  cases r with
  | error e => exact hx pins σ H s e s' I hq
  | ok fl =>
    cases fl with
    | ret u => exact I.after hq
    | next => exact False.elim hq
    | brk => exact False.elim hq
    | cont => exact False.elim hq

theorem back_of {pins : List (Addr × Obj)} {σ : L2.St} {Q : VK} {u : Value} {s' : Shared} (h : EP X pins σ Q u s') : PySem.W.CmpBack (EP X pins σ Q) u s' := by
  obtain ⟨v, H', I, r, q⟩ := h
  cases u with
  | notImplemented => exact nomatch (show absV Value.notImplemented = some v from RelV.abs r)
  | _ => exact ⟨v, H', I, r, q⟩

/-- an own instance, the instance's own place in the heap -/
def InsAt (H : Hp) (a C : Addr) : Prop := ∃ dx fs, H a = some (.ins C dx fs)

/-- a op b, both of the class at C, C's own method -/
def rOwn2 (C : Addr) (sp : Sp) (E : XK) : R2 := fun x y H Q => ∃ a b, x = .ref a ∧ y = .ref b ∧ InsAt H a C ∧ InsAt H b C ∧ sp [.ref a, .ref b] H Q E
theorem op_own2 {op : Operator} (F : FnR X.prog X.w X.K X.mg X.base CX k f sp) (hr : Room k X.A) (hx : Passes CX X E) (hc : PySem.W.selfFirst X.K C = true)
    (hs : PySem.W.findIn X.K (.ref C) (PySem.dunder op.info.2) = some (some (.ref f))) (hf : PySem.W.isFn X.K (.ref f) = true) : OpR X (binaryOp op) (rOwn2 C sp E) := by
  rintro pins s σ H x y u v Q I rx ry ⟨a, b, rfl, rfl, ⟨dx, fs, ha⟩, ⟨dy, gs, hb⟩, h⟩
  cases rx
  cases ry
  obtain ⟨mA, J, _⟩ := ins_get I.hok ha
  obtain ⟨mB, J', _⟩ := ins_get I.hok hb
  obtain ⟨od, J, _⟩ := J.look
  obtain ⟨od', J', _⟩ := J'.look
  obtain ⟨m, hF⟩ := I.fr
  exact PySem.W.binop_K hF I.ok.mod.kin J J'.type hc hs hf (thn (run_r (vs := [.ref a, .ref b]) F hr hx I (.cons rfl (.cons rfl .nil)) h) fun u s' q => back_of q)

/-- a op b, a of the class at C, b of the built-in type T -/
def rOwnT (C : Addr) (sp : Sp) (E : XK) (isT : V → Prop) : R2 := fun x y H Q => ∃ a, x = .ref a ∧ isT y ∧ InsAt H a C ∧ sp [.ref a, y] H Q E
theorem op_ownT {op : Operator} {T : String} {isT : V → Prop} {fo ro rc : Option Value} (F : FnR X.prog X.w X.K X.mg X.base CX k f sp) (hr : Room k X.A) (hx : Passes CX X E) (hc : PySem.W.selfFirst X.K C = true)
    (hT : ∀ y v, isT y → RelV y v → typeOf v = pure (.type T))
    (hs : PySem.W.findIn X.K (.ref C) (PySem.dunder op.info.2) = some (some (.ref f))) (hf : PySem.W.isFn X.K (.ref f) = true)
    (hr2 : PySem.W.findIn X.K (.ref C) (dunderR op.info.2) = some rc) (hp : rc = none ∨ ∃ g : Addr, rc = some (.ref g))
    (h1 : PySem.W.findIn X.K (.type T) (PySem.dunder op.info.2) = some fo) (h2 : PySem.W.findIn X.K (.type T) (dunderR op.info.2) = some ro) (hsub : PySem.W.subIn X.K (.type T) (.ref C) = some false) :
    OpR X (binaryOp op) (rOwnT C sp E isT) := by
  rintro pins s σ H x y u v Q I rx ry ⟨a, rfl, ht, ⟨dx, fs, ha⟩, h⟩
  cases rx
  obtain ⟨mA, J, _⟩ := ins_get I.hok ha
  obtain ⟨od, J, _⟩ := J.look
  obtain ⟨m, hF⟩ := I.fr
  exact PySem.W.ksp_binT hF I.ok.mod.kin J (hT _ _ ht ry) hc hs hf hr2 hp h1 h2 hsub (thn (run_r (vs := [.ref a, y]) F hr hx I (.cons rfl (.cons ry .nil)) h) fun u s' q => back_of q)
def isInt : V → Prop := fun y => ∃ i, y = .int i
def isStr : V → Prop := fun y => ∃ i, y = .str i
theorem ty_int : ∀ y v, isInt y → RelV y v → typeOf v = pure (.type "int") := by
  rintro y v ⟨i, rfl⟩ ⟨t, rfl⟩
  rfl
theorem ty_str : ∀ y v, isStr y → RelV y v → typeOf v = pure (.type "str") := by
  rintro y v ⟨i, rfl⟩ ⟨t, rfl⟩
  rfl

/-- x in a, not in: a's own __contains__, which hands back a bool -/
def rOwnIn (C : Addr) (neg : Bool) (sp : Sp) (E : XK) : R2 := fun x y H Q => ∃ a, y = .ref a ∧ InsAt H a C ∧ sp [.ref a, x] H (fun r H' => ∃ c, r = .bl c ∧ Q (.bl (if neg then !c else c)) H') E
theorem op_ownIn (F : FnR X.prog X.w X.K X.mg X.base CX k f sp) (hr : Room k X.A) (hx : Passes CX X E)
    (hs : PySem.W.findIn X.K (.ref C) "__contains__" = some (some (.ref f))) (hf : PySem.W.isFn X.K (.ref f) = true) : OpR X (compareOp .In) (rOwnIn C false sp E) := by
  rintro pins s σ H x y u v Q I rx ry ⟨a, rfl, ⟨dx, fs, ha⟩, h⟩
  cases ry
  obtain ⟨mA, J, _⟩ := ins_get I.hok ha
  obtain ⟨od, J, _⟩ := J.look
  obtain ⟨m, hF⟩ := I.fr
  refine PySem.W.in_K hF I.ok.mod.kin J hs hf (thn (run_r (vs := [.ref a, x]) F hr hx I (.cons rfl (.cons rx .nil)) h) fun r s' q => ?_)
  obtain ⟨v2, H2, I2, r2, c, rfl, q2⟩ := q
  cases r2
  exact wpAny_truthy_bool ⟨.bl _, H2, I2, rfl, q2⟩
theorem op_ownNotIn (F : FnR X.prog X.w X.K X.mg X.base CX k f sp) (hr : Room k X.A) (hx : Passes CX X E)
    (hs : PySem.W.findIn X.K (.ref C) "__contains__" = some (some (.ref f))) (hf : PySem.W.isFn X.K (.ref f) = true) : OpR X (compareOp .NotIn) (rOwnIn C true sp E) := by
  rintro pins s σ H x y u v Q I rx ry ⟨a, rfl, ⟨dx, fs, ha⟩, h⟩
  cases ry
  obtain ⟨mA, J, _⟩ := ins_get I.hok ha
  obtain ⟨od, J, _⟩ := J.look
  obtain ⟨m, hF⟩ := I.fr
  refine PySem.W.notIn_K hF I.ok.mod.kin J hs hf (thn (run_r (vs := [.ref a, x]) F hr hx I (.cons rfl (.cons rx .nil)) h) fun r s' q => ?_)
  obtain ⟨v2, H2, I2, r2, c, rfl, q2⟩ := q
  cases r2
  exact wpAny_truthy_bool ⟨.bl _, H2, I2, rfl, q2⟩

/-- a[i]: a's own __getitem__ -/
def rOwnIx (C : Addr) (sp : Sp) (E : XK) : R2 := fun x y H Q => ∃ a, x = .ref a ∧ InsAt H a C ∧ sp [.ref a, y] H Q E
/-- C(*y), y a list or a tuple -/
def tMakeS (K : PySem.W.Frag) (C : Addr) (sp : Sp) (E : XK) (te : TE) : TE := fun σ H Q => te σ H fun y H1 => ∃ a xs, y = V.ref a ∧ (SqT K H1 a xs ∨ SqL K H1 a xs) ∧ ∀ x dx, H1 x = Option.none → H1 dx = Option.none → dx ≠ x →
  sp (V.ref x :: xs) (upd (upd H1 dx (.own x)) x (.ins C dx [])) (fun v H2 => v = .non ∧ Q (.ref x) H2) E
theorem pe_makeS {x : Str} {e : Expr} {te : TE} {p sp_ pos : Pos} (M : Mk X.K C f) (F : FnR X.prog X.w X.K X.mg X.base CX k f sp) (hr : Room (k + 1) X.A) (hg : Gl X x) (hm : X.mg x = some (.ref C)) (hx : Passes CX X E) (he : PE X e te) (hd : (x == ("__debug__" : Str)) = false := by decide)
    (hst : starEach [.Starred e sp_] X.env = [(true, eval e X.env)] := by rfl) : PE X (.Call (.Name x p) [.Starred e sp_] [] pos) (tMakeS X.K C sp E te) := by
  refine ⟨fun pins s σ H Q I h => ?_⟩
  refine wpAny_Call_Name_kw (ld_glob I hg hm ?_ hd)
  refine PySem.W.callWith_S (h₀ := X.base) I.ok.mod.kin M.kp (thn (he.run pins s σ H _ I h) fun v s1 ⟨y, H1, I1, ry, a, xs, ey, hxs, q⟩ => ?_) hst
  subst ey
  obtain rfl : v = Value.ref a := ry
  exact star_any I1 hxs fun us s2 I2 rv => ⟨I2.kIn, run_makeR M F hr hx I2 rv q⟩
/-- C() -/
theorem pe_makeR0 {x : Str} {p pos : Pos} (M : Mk X.K C f) (F : FnR X.prog X.w X.K X.mg X.base CX k f sp) (hr : Room (k + 1) X.A) (hg : Gl X x) (hm : X.mg x = some (.ref C)) (hx : Passes CX X E) (hdb : (x == ("__debug__" : Str)) = false := by decide) :
    PE X (.Call (.Name x p) [] [] pos) (tMakeR C sp E tNil) := by
  refine ⟨fun pins s σ H Q I h => ?_⟩
  refine wpAny_Call_Name_kw (ld_glob I hg hm ?_ hdb)
  exact PySem.W.callWith_K0 I.kIn M.kp (run_makeR (us := []) M F hr hx I .nil h)
end
end Sho
set_option Elab.async false
set_option linter.all false
namespace Sh1
open PySem L2
abbrev pw : Program := PySem.Challenge.pw_shoepile_k48_whole_codes_of_parties
def top (i : Nat) : Stmt := PySem.Challenge.pw_shoepile_k48_whole_codes_of_parties.main.body.getD i (.Pass ⟨0, 0, 0, 0⟩)
abbrev sWall : Stmt := top 0
abbrev cPartyError : Stmt := top 2
abbrev cInvalidStay : Stmt := top 3
abbrev sInvInit : Stmt := inClass (top 3) 0
abbrev cUnknownGuest : Stmt := top 4
abbrev sUnkInit : Stmt := inClass (top 4) 0
abbrev cInvalidNumber : Stmt := top 5
abbrev cInvalidName : Stmt := top 6
abbrev cTooEarly : Stmt := top 7
abbrev cInvalidOperation : Stmt := top 8
abbrev sInvalidOperation_Init : Stmt := inClass (top 8) 0
abbrev cInvalidText : Stmt := top 9
abbrev sInvalidText_Init : Stmt := inClass (top 9) 0
abbrev cTooWide : Stmt := top 10
abbrev cDaybookError : Stmt := top 11
abbrev sDaybookError_Init : Stmt := inClass (top 11) 0
abbrev cDecodeError : Stmt := top 12
abbrev sDecodeError_Init : Stmt := inClass (top 12) 0
abbrev sIsName : Stmt := top 16
abbrev sIsWithin : Stmt := top 17
abbrev sIsTick : Stmt := top 18
abbrev sIsStay : Stmt := top 19
abbrev sBottomUp : Stmt := top 20
abbrev sLiftedFrom : Stmt := top 21
abbrev sCheck : Stmt := top 23
abbrev cParty : Stmt := top 24
abbrev sPInit : Stmt := inClass (top 24) 1
abbrev sPEvening : Stmt := inClass (top 24) 2
abbrev sPStays : Stmt := inClass (top 24) 3
abbrev sPNames : Stmt := inClass (top 24) 4
abbrev sPStayOf : Stmt := inClass (top 24) 5
abbrev sPLen : Stmt := inClass (top 24) 6
abbrev sPBool : Stmt := inClass (top 24) 7
abbrev sPIn : Stmt := inClass (top 24) 8
abbrev sPIx : Stmt := inClass (top 24) 9
abbrev sPIter : Stmt := inClass (top 24) 10
abbrev sPEq : Stmt := inClass (top 24) 11
abbrev sPSub : Stmt := inClass (top 24) 12
abbrev sPAdd : Stmt := inClass (top 24) 13
abbrev sPShift : Stmt := inClass (top 24) 14
abbrev sPCall : Stmt := inClass (top 24) 15
abbrev sPCross : Stmt := inClass (top 24) 16
abbrev sPPile : Stmt := inClass (top 24) 17
abbrev sChecksum : Stmt := top 29
abbrev sEncodeParty : Stmt := top 30
abbrev cReader : Stmt := top 31
abbrev sReader_Init : Stmt := inClass (top 31) 0
abbrev sReader_Take : Stmt := inClass (top 31) 1
abbrev sReader_TakeChecksum : Stmt := inClass (top 31) 2
abbrev sTakeName : Stmt := top 32
abbrev sDecodeParty : Stmt := top 33
abbrev sLawMix : Stmt := top 35
abbrev sLawNext : Stmt := top 36
abbrev sLawAlike : Stmt := top 37
abbrev sOut : Stmt := top 38
abbrev sLawStays : Stmt := top 39
abbrev sLawParty : Stmt := top 40
abbrev sLawSum : Stmt := top 41
abbrev sLawCode : Stmt := top 42
abbrev sLawRead : Stmt := top 43
abbrev sLaw : Stmt := top 44
end Sh1
set_option Elab.async false
set_option linter.all false
set_option maxRecDepth 100000
set_option maxHeartbeats 2000000
/-! _law_mix, _law_next: draws; the state is the list at l, its cells stand in the list at S. -/
namespace Sh4
open PySem L2 Sho NdefX Shg Sh1
structure NextSt (H : Hp) (l S : Addr) : Prop where
  ex : ∃ (m p : Int) (cells : List Int), H l = some (.lst [.int m, .ref S, .int p]) ∧ H S = some (.lst (cells.map V.int)) ∧ cells.length ≤ 63
  ne : S ≠ l
theorem NextSt.same {H H' : Hp} {l S : Addr} (d : NextSt H l S) (s : Same H H') : NextSt H' l S := by
  obtain ⟨⟨m, p, cells, h1, h2, h3⟩, n⟩ := d
  exact ⟨⟨m, p, cells, s _ _ h1, s _ _ h2, h3⟩, n⟩
section
variable {P : Program} {w : World} {K : PySem.W.Frag} {mg : Str → Option Value} {base : Heap}
def spMix (K : PySem.W.Frag) : Sp := fun vs H Q _ => ∃ (a : Addr) (ns : List Int) (z : Int), vs = [.ref a, .int z] ∧ SqL K H a (ns.map V.int) ∧ ns.length ≤ 63 ∧ ∀ H' l S, Same H H' → H l = none → H S = none → NextSt H' l S → Q (.ref l) H'
theorem scMix : FnScope ["_law_script", "_law_seed", "_law_mixed", "_law_cell"] ["_law_script", "_law_seed"] (defScope sLawMix) := ⟨rfl, rfl, rfl, by decide +kernel, rfl, by decide +kernel, by decide +kernel⟩
theorem ok_mix {f : Addr} {fd : FuncData} (F : Fun K "_law_mix" "_law_mix" sLawMix f fd) (B : Blt mg) : FnOk P w K mg base CX0 1 f fd ["_law_script", "_law_seed"] (spMix K) := by
  refine F.ok scMix (fun vs H Q E h => ?_) (fun cdv A outer s H vs Q E hr h => ?_)
  · obtain ⟨a, ns, z, rfl, _⟩ := h
    rfl
  · obtain ⟨a, ns, z, rfl, ha, hlen, k⟩ := h
    have nd := scMix.nd
    refine ⟨_, pss_cons (ps_set (i := 2) nd rfl (Or.inl rfl) (pv 1)) (pss_cons (ps_for PassesOwn.never rfl (pi_list (pv 0)) (pg_name (i := 3) nd rfl (Or.inl rfl))
        (pss_one (ps_set (i := 2) nd rfl (Or.inl rfl) (pe_op op_mod (pe_op op_add (pe_op op_add (pe_op op_mul (pv 2) pe_int) (pe_op op_mod (pv 3) pe_int)) pe_int) pe_int))))
      (pss_one (ps_ret (pe_lst (pa_cons (pv 2) (pa_cons (pe_callTy call_list_of (by rfl) B.list (by decide +kernel) (pa_cons (pv 0) pa_nil)) (pa_cons pe_int pa_nil))))))), ?_⟩
    refine ⟨_, rfl, _, rfl, a, rfl, ⟨_, ha⟩, for_it walk_list (fun i σ H2 => ∃ (m : Int) (o : Option V), σ = [some (.ref a), some (.int z), some (.int m), o] ∧ H2 = H) ⟨z, none, rfl, rfl⟩
      (fun i σ H2 _ ⟨_, _, _, e⟩ => by rw [e]; exact ha) ?_ ?_⟩
    · rintro i y σ H2 H3 hi ⟨m, o, rfl, rfl⟩ ⟨rfl, e2⟩
      obtain ⟨c, rfl⟩ : ∃ c, y = V.int c := by
        rw [List.getElem?_map] at e2
        cases e : ns[i]? with
        | none =>
          rw [e] at e2
          cases e2
        | some c =>
          rw [e] at e2
          exact ⟨c, (Option.some.inj e2).symm⟩
      refine ⟨_, rfl, _, _, rfl, rfl, .inr ⟨by decide, by decide⟩, _, rfl, _, _, rfl, rfl, (by show (0 : Int) < 2147483629; decide), _, _, rfl, rfl, _, _, rfl, rfl, _, _, rfl, rfl, (by show (0 : Int) < 2147483647; decide), ?_⟩
      exact ⟨_, _, rfl, rfl⟩
    · rintro σ H2 ⟨m, o, rfl, rfl⟩
      refine ⟨_, rfl, _, rfl, a, _, rfl, .inl ha, fun S hS => ⟨by show 3 ≤ sizeLine; decide, fun l hl => ?_⟩⟩
      have s1 : Same H2 (upd H2 S (.lst (ns.map V.int))) := same_upd hS
      have s2 := s1.trans (same_upd (o := .lst [.int m, .ref S, .int 0]) hl)
      have nl : S ≠ l := fun e => by
        rw [← e, upd_same] at hl
        cases hl
      have hl0 : H2 l = none := by
        rw [upd_ne (Ne.symm nl)] at hl
        exact hl
      exact k _ l S s2 hl0 hS ⟨⟨m, 0, ns, upd_same, by rw [upd_ne nl]; exact upd_same, hlen⟩, nl⟩
def spNext : Sp := fun vs H Q _ => ∃ (l S : Addr) (n : Int), vs = [.ref l, .int n] ∧ NextSt H l S ∧ 0 < n ∧ n < 1073741824 ∧ ∀ (r : Int) H', 0 ≤ r → r < n → But2 l S H H' → NextSt H' l S → Q (.int r) H'
theorem scNext : FnScope ["_law_h", "_law_limit", "_law_cell"] ["_law_h", "_law_limit"] (defScope sLawNext) := ⟨rfl, rfl, rfl, by decide +kernel, rfl, by decide +kernel, by decide +kernel⟩
theorem set_cells {ns : List Int} {j : Nat} {c : Int} : (ns.map V.int).set j (.int c) = (ns.set j c).map V.int := by
  rw [List.map_set]
theorem ok_next {f : Addr} {fd : FuncData} (F : Fun K "_law_next" "_law_next" sLawNext f fd) (B : Blt mg) : FnOk P w K mg base CX0 1 f fd ["_law_h", "_law_limit"] spNext := by
  refine F.ok scNext (fun vs H Q E h => ?_) (fun cdv A outer s H vs Q E hr h => ?_)
  · obtain ⟨l, S, n, rfl, _⟩ := h
    rfl
  · obtain ⟨l, S, n, rfl, ⟨⟨m, p, cells, hl, hS, hlen⟩, ne⟩, n0, n1, k⟩ := h
    have nd := scNext.nd
    refine ⟨_, pss_cons (ps_set (i := 2) nd rfl (Or.inl rfl) (pe_ix ix_list (pe_op op_cat (pe_ix ix_list (pv 0) pe_int (fun _ _ => rfl)) (pe_lst (pa_cons pe_int pa_nil)))
          (pe_op op_mod (pe_ix ix_list (pv 0) pe_int (fun _ _ => rfl)) (pe_callB (call_max2 rfl) (by rfl) B.max (by decide +kernel) (pa_cons pe_int (pa_cons (pe_callB call_len_seq (by rfl) B.len PySem.boot_len (pa_cons (pe_ix ix_list (pv 0) pe_int (fun _ _ => rfl)) pa_nil)) pa_nil)))) (fun _ _ => rfl)))
      (pss_cons (ps_if (pt_cmpR op_ge (pv 2) (pe_op op_pow pe_int pe_int) (nomark _))
        (pss_cons (ps_asg (pe_op op_fdiv (pv 2) (pv 1)) (pg_sub (pe_ix ix_list (pv 0) pe_int (fun _ _ => rfl)) (pe_op op_mod (pe_ix ix_list (pv 0) pe_int (fun _ _ => rfl)) (pe_callB call_len_seq (by rfl) B.len PySem.boot_len (pa_cons (pe_ix ix_list (pv 0) pe_int (fun _ _ => rfl)) pa_nil))) set_list))
          (pss_one (ps_ret (pe_op op_mod (pv 2) (pv 1))))) pss_nil)
      (pss_cons (ps_asg (pe_op op_mod (pe_op op_add (pe_op op_add (pe_op op_mul (pe_ix ix_list (pv 0) pe_int (fun _ _ => rfl)) pe_int) (pe_op op_mul (pv 2) pe_int)) pe_int) pe_int) (pg_sub (pv 0) pe_int set_list))
      (pss_cons (ps_asg (pe_op op_add (pe_ix ix_list (pv 0) pe_int (fun _ _ => rfl)) pe_int) (pg_sub (pv 0) pe_int set_list))
      (pss_one (ps_ret (pe_op op_mod (pe_op op_fdiv (pe_ix ix_list (pv 0) pe_int (fun _ _ => rfl)) pe_int) (pv 1))))))), ?_⟩
    have fin : ∀ (r m' p' : Int) (cs : List Int) (H1 : Hp), 0 ≤ r → r < n → But2 l S H H1 → H1 l = some (.lst [.int m', .ref S, .int p']) → H1 S = some (.lst (cs.map V.int)) → cs.length ≤ 63 → Q (.int r) H1 := fun r m' p' cs H1 a1 a2 bu e1 e2 e3 =>
      k r H1 a1 a2 bu ⟨⟨m', p', cs, e1, e2, e3⟩, ne⟩
    have lm : (cells.map V.int).length = cells.length := List.length_map ..
    refine ⟨_, rfl, l, _, 1, .ref S, rfl, rfl, SqL.of hl, atI_nat (j := 1) rfl, by show 1 ≤ sizeLine; decide, fun L1 hL1 => ?_⟩
    have s1 : Same H (upd H L1 (.lst [.int 0])) := same_upd hL1
    refine ⟨S, L1, _, _, rfl, rfl, s1 _ _ hS, upd_same, by rw [lm]; show cells.length + 1 ≤ sizeLine; exact Nat.le_trans (Nat.succ_le_succ hlen) (by decide), fun C hC => ?_⟩
    have s2 := s1.trans (same_upd (o := .lst (cells.map V.int ++ [.int 0])) hC)
    generalize hH2 : upd (upd H L1 (.lst [.int 0])) C (.lst (cells.map V.int ++ [.int 0])) = H2 at s2
    have eC : H2 C = some (.lst (cells.map V.int ++ [.int 0])) := by rw [← hH2]; exact upd_same
    have hl2 := s2 _ _ hl
    have hS2 := s2 _ _ hS
    -- the number of cells, at least one
    have mx : ∀ {M : Int}, M = (if (cells.length : Int) > 1 then (cells.length : Int) else 1) → 0 < M ∧ M ≤ 63 ∧ (0 < cells.length → M = cells.length) := fun {M} e => by
      rw [e]
      split <;> omega
    generalize hM : (if (cells.length : Int) > 1 then (cells.length : Int) else 1) = M at *
    obtain ⟨M0, M1, M2⟩ := mx (M := M) rfl
    have q0 := Int.emod_nonneg p (b := M) (by omega)
    have q1 := Int.emod_lt_of_pos p M0
    obtain ⟨j, hj⟩ : ∃ j : Nat, p % M = (j : Int) := ⟨(p % M).toNat, by omega⟩
    -- the cell
    obtain ⟨c, hc, hcc⟩ : ∃ c : Int, (cells.map V.int ++ [V.int 0])[j]? = some (V.int c) ∧ (cells[j]? = some c ∨ c = 0) := by
      by_cases hjl : j < cells.length
      · refine ⟨cells[j], ?_, .inl (List.getElem?_eq_getElem hjl)⟩
        rw [List.getElem?_append_left (by rw [lm]; exact hjl), List.getElem?_map, List.getElem?_eq_getElem hjl]
        rfl
      · have : j = cells.length := by omega
        refine ⟨0, ?_, .inr rfl⟩
        rw [List.getElem?_append_right (by rw [lm]; omega), lm, this, Nat.sub_self]
        rfl
    refine ⟨_, rfl, l, _, 2, .int p, rfl, rfl, SqL.of hl2, atI_nat (j := 2) rfl, _, rfl, l, _, 1, .ref S, rfl, rfl, SqL.of hl2, atI_nat (j := 1) rfl, S, _, rfl, .inl (SqL.of hS2), 1, (cells.length : Int), by rw [lm], ?_⟩
    rw [hM]
    refine ⟨p, M, rfl, rfl, M0, C, _, p % M, .int c, rfl, rfl, SqL.of eC, by rw [hj]; exact atI_nat hc, ?_⟩
    refine ⟨_, rfl, _, _, rfl, rfl, ⟨by decide, by decide, by decide⟩, _, _, rfl, rfl, _, rfl, ?_⟩
    refine ite2 (fun h1 => ?_) (fun h1 => ?_)
    · have c0 : (10 : Int) ^ (18 : Int).toNat ≤ c := of_decide_eq_true h1
      have c1 : (0 : Int) < 10 ^ (18 : Int).toNat := by decide
      have hcl : cells[j]? = some c := hcc.resolve_right (by omega)
      have jl : j < cells.length := (List.getElem?_eq_some_iff.mp hcl).1
      have eM : M = cells.length := M2 (by omega)
      refine ⟨_, rfl, _, rfl, _, _, rfl, rfl, ⟨n0, n1⟩, _, rfl, l, _, 1, .ref S, rfl, rfl, SqL.of hl2, atI_nat (j := 1) rfl, _, rfl, l, _, 2, .int p, rfl, rfl, SqL.of hl2, atI_nat (j := 2) rfl,
        _, rfl, l, _, 1, .ref S, rfl, rfl, SqL.of hl2, atI_nat (j := 1) rfl, S, _, rfl, .inl (SqL.of hS2), p, (cells.length : Int), rfl, by rw [lm], by omega, S, _, p % (cells.length : Int), j, rfl, rfl, hS2, ?_, ?_⟩
      · rw [← eM, hj, lm]
        exact ixN_nat jl
      · refine ⟨_, rfl, _, rfl, _, _, rfl, rfl, n0, ?_⟩
        rw [set_cells]
        exact fin _ m p (cells.set j (c / n)) _ (Int.emod_nonneg _ (by omega)) (Int.emod_lt_of_pos _ n0) ((But2.of s2).trans .upd2) (by rw [upd_ne (Ne.symm ne)]; exact hl2) upd_same (by rw [List.length_set]; exact hlen)
    · refine ⟨_, rfl, l, _, 0, .int m, rfl, rfl, SqL.of hl2, atI_nat (j := 0) rfl, _, _, rfl, rfl, .inr ⟨by decide, by decide⟩, _, rfl, _, _, rfl, rfl, .inr ⟨by decide, by decide⟩, _, _, rfl, rfl, _, _, rfl, rfl, _, _, rfl, rfl, (by show (0 : Int) < 2147483647; decide), _, rfl, l, _, 0, 0, rfl, rfl, hl2, rfl, ?_⟩
      refine ⟨_, rfl, l, _, 2, .int p, rfl, rfl, SqL.of upd_same, atI_nat (j := 2) rfl, _, _, rfl, rfl, _, rfl, l, _, 2, 2, rfl, rfl, upd_same, rfl, ?_⟩
      refine ⟨_, rfl, l, _, 0, .int ((m * 48271 + c * 69621 + 11) % 2147483647), rfl, rfl, SqL.of upd_same, atI_nat (j := 0) rfl, _, _, rfl, rfl, ⟨by decide, by decide⟩, _, rfl, _, _, rfl, rfl, n0, ?_⟩
      exact fin _ ((m * 48271 + c * 69621 + 11) % 2147483647) (p + 1) cells _ (Int.emod_nonneg _ (by omega)) (Int.emod_lt_of_pos _ n0) (((But2.of s2).trans .upd1).trans .upd1) upd_same (by rw [upd_ne ne, upd_ne ne]; exact hS2) hlen
end
end Sh4
set_option Elab.async false
set_option linter.all false
set_option maxRecDepth 100000
set_option maxHeartbeats 2000000
/-! _law_alike on ints, texts, bools, None, lists and tuples of them. -/
namespace Sh4
open PySem L2 Sho NdefX Shg Sh1
def LeafV : V → Prop
  | .int _ => True
  | .str _ => True
  | .bl _ => True
  | .non => True
  | _ => False
def Alike (H : Hp) : Nat → V → V → Prop
  | 0, x, y => LeafV x ∧ x = y
  | n + 1, x, y => (LeafV x ∧ x = y) ∨ ∃ (a b : Addr) (xs ys : List V), x = .ref a ∧ y = .ref b ∧ ((H a = some (.lst xs) ∧ H b = some (.lst ys)) ∨ (H a = some (.tup xs) ∧ H b = some (.tup ys))) ∧ xs.length ≤ 1000 ∧ PySem.Paired (fun u v => Alike H n u v) xs ys
theorem Alike.same {H H' : Hp} (s : Same H H') : ∀ {n : Nat} {x y : V}, Alike H n x y → Alike H' n x y
  | 0, _, _, h => h
  | n + 1, x, y, h => by
    rcases h with h | ⟨a, b, xs, ys, e1, e2, e3, e4, e5⟩
    · exact .inl h
    · exact .inr ⟨a, b, xs, ys, e1, e2, e3.imp (fun z => ⟨s _ _ z.1, s _ _ z.2⟩) (fun z => ⟨s _ _ z.1, s _ _ z.2⟩), e4, pair_mono (fun u v q => Alike.same s q) e5⟩
section
variable {P : Program} {w : World} {K : PySem.W.Frag} {mg : Str → Option Value} {base : Heap}
def spAlike (n : Nat) : Sp := fun vs H Q _ => ∃ (x y : V), vs = [x, y] ∧ Alike H n x y ∧ ∀ H', Same H H' → Q (.bl true) H'
theorem scAlike : FnScope ["_law_found", "_law_due", "_law_k"] ["_law_found", "_law_due"] (defScope sLawAlike) := ⟨rfl, rfl, rfl, by decide +kernel, rfl, by decide +kernel, by decide +kernel⟩
theorem kA {K : PySem.W.Frag} {t : String} (h1 : kitB t "tuple" = some false) (h2 : kitB t "list" = some false) : PySem.W.kitAny K (.type t) [.type "tuple", .type "list"] = some false :=
  kitAny_cons (b := false) h1 (fun _ => kitAny_cons (b := false) h2 (fun _ => rfl) fun z => nomatch z) fun z => nomatch z
theorem kT {K : PySem.W.Frag} : PySem.W.kitAny K (.type "tuple") [.type "tuple", .type "list"] = some true :=
  kitAny_cons (b := true) (show kitB "tuple" "tuple" = some true by decide +kernel) (fun z => nomatch z) fun _ => rfl
theorem kL {K : PySem.W.Frag} : PySem.W.kitAny K (.type "list") [.type "tuple", .type "list"] = some true :=
  kitAny_cons (b := false) (show kitB "list" "tuple" = some false by decide +kernel) (fun _ => kitAny_cons (b := true) (show kitB "list" "list" = some true by decide +kernel) (fun z => nomatch z) fun _ => rfl) fun z => nomatch z
/-- what the tests ask of a leaf's class -/
structure LeafTy (K : PySem.W.Frag) (x : V) (t : String) (isNon isStr isInt isBool : Bool) : Prop where
  ty : ∀ H, TyX K H x (.type t)
  kd : kitB t "dict" = some false
  ka : PySem.W.kitAny K (.type t) [.type "tuple", .type "list"] = some false
  non : decide (x = .non) = isNon
  str : kitB t "str" = some isStr
  int : kitB t "int" = some isInt
  bool : kitB t "bool" = some isBool
  sc : scal x x = true
theorem leaf_ty {x : V} (h : LeafV x) : ∃ t isNon isStr isInt isBool, LeafTy K x t isNon isStr isInt isBool ∧ ((isNon || isStr) = false → isInt = true) := by
  cases x with
  | int i => exact ⟨"int", false, false, true, false, ⟨fun _ => .base (.int i), by decide +kernel, kA (by decide +kernel) (by decide +kernel), rfl, by decide +kernel, by decide +kernel, by decide +kernel, rfl⟩, fun _ => rfl⟩
  | str z => exact ⟨"str", false, true, false, false, ⟨fun _ => .base (.str z), by decide +kernel, kA (by decide +kernel) (by decide +kernel), rfl, by decide +kernel, by decide +kernel, by decide +kernel, rfl⟩, fun z => nomatch z⟩
  | bl b => exact ⟨"bool", false, false, true, true, ⟨fun _ => .base (.bl b), by decide +kernel, kA (by decide +kernel) (by decide +kernel), rfl, by decide +kernel, by decide +kernel, by decide +kernel, rfl⟩, fun _ => rfl⟩
  | non => exact ⟨"NoneType", true, false, false, false, ⟨fun _ => .base .non, by decide +kernel, kA (by decide +kernel) (by decide +kernel), rfl, by decide +kernel, by decide +kernel, by decide +kernel, rfl⟩, fun z => nomatch z⟩
  | _ => exact h.elim
theorem alike_split {H : Hp} {n : Nat} {sp' : Sp} {x y : V} (hn : n = 0 ∨ ∃ m, n = m + 1 ∧ sp' = spAlike m) (h : Alike H n x y) :
    (LeafV x ∧ x = y) ∨ ∃ (m : Nat) (a b : Addr) (xs ys : List V), sp' = spAlike m ∧ x = .ref a ∧ y = .ref b ∧ ((H a = some (.lst xs) ∧ H b = some (.lst ys)) ∨ (H a = some (.tup xs) ∧ H b = some (.tup ys))) ∧ xs.length ≤ 1000 ∧ PySem.Paired (fun u v => Alike H m u v) xs ys := by
  rcases hn with rfl | ⟨m, rfl, e⟩
  · exact .inl h
  · rcases h with h | ⟨a, b, xs, ys, e1, e2, e3, e4, e5⟩
    · exact .inl h
    · exact .inr ⟨m, a, b, xs, ys, e, e1, e2, e3, e4, e5⟩
/-- both readings of a subscript -/
theorem ix_seq {X : Cx} {o i : Expr} {to ti : TE} {pos : Pos} (h1 : PE X (.Subscript o i pos) (tOp (rIxL X.K) to ti)) (h2 : PE X (.Subscript o i pos) (tOp (rIxT X.K) to ti)) : PE X (.Subscript o i pos) (fun σ H Q => tOp (rIxL X.K) to ti σ H Q ∨ tOp (rIxT X.K) to ti σ H Q) := pe_either h1 h2
theorem alike_step {k n : Nat} {sp' : Sp} {f : Addr} {fd : FuncData} (F : Fun K "_law_alike" "_law_alike" sLawAlike f fd) (B : Blt mg) (mF : mg "_law_alike" = some (.ref f)) (bF : Binds K fd ["_law_found", "_law_due"] [])
    (ih : FnOk P w K mg base CX0 k f fd ["_law_found", "_law_due"] sp') (hn : n = 0 ∨ ∃ m, n = m + 1 ∧ sp' = spAlike m) : FnOk P w K mg base CX0 (k + 1) f fd ["_law_found", "_law_due"] (spAlike n) := by
  refine F.ok scAlike (fun vs H Q E h => ?_) (fun cdv A outer s H vs Q E hr h => ?_)
  · obtain ⟨x, y, rfl, _⟩ := h
    rfl
  · obtain ⟨x, y, rfl, hx, kk⟩ := h
    have nd := scAlike.nd
    refine ⟨_, pss_cons (ps_if (pt_val (pe_callB call_isi (by rfl) B.isi (by decide +kernel) (pa_cons (pv 1) (pa_cons (pe_bltn (v := .ty "dict") (by rfl) B.dict (by decide +kernel) rfl) pa_nil)))) (pss_one ps_never) pss_nil)
      (pss_cons (ps_if (pt_val (pe_callB call_isiT (by rfl) B.isi (by decide +kernel) (pa_cons (pv 1) (pa_cons (pe_tup (pa_cons (pe_bltn (v := .ty "tuple") (by rfl) B.tuple (by decide +kernel) rfl) (pa_cons (pe_bltn (v := .ty "list") (by rfl) B.list (by decide +kernel) rfl) pa_nil))) pa_nil))))
        (pss_cons (ps_if (PW.pt (pw_or (pt_not (pt_val (pe_callB call_isiT (by rfl) B.isi (by decide +kernel) (pa_cons (pv 0) (pa_cons (pe_tup (pa_cons (pe_bltn (v := .ty "tuple") (by rfl) B.tuple (by decide +kernel) rfl) (pa_cons (pe_bltn (v := .ty "list") (by rfl) B.list (by decide +kernel) rfl) pa_nil))) pa_nil)))))
            (pw_or1 (pt_cmpR op_ne (pe_callB call_isi (by rfl) B.isi (by decide +kernel) (pa_cons (pv 0) (pa_cons (pe_bltn (v := .ty "list") (by rfl) B.list (by decide +kernel) rfl) pa_nil))) (pe_callB call_isi (by rfl) B.isi (by decide +kernel) (pa_cons (pv 1) (pa_cons (pe_bltn (v := .ty "list") (by rfl) B.list (by decide +kernel) rfl) pa_nil))) (nomark _)))))
            (pss_one (ps_ret pe_bl)) pss_nil)
        (pss_cons (ps_if (pt_cmpR op_ne (pe_callB call_len_seq (by rfl) B.len PySem.boot_len (pa_cons (pv 0) pa_nil)) (pe_callB call_len_seq (by rfl) B.len PySem.boot_len (pa_cons (pv 1) pa_nil)) (nomark _)) (pss_one (ps_ret pe_bl)) pss_nil)
        (pss_one (ps_ret (pe_cmpR (op_eqD (hr.mono (Nat.zero_le _)).units) (pe_lc (own := [("_law_k", 2)]) (g := gName 2) (tt := tNot (tB (tCall sp' [] E0 (tCons (fun σ H Q => tOp (rIxL K) (tVar 0) (tVar 2) σ H Q ∨ tOp (rIxT K) (tVar 0) (tVar 2) σ H Q) (tCons (fun σ H Q => tOp (rIxL K) (tVar 1) (tVar 2) σ H Q ∨ tOp (rIxT K) (tVar 1) (tVar 2) σ H Q) tNil))))) rfl nd
            (pi_range1 (by rfl) B.range (pa_cons (pe_callB call_len_seq (by rfl) B.len PySem.boot_len (pa_cons (pv 1) pa_nil)) pa_nil)) (blkOk_by (own := [("_law_k", 2)]) (N := ["_law_found", "_law_due", "_law_k"]) (sc := defScope sLawAlike) (by decide +kernel))
            (fun _ _ _ _ _ => pg_name (i := 2) nd rfl (Or.inl rfl))
            (fun _ _ _ _ _ => pts_one (pt_not (pt_val (pe_call ih hr rfl mF F.kp bF .nil pass0 (pa_cons (pe_either (pe_ix ix_list (pv 0) (pv 2) (fun _ _ => rfl)) (pe_ix ix_tup (pv 0) (pv 2) (fun _ _ => rfl))) (pa_cons (pe_either (pe_ix ix_list (pv 1) (pv 2) (fun _ _ => rfl)) (pe_ix ix_tup (pv 1) (pv 2) (fun _ _ => rfl))) pa_nil))))))
            (fun _ _ _ _ _ => pv 2)) (pe_lst pa_nil) (nomark _)))))) pss_nil)
      (pss_cons (ps_if (PW.pt (pw_or (pt_cmpR op_isN (pv 1) pe_non (nomark _)) (pw_or1 (pt_val (pe_callB call_isi (by rfl) B.isi (by decide +kernel) (pa_cons (pv 1) (pa_cons (pe_bltn (v := .ty "str") (by rfl) B.str (by decide +kernel) rfl) pa_nil)))))))
        (pss_one (ps_ret (pe_and (pe_cmpR op_eq (pv 0) (pv 1) (nomark _)) (pe_one (pe_cmpR op_eq (pe_callB call_isi (by rfl) B.isi (by decide +kernel) (pa_cons (pv 0) (pa_cons (pe_bltn (v := .ty "str") (by rfl) B.str (by decide +kernel) rfl) pa_nil))) (pe_callB call_isi (by rfl) B.isi (by decide +kernel) (pa_cons (pv 1) (pa_cons (pe_bltn (v := .ty "str") (by rfl) B.str (by decide +kernel) rfl) pa_nil))) (nomark _)))))) pss_nil)
      (pss_one (ps_ret (pe_and (pe_callB call_isi (by rfl) B.isi (by decide +kernel) (pa_cons (pv 0) (pa_cons (pe_bltn (v := .ty "int") (by rfl) B.int (by decide +kernel) rfl) pa_nil)))
        (pe_and (pe_cmpR op_eq (pe_callB call_isi (by rfl) B.isi (by decide +kernel) (pa_cons (pv 0) (pa_cons (pe_bltn (v := .ty "bool") (by rfl) B.bool (by decide +kernel) rfl) pa_nil))) (pe_callB call_isi (by rfl) B.isi (by decide +kernel) (pa_cons (pv 1) (pa_cons (pe_bltn (v := .ty "bool") (by rfl) B.bool (by decide +kernel) rfl) pa_nil))) (nomark _))
        (pe_one (pe_cmpR op_eq (pv 0) (pv 1) (nomark _))))))))), ?_⟩
    rcases alike_split hn hx with ⟨hl, e⟩ | ⟨m, a, b, xs, ys, e, rfl, rfl, h1, h2, h3⟩
    · subst e
      obtain ⟨t, bn, bs, bi, bb, T, imp⟩ := leaf_ty (K := K) hl
      refine ⟨_, rfl, x, _, .type t, .type "dict", false, rfl, .ty _, T.ty _, T.kd, _, rfl, iteF ?_⟩
      refine ⟨_, rfl, by decide, fun tp htp => ?_⟩
      have s1 : Same H (upd H tp (.tup [.ty "tuple", .ty "list"])) := same_upd htp
      refine ⟨x, tp, _, .type t, [.type "tuple", .type "list"], false, rfl, upd_same, .cons (.ty _) (.cons (.ty _) .nil), T.ty _, T.ka, _, rfl, iteF ?_⟩
      have str_end : ∀ H1, Same H H1 → Q (.bl (decide (V.bl bs = V.bl bs))) H1 := fun H1 s1 => by
        rw [decide_eq_true rfl]
        exact kk _ s1
      refine ⟨_, rfl, rfl, _, rfl, ?_⟩
      rw [T.non]
      cases hbn : bn with
      | true =>
        refine iteT (iteT ?_)
        exact ⟨_, rfl, _, rfl, T.sc, true, by rw [decide_eq_true rfl], iteT ⟨_, rfl, x, _, .type t, .type "str", bs, rfl, .ty _, T.ty _, T.str, _, rfl, x, _, .type t, .type "str", bs, rfl, .ty _, T.ty _, T.str, rfl, str_end _ s1⟩⟩
      | false =>
        refine iteF ⟨_, rfl, x, _, .type t, .type "str", bs, rfl, .ty _, T.ty _, T.str, _, rfl, ?_⟩
        cases hbs : bs with
        | true =>
          rw [hbs] at str_end
          have Ts := T.str
          rw [hbs] at Ts
          refine iteT ?_
          exact ⟨_, rfl, _, rfl, T.sc, true, by rw [decide_eq_true rfl], iteT ⟨_, rfl, x, _, .type t, .type "str", true, rfl, .ty _, T.ty _, Ts, _, rfl, x, _, .type t, .type "str", true, rfl, .ty _, T.ty _, Ts, rfl, str_end _ s1⟩⟩
        | false =>
          have ebi := imp (by rw [hbn, hbs]; rfl)
          have Ti := T.int
          rw [ebi] at Ti
          refine iteF ⟨_, rfl, x, _, .type t, .type "int", true, rfl, .ty _, T.ty _, Ti, true, rfl, iteT ⟨_, rfl, x, _, .type t, .type "bool", bb, rfl, .ty _, T.ty _, T.bool, _, rfl, x, _, .type t, .type "bool", bb, rfl, .ty _, T.ty _, T.bool, rfl,
            true, by rw [decide_eq_true rfl], iteT ⟨_, rfl, _, rfl, T.sc, ?_⟩⟩⟩
          rw [decide_eq_true rfl]
          exact kk _ s1
    · subst e
      have ll := pair_len h3
      obtain ⟨tn, tyA, tyB, kd, ka, bl, kl⟩ : ∃ tn : String, (∀ H', Same H H' → TyX K H' (.ref a) (.type tn)) ∧ (∀ H', Same H H' → TyX K H' (.ref b) (.type tn)) ∧ kitB tn "dict" = some false ∧ PySem.W.kitAny K (.type tn) [.type "tuple", .type "list"] = some true ∧ ∃ bl, kitB tn "list" = some bl := by
        rcases h1 with ⟨e1, e2⟩ | ⟨e1, e2⟩
        · exact ⟨"list", fun H' s' => .base (.lst (s' _ _ e1)), fun H' s' => .base (.lst (s' _ _ e2)), by decide +kernel, kL, true, by decide +kernel⟩
        · exact ⟨"tuple", fun H' s' => .base (.tup (s' _ _ e1)), fun H' s' => .base (.tup (s' _ _ e2)), by decide +kernel, kT, false, by decide +kernel⟩
      have seqs : ∀ H', Same H H' → (SqL K H' a xs ∨ SqT K H' a xs) ∧ (SqL K H' b ys ∨ SqT K H' b ys) := fun H' s' => by
        rcases h1 with ⟨e1, e2⟩ | ⟨e1, e2⟩
        · exact ⟨.inl (SqL.of (s' _ _ e1)), .inl (SqL.of (s' _ _ e2))⟩
        · exact ⟨.inr (SqT.of (s' _ _ e1)), .inr (SqT.of (s' _ _ e2))⟩
      refine ⟨_, rfl, .ref b, _, .type tn, .type "dict", false, rfl, .ty _, tyB _ (Same.refl _), kd, _, rfl, iteF ?_⟩
      refine ⟨_, rfl, by decide, fun tp htp => ?_⟩
      have s1 : Same H (upd H tp (.tup [.ty "tuple", .ty "list"])) := same_upd htp
      refine ⟨.ref b, tp, _, .type tn, [.type "tuple", .type "list"], true, rfl, upd_same, .cons (.ty _) (.cons (.ty _) .nil), tyB _ s1, ka, _, rfl, iteT ?_⟩
      refine ⟨_, rfl, by decide, fun tq htq => ?_⟩
      have s2 := s1.trans (same_upd (o := .tup [.ty "tuple", .ty "list"]) htq)
      refine ⟨.ref a, tq, _, .type tn, [.type "tuple", .type "list"], true, rfl, upd_same, .cons (.ty _) (.cons (.ty _) .nil), tyA _ s2, ka, _, rfl, iteF ?_⟩
      refine ⟨_, rfl, .ref a, _, .type tn, .type "list", bl, rfl, .ty _, tyA _ s2, kl, _, rfl, .ref b, _, .type tn, .type "list", bl, rfl, .ty _, tyB _ s2, kl, rfl, false, by rw [decide_eq_true rfl]; rfl, iteF ?_⟩
      generalize upd (upd H tp (.tup [.ty "tuple", .ty "list"])) tq (.tup [.ty "tuple", .ty "list"]) = H2 at s2
      refine ⟨_, rfl, a, xs, rfl, (seqs _ s2).1, _, rfl, b, ys, rfl, (seqs _ s2).2, rfl, false, ?_, iteF ?_⟩
      · have e : (xs.length : Int) = (ys.length : Int) := by rw [ll]
        rw [e, decide_eq_true rfl]
        rfl
      · have hlen : (ys.length : Int).toNat = ys.length := by simp
        have l1000 : ys.length ≤ 1000 := by omega
        refine ⟨_, rfl, b, ys, rfl, (seqs _ s2).2, (ys.length : Nat), rfl, by omega, by omega, fun D hD => ?_⟩
        refine lc_gather walk_range (fun _ => none) hD (by rw [hlen]; exact Nat.le_trans l1000 (by decide)) (fun _ _ => trivial) (fun i v H3 H4 hi s3 yv R k1 => ?_) fun H3 s3 e3 => ?_
        · obtain ⟨rfl, rfl⟩ := yv
          rw [hlen] at hi
          obtain ⟨x', hx'⟩ : ∃ x', xs[i]? = some x' := ⟨_, List.getElem?_eq_getElem (by omega)⟩
          obtain ⟨y', hy', st⟩ := pair_get h3 hx'
          have s23 := s2.trans s3
          have zi : (0 : Int) + (i : Nat) = (i : Nat) := by omega
          have at_ : ∀ {p : Addr} {zs : List V} {z : V} {sl : Nat} {σ : L2.St} {H5 : Hp} {Q' : VK}, σ[sl]? = some (some (.ref p)) → σ[2]? = some (some (.int ((0 : Int) + (i : Nat)))) → (SqL K H5 p zs ∨ SqT K H5 p zs) → zs[i]? = some z → Q' z H5 →
              tOp (rIxL K) (tVar sl) (tVar 2) σ H5 Q' ∨ tOp (rIxT K) (tVar sl) (tVar 2) σ H5 Q' := fun e1 e2 hs hz q => by
            rcases hs with hs | hs
            · exact .inl ⟨_, e1, _, e2, _, _, _, _, rfl, rfl, hs, by rw [zi]; exact atI_nat hz, q⟩
            · exact .inr ⟨_, e1, _, e2, _, _, _, _, rfl, rfl, hs, by rw [zi]; exact atI_nat hz, q⟩
          refine ⟨rfl, at_ rfl rfl (seqs _ s23).1 hx' (at_ rfl rfl (seqs _ s23).2 hy' ?_)⟩
          exact ⟨x', y', rfl, st.same s23, fun H5 s5 => ⟨_, rfl, iteF (k1 _ s5)⟩⟩
        · have g0 : gather (fun _ => none) ((ys.length : Int).toNat) = [] := by
            unfold gather
            simp
          rw [g0] at e3
          refine ⟨by decide, fun L hL => ?_⟩
          have s4 : Same H3 (upd H3 L (.lst [])) := same_upd hL
          exact ⟨.list [], .list [], .lst (SqL.of (s4 _ _ e3)) .nil, .lst (SqL.of upd_same) .nil, rfl, rfl, kk _ ((s2.trans s3).trans s4)⟩
theorem ok_alike {f : Addr} {fd : FuncData} (F : Fun K "_law_alike" "_law_alike" sLawAlike f fd) (B : Blt mg) (mF : mg "_law_alike" = some (.ref f)) (bF : Binds K fd ["_law_found", "_law_due"] []) : ∀ n, FnOk P w K mg base CX0 (n + 1) f fd ["_law_found", "_law_due"] (spAlike n)
  | 0 => alike_step F B mF bF ok_no (.inl rfl)
  | n + 1 => alike_step F B mF bF (ok_alike F B mF bF n) (.inr ⟨n, rfl, rfl⟩)
end
end Sh4
set_option Elab.async false
set_option linter.all false
set_option maxRecDepth 100000
set_option maxHeartbeats 4000000
/-! list.count of flat values; isinstance of a caught error of an own class, with or without fields. -/
namespace Sho
open PySem PySem.Spec PyProof.Rows L2
section
variable {X : Cx}
theorem count_flat {y : V} : ∀ {us : List Value} {ys : List V}, Vals ys us → ys.all flatV = true → us.countP (eqU y) = ys.countP fun z => eqV z y
  | _, _, .nil, _ => rfl
  | u :: us, z :: ys, .cons r t, f => by
    rw [List.all_cons, Bool.and_eq_true] at f
    rw [List.countP_cons, List.countP_cons, count_flat t f.2, eqU_of r f.1]
def rCntF (K : PySem.W.Frag) : V → List V → Hp → VK → Prop := fun x xs H Q => ∃ (p : Addr) (ys : List V) (y : V), x = .ref p ∧ xs = [y] ∧ SqL K H p ys ∧ flatV y = true ∧ ys.all flatV = true ∧ Q (.int (ys.countP (fun z => eqV z y) : Nat)) H
theorem mt_countF : MtR X "list.count" (rCntF X.K) := by
  intro pins s σ H x xs v us Q I rx rxs h
  obtain ⟨p, ys, y, rfl, rfl, hs, fy, fys, q⟩ := h
  cases rx
  obtain ⟨u, rfl, ru⟩ := rxs.one
  obtain ⟨its, rv, ⟨⟨cls, dd, data, sl⟩, n, ho, hc, hdn, hd⟩, hlen⟩ := I.list hs
  simp only at hc hd
  subst hc hd
  refine call_meets PySem.F.slot_list_count ⟨_, ho, rfl⟩ PySem.F.entry_list_count (PySem.F.args_list_count_2 _ _)
    (SeqAt.list_countAt p its.toArray n dd sl u (eqU y)) ⟨ho, fun z hz => mem_eqAt ru fy rv fys z (by simpa using hz), ?_⟩
  have ec : its.toArray.toList.countP (eqU y) = ys.countP fun z => eqV z y := count_flat rv fys
  refine ⟨.int (ys.countP (fun z => eqV z y) : Nat), H, I.tok _, ⟨s.toks, ?_⟩, q⟩
  show Value.int ((its.toArray.toList.countP (eqU y) : Nat) : Int) s.toks = Value.int ((ys.countP (fun z => eqV z y) : Nat) : Int) s.toks
  rw [ec]
/-- isinstance(e, c), e the exception that the suite holds: its class and its dict are told when it is read -/
def rIsX (K : PySem.W.Frag) (cls : Value) (d : Option Addr) (a : Addr) : List V → Hp → VK → Prop := fun xs H Q => ∃ (D : Addr) (c : V) (cv : Value) (b : Bool), cls = .ref D ∧ ExcC K D ∧ (∀ dd, d = some dd → ∃ fs, H dd = some (.xd fs)) ∧
  xs = [.ref a, c] ∧ (∀ u, RelV c u → u = cv) ∧ PySem.W.kitOne K (.ref D) cv = some b ∧ Q (.bl b) H
theorem call_isX {a : Addr} {oe : Obj} {cls : Value} {d : Option Addr} {pn : List (Addr × Obj)} (hz : Zc cls d oe) (hf : ∃ vs, oe.data = .fields vs) : CallR (X.suite a ((a, oe) :: pn)) (.builtin "isinstance") (rIsX X.K cls d a) := by
  intro pins s σ H xs us Q I r h
  obtain ⟨D, c, cv, b, hc, C, hd, rfl, hcv, e, q⟩ := h
  subst hc
  cases r with
  | cons rx rr =>
    cases rr with
    | cons rt rr =>
      cases rr
      cases rx
      have ec := hcv _ rt
      subst ec
      obtain ⟨hget, _⟩ := I.pin (a, oe) (List.mem_append.mpr (.inl List.mem_cons_self))
      obtain ⟨vs, hv⟩ := hf
      obtain ⟨od, J⟩ : ∃ od, PySem.W.InstAt s.heap a oe D od := by
        obtain ⟨oc, od, oda, osl⟩ := oe
        obtain ⟨h1, h2⟩ := hz
        dsimp only at h1 h2 hv
        subst h1 h2 hv
        cases od with
        | none => exact ⟨none, hget, rfl, rfl, trivial⟩
        | some dd =>
          obtain ⟨fs, hfs⟩ := hd dd rfl
          obtain ⟨mA, n, _⟩ : ObjOk (X.suite a _).prog (X.suite a _).w H s.heap dd (.xd fs) := I.hok dd _ hfs
          obtain ⟨o, es, ep, ho, _⟩ := n
          exact ⟨some o, hget, rfl, rfl, ho⟩
      have cl : (PySem.W.clsIn X.K D).isSome = true := by
        obtain ⟨cd, hc, _⟩ := PySem.W.any_some C.hd
        rw [hc]
        rfl
      exact PySem.W.kia_one (PySem.W.kitx_exc cl C.hg C.hk C.hs C.ha C.hn C.ht C.hm) I.kIn J e (fun z => nomatch z) fun tk => ⟨.bl b, H, I.kept (t' := tk) fun _ _ z => z, rfl, q⟩
/-! ### the same rules within an except suite: their readings speak of the outer context -/
variable {a : Addr} {l : List (Addr × Obj)}
theorem ixs_list : IxR (X.suite a l) (rIxL X.K) := ix_list
theorem mts_index : MtR (X.suite a l) "list.index" (rIndex X.K) := mt_index
theorem mts_countF : MtR (X.suite a l) "list.count" (rCntF X.K) := mt_countF
theorem ops_in_seq : OpR (X.suite a l) (compareOp .In) (rIn X.K false) := op_in_seq
theorem pes_bm {o e : Expr} {es : List Expr} {to : TE} {t : TA} {name : Str} {apos cpos : Pos} {T id : String} {r : V → List V → Hp → VK → Prop} (pa : PlainAttrs T) (slot : Slot T name id) (hty : typeOf (.builtin id) = pure (.type "method_descriptor")) (hm : MtR (X.suite a l) id r) (ho : PE (X.suite a l) o to) (ha : PA (X.suite a l) (e :: es) t)
    (hbase : attributeBase o name X.env (eval o X.env) = eval o X.env := by rfl)
    (hfew : ((backTo cpos (starEach (e :: es) X.env)).all (fun x => !x.1) && (backToKw cpos (keywordEach [] X.env)).all (fun x => x.1.isSome)
      && decide ((e :: es).length + ([] : List Keyword).length + (if ([] : List Keyword).isEmpty then 0 else 1) < 30)) = true := by rfl)
    (hline : (apos.endLine == cpos.line) = true := by rfl) (hs : starEach (e :: es) X.env = (false, eval e X.env) :: starEach es X.env := by rfl) (hplain : (backTo cpos (starEach es X.env)).any (·.1) = false := by rfl) :
    PE (X.suite a l) (.Call (.Attribute o name apos) (e :: es) [] cpos) (tBM X.K T r to t) := pe_bm pa slot hty hm ho ha hbase hfew hline hs hplain
end
end Sho
set_option Elab.async false
set_option linter.all false
set_option maxRecDepth 100000
set_option maxHeartbeats 4000000
/-! _law_outcome: what a call gives, or the word of its error. -/
namespace Sh4
open PySem L2 Sho NdefX Shg Sh1
/-- the errors' names, words and fields, in the order of the tests -/
def eNm : Fin 10 → Str := fun j => (["DaybookError", "DecodeError", "InvalidName", "InvalidNumber", "InvalidOperation", "InvalidStay", "InvalidText", "TooEarly", "TooWide", "UnknownGuest"] : List Str).getD j.1 "UnknownGuest"
def eWd : Fin 10 → Str := fun j => (["daybook", "code", "name", "number", "operation", "stay", "text", "early", "wide", "guest"] : List Str).getD j.1 "guest"
def eFl : Fin 10 → Option Str := fun j => ([some "row", some "offset", none, none, some "index", some "index", some "row", none, none, some "name"] : List (Option Str)).getD j.1 none
/-- what the written part says of the errors: C j the class -/
structure Ten (K : PySem.W.Frag) (mg : Str → Option Value) (P0 : Addr) (C : Fin 10 → Addr) : Prop where
  base : mg "PartyError" = some (.ref P0)
  g : ∀ j, mg (eNm j) = some (.ref (C j))
  up : ∀ j, PySem.W.exmOne K (.ref (C j)) (.ref P0) = some true
  is : ∀ i j, PySem.W.kitOne K (.ref (C i)) (.ref (C j)) = some (decide (i = j))
  ve : ∀ j, PySem.W.kitOne K (.ref (C j)) (.type "ValueError") = some true
  ex : ∀ j, ExcC K (C j)
  xf : ∀ j, XfC K (C j)
  no : ∀ j f, eFl j = some f → PySem.W.findIn K (.ref (C j)) f = some none
def hdBody : Stmt → List Stmt
  | .FunctionDef (body := [.Try _ [.ExceptHandler _ _ b _] _ _ _]) .. => b
  | _ => []
/-- what is wanted of the error j -/
def Out10 (C : Fin 10 → Addr) (Q : VK) : XK := fun cls d H1 => ∃ j : Fin 10, cls = .ref (C j) ∧
  ((eFl j = none ∧ d = none ∧ ∀ p H2, Same H1 H2 → H2 p = some (.tup [.str (eWd j)]) → Q (.ref p) H2) ∨
   ∃ (f : Str) (dd : Addr) (v : V), eFl j = some f ∧ d = some dd ∧ H1 dd = some (.xd [(f, v)]) ∧ ∀ p H2, Same H1 H2 → H2 p = some (.tup [.str (eWd j), v]) → Q (.ref p) H2)
/-- the value behind its word -/
def OutV (Q : VK) : VK := fun v H1 => ∀ p H2, Same H1 H2 → H2 p = some (.tup [.str "value", v]) → Q (.ref p) H2
abbrev kinds10 (j : Fin 10) : List V := [.bl (decide (j = 0)), .bl (decide (j = 1)), .bl (decide (j = 2)), .bl (decide (j = 3)), .bl (decide (j = 4)), .bl (decide (j = 5)), .bl (decide (j = 6)), .bl (decide (j = 7)), .bl (decide (j = 8)), .bl (decide (j = 9))]
abbrev words10 : List V := [.str "daybook", .str "code", .str "name", .str "number", .str "operation", .str "stay", .str "text", .str "early", .str "wide", .str "guest"]
theorem kinds_one : ∀ j : Fin 10, (kinds10 j).countP (fun z => eqV z (.bl true)) = 1 := by decide
theorem kinds_at : ∀ j : Fin 10, (kinds10 j)[j.1]? = some (V.bl true) := fun j => match j with
  | 0 => rfl | 1 => rfl | 2 => rfl | 3 => rfl | 4 => rfl | 5 => rfl | 6 => rfl | 7 => rfl | 8 => rfl | 9 => rfl
theorem kinds_no : ∀ j : Fin 10, ∀ m, m < j.1 → ((kinds10 j)[m]?).all (fun z => !eqV z (.bl true)) = true := by decide
theorem words_at : ∀ j : Fin 10, words10[j.1]? = some (V.str (eWd j)) := fun j => match j with
  | 0 => rfl | 1 => rfl | 2 => rfl | 3 => rfl | 4 => rfl | 5 => rfl | 6 => rfl | 7 => rfl | 8 => rfl | 9 => rfl
theorem ten_cases : ∀ j : Fin 10, j = 0 ∨ j = 1 ∨ j = 2 ∨ j = 3 ∨ j = 4 ∨ j = 5 ∨ j = 6 ∨ j = 7 ∨ j = 8 ∨ j = 9 := by decide
theorem word_row : ∀ j : Fin 10, inV (.str (eWd j)) [.str "daybook", .str "text"] = (decide (j = 0) || decide (j = 6)) := by decide +kernel
theorem word_index : ∀ j : Fin 10, inV (.str (eWd j)) [.str "operation", .str "stay"] = (decide (j = 4) || decide (j = 5)) := by decide +kernel
theorem word_name : ∀ j : Fin 10, decide (V.str (eWd j) = V.str "guest") = decide (j = 9) := by decide +kernel
theorem word_code : ∀ j : Fin 10, decide (V.str (eWd j) = V.str "code") = decide (j = 1) := by decide +kernel
section
variable {P : Program} {w : World} {K : PySem.W.Frag} {mg : Str → Option Value} {base : Heap}
theorem scOut : FnScope ["_law_call", "e", "_law_kinds", "_law_words", "_law_word"] ["_law_call"] (defScope sOut) := ⟨rfl, rfl, rfl, by decide +kernel, rfl, by decide +kernel, by decide +kernel⟩
theorem outcome_run {g P0 : Addr} {C : Fin 10 → Addr} {fd : FuncData} (F : Fun K "_law_outcome" "_law_outcome" sOut g fd) (bF : Binds K fd ["_law_call"] []) (B : Blt mg) (EE : Ten K mg P0 C)
    {cl : List (Str × Addr)} {fr : List Str} {ws : List (Option V)} {sp : SpL} {k : Nat} {A : Around} {outer : List Env} {s : Shared} {H : Hp} {f : Addr} {Q : VK} {E : XK} (hr : Room (k + 1) A) (e0 : Env0 P w K mg base A outer s H)
    (Cs : CellsAt cl fr ws s.heap H) (hact : Act P w K mg base (L2.CX P w) k cl fr sp f H) (q : ∀ (R : VK) (E' : XK), (∀ v H1, OutV Q v H1 → R v H1) → (∀ cls d H1, Out10 C Q cls d H1 → E' cls d H1) → sp ws H R E') :
    codeAny (model P w) A (.call (.ref g) ⟨[.ref f], []⟩) (CR (L2.CX P w) outer P w H s Q E) s := by
  obtain ⟨oc, od, kV, doc, pm, an, cdv, ct, osl, rfl, lk, hcd⟩ := F.ex
  have KX : K.In s.heap := e0.mod.kin.keeps fun b o e => (e0.bs b o e).1
  refine LamX.run_ofS (N := ["_law_call", "e", "_law_kinds", "_law_words", "_law_word"]) (ps := ["_law_call"]) (us := [.ref f]) (vs := [.ref f]) lk hcd scOut hr e0 (bF s [.ref f] KX rfl) (.cons rfl .nil) rfl fun hr' => ?_
  have nd := scOut.nd
  refine' ⟨_, pss_one (ps_try (Wout := fun cls d _ H' => E cls d H') (tb := fun W => tRet (tTup (tCons (tC (.str "value")) (tCons (tAct P w K mg base (L2.CX P w) k 0 cl fr ws fun σ => WE W σ) tNil)))) rfl rfl nd (takes_of rfl rfl rfl rfl)
      (fun W pn xe tk po => pss_one (ps_ret (pe_tup (pa_cons pe_str (pa_cons (pe_act (i := 0) (CX := L2.CX P w) (k := k) (E := fun σ => WE W σ) hr' Cs (fun _ _ _ => List.not_mem_nil) (fun σ => passAt tk σ) rfl (.inl rfl)) pa_nil))))) (l := [⟨.ref P0, some 1, _⟩])
    (.cons ⟨rfl, by decide, .inl EE.base⟩ ⟨rfl, rfl⟩ (fun a oe cls d pn hz hf => ?su) .nil)), ?rd⟩
  case su =>
    have key : PSs ((cxOf (L2.CX P w) P w K mg base ["_law_call", "e", "_law_kinds", "_law_words", "_law_word"] "_law_outcome" (defScope sOut) g cdv A outer s H E).suite a ((a, oe) :: pn)) (hdBody sOut) _ := pss_cons (ps_set (i := 2) nd rfl (Or.inl rfl) (pe_lst (pa_cons (pe_callB (call_isX hz hf) (by rfl) B.isi (by decide +kernel) (pa_cons (pv 1) (pa_cons (pe_glob (v := .ref (C 0)) (by rfl) (by exact EE.g 0) (by rfl)) pa_nil)))
        (pa_cons (pe_callB (call_isX hz hf) (by rfl) B.isi (by decide +kernel) (pa_cons (pv 1) (pa_cons (pe_glob (v := .ref (C 1)) (by rfl) (by exact EE.g 1) (by rfl)) pa_nil)))
        (pa_cons (pe_callB (call_isX hz hf) (by rfl) B.isi (by decide +kernel) (pa_cons (pv 1) (pa_cons (pe_glob (v := .ref (C 2)) (by rfl) (by exact EE.g 2) (by rfl)) pa_nil))) pa_nil)))))
      (pss_cons (ps_expr (pes_bm PySem.F.plainAttrs_list PySem.F.slot_list_extend PySem.F.type_list_extend mt_extend (pv 2) (pa_cons (pe_lst (pa_cons (pe_callB (call_isX hz hf) (by rfl) B.isi (by decide +kernel) (pa_cons (pv 1) (pa_cons (pe_glob (v := .ref (C 3)) (by rfl) (by exact EE.g 3) (by rfl)) pa_nil)))
        (pa_cons (pe_callB (call_isX hz hf) (by rfl) B.isi (by decide +kernel) (pa_cons (pv 1) (pa_cons (pe_glob (v := .ref (C 4)) (by rfl) (by exact EE.g 4) (by rfl)) pa_nil)))
        (pa_cons (pe_callB (call_isX hz hf) (by rfl) B.isi (by decide +kernel) (pa_cons (pv 1) (pa_cons (pe_glob (v := .ref (C 5)) (by rfl) (by exact EE.g 5) (by rfl)) pa_nil))) pa_nil)))) pa_nil)))
      (pss_cons (ps_expr (pes_bm PySem.F.plainAttrs_list PySem.F.slot_list_extend PySem.F.type_list_extend mt_extend (pv 2) (pa_cons (pe_lst (pa_cons (pe_callB (call_isX hz hf) (by rfl) B.isi (by decide +kernel) (pa_cons (pv 1) (pa_cons (pe_glob (v := .ref (C 6)) (by rfl) (by exact EE.g 6) (by rfl)) pa_nil)))
        (pa_cons (pe_callB (call_isX hz hf) (by rfl) B.isi (by decide +kernel) (pa_cons (pv 1) (pa_cons (pe_glob (v := .ref (C 7)) (by rfl) (by exact EE.g 7) (by rfl)) pa_nil)))
        (pa_cons (pe_callB (call_isX hz hf) (by rfl) B.isi (by decide +kernel) (pa_cons (pv 1) (pa_cons (pe_glob (v := .ref (C 8)) (by rfl) (by exact EE.g 8) (by rfl)) pa_nil))) pa_nil)))) pa_nil)))
      (pss_cons (ps_expr (pes_bm PySem.F.plainAttrs_list PySem.F.slot_list_append PySem.F.type_list_append mt_append (pv 2) (pa_cons (pe_callB (call_isX hz hf) (by rfl) B.isi (by decide +kernel) (pa_cons (pv 1) (pa_cons (pe_glob (v := .ref (C 9)) (by rfl) (by exact EE.g 9) (by rfl)) pa_nil))) pa_nil)))
      (pss_cons (ps_if (PW.pt (pw_or (pt_cmpR op_ne (pes_bm PySem.F.plainAttrs_list PySem.F.slot_list_count PySem.F.type_list_count mts_countF (pv 2) (pa_cons pe_bl pa_nil)) pe_int (nomark _))
          (pw_or1 (pt_not (pt_val (pe_callB (call_isX hz hf) (by rfl) B.isi (by decide +kernel) (pa_cons (pv 1) (pa_cons (pe_bltn (v := .ty "ValueError") (by rfl) B.ve (by decide +kernel) rfl) pa_nil)))))))) (pss_one ps_never) pss_nil)
      (pss_cons (ps_set (i := 3) nd rfl (Or.inl rfl) (pe_lst (pa_cons pe_str (pa_cons pe_str (pa_cons pe_str (pa_cons pe_str (pa_cons pe_str (pa_cons pe_str (pa_cons pe_str (pa_cons pe_str (pa_cons pe_str (pa_cons pe_str pa_nil))))))))))))
      (pss_cons (ps_set (i := 4) nd rfl (Or.inl rfl) (pe_ix ixs_list (pv 3) (pes_bm PySem.F.plainAttrs_list PySem.F.slot_list_index PySem.F.type_list_index mts_index (pv 2) (pa_cons pe_bl pa_nil)) (fun _ _ => rfl)))
      (pss_cons (ps_if (pt_cmpR ops_in_seq (pv 4) (pe_tup (pa_cons pe_str (pa_cons pe_str pa_nil))) rfl) (pss_one (ps_ret (pe_tup (pa_cons (pv 4) (pa_cons (pe_either (pe_xf (EE.xf 0) (EE.no 0 "row" rfl) hz hf (pv 1)) (pe_xf (EE.xf 6) (EE.no 6 "row" rfl) hz hf (pv 1))) pa_nil))))) pss_nil)
      (pss_cons (ps_if (pt_cmpR ops_in_seq (pv 4) (pe_tup (pa_cons pe_str (pa_cons pe_str pa_nil))) rfl) (pss_one (ps_ret (pe_tup (pa_cons (pv 4) (pa_cons (pe_either (pe_xf (EE.xf 4) (EE.no 4 "index" rfl) hz hf (pv 1)) (pe_xf (EE.xf 5) (EE.no 5 "index" rfl) hz hf (pv 1))) pa_nil))))) pss_nil)
      (pss_cons (ps_if (pt_cmpR op_eq (pv 4) pe_str (nomark _)) (pss_one (ps_ret (pe_tup (pa_cons (pv 4) (pa_cons (pe_xf (EE.xf 9) (EE.no 9 "name" rfl) hz hf (pv 1)) pa_nil))))) pss_nil)
      (pss_one (ps_ret (pe_ifExp (pt_cmpR op_eq (pv 4) pe_str (nomark _)) (pe_tup (pa_cons (pv 4) (pa_cons (pe_xf (EE.xf 1) (EE.no 1 "offset" rfl) hz hf (pv 1)) pa_nil))) (pe_tup (pa_cons (pv 4) pa_nil))))))))))))))
    exact key
  case rd =>
  refine ⟨f, sp, rfl, hact, q _ _ (fun v H1 o => ?_) fun cls d H1 o => ?_⟩
  · exact ⟨by show 2 ≤ sizeLine; decide, fun p hp => o p _ (same_upd hp) upd_same⟩
  · obtain ⟨j, rfl, o⟩ := o
    refine ⟨true, EE.up j, fun _ a ha => ?_, fun z => nomatch z⟩
    have hd1 : ∀ H', Same H1 H' → ∀ dd, d = some dd → ∃ fs, H' dd = some (.xd fs) := fun H' s' dd e => by
      rcases o with ⟨_, e2, _⟩ | ⟨f, dd', v, _, e2, e3, _⟩
      · rw [e2] at e
        cases e
      · rw [e2] at e
        cases e
        exact ⟨_, s' _ _ e3⟩
    have r0 := Same.refl H1
    refine ⟨_, rfl, C j, .ref (C 0), _, _, rfl, EE.ex j, hd1 _ r0, rfl, fun u r => r, EE.is j 0, _, rfl, C j, .ref (C 1), _, _, rfl, EE.ex j, hd1 _ r0, rfl, fun u r => r, EE.is j 1, _, rfl, C j, .ref (C 2), _, _, rfl, EE.ex j, hd1 _ r0, rfl, fun u r => r, EE.is j 2, by show 3 ≤ sizeLine; decide, fun L hL => ?_⟩
    have sL : ∀ {H' : Hp} {u : HO}, Same H1 H' → Same H1 (upd H' L u) := fun s' b u e => by
      rw [upd_ne (ne_of_none e hL)]
      exact s' b u e
    have s1 : Same H1 (upd H1 L (.lst [.bl (decide (j = 0)), .bl (decide (j = 1)), .bl (decide (j = 2))])) := sL r0
    have l1 : (upd H1 L (.lst [.bl (decide (j = 0)), .bl (decide (j = 1)), .bl (decide (j = 2))])) L = some (.lst [.bl (decide (j = 0)), .bl (decide (j = 1)), .bl (decide (j = 2))]) := upd_same
    generalize upd H1 L (.lst [.bl (decide (j = 0)), .bl (decide (j = 1)), .bl (decide (j = 2))]) = H2 at s1 l1
    show _
    refine ⟨_, rfl, .inl ⟨rfl, _, SqL.of l1⟩, _, rfl, C j, .ref (C 3), _, _, rfl, EE.ex j, hd1 _ s1, rfl, fun u r => r, EE.is j 3, _, rfl, C j, .ref (C 4), _, _, rfl, EE.ex j, hd1 _ s1, rfl, fun u r => r, EE.is j 4, _, rfl, C j, .ref (C 5), _, _, rfl, EE.ex j, hd1 _ s1, rfl, fun u r => r, EE.is j 5, by show 3 ≤ sizeLine; decide, fun M hM => ?_⟩
    have s2 : Same H1 (upd H2 M (.lst [.bl (decide (j = 3)), .bl (decide (j = 4)), .bl (decide (j = 5))])) := s1.trans (same_upd hM)
    have l2 : (upd H2 M (.lst [.bl (decide (j = 3)), .bl (decide (j = 4)), .bl (decide (j = 5))])) L = some (.lst [.bl (decide (j = 0)), .bl (decide (j = 1)), .bl (decide (j = 2))]) := same_upd hM _ _ l1
    have m2 : (upd H2 M (.lst [.bl (decide (j = 3)), .bl (decide (j = 4)), .bl (decide (j = 5))])) M = some (.lst [.bl (decide (j = 3)), .bl (decide (j = 4)), .bl (decide (j = 5))]) := upd_same
    generalize upd H2 M (.lst [.bl (decide (j = 3)), .bl (decide (j = 4)), .bl (decide (j = 5))]) = H3 at s2 l2 m2
    refine ⟨L, M, _, _, rfl, rfl, l2, m2, by show 6 ≤ sizeLine; decide, ?_⟩
    have s3 : Same H1 (upd H3 L (.lst ([.bl (decide (j = 0)), .bl (decide (j = 1)), .bl (decide (j = 2))] ++ [.bl (decide (j = 3)), .bl (decide (j = 4)), .bl (decide (j = 5))]))) := sL s2
    have l3 : (upd H3 L (.lst ([.bl (decide (j = 0)), .bl (decide (j = 1)), .bl (decide (j = 2))] ++ [.bl (decide (j = 3)), .bl (decide (j = 4)), .bl (decide (j = 5))]))) L = some (.lst [.bl (decide (j = 0)), .bl (decide (j = 1)), .bl (decide (j = 2)), .bl (decide (j = 3)), .bl (decide (j = 4)), .bl (decide (j = 5))]) := upd_same
    generalize upd H3 L (.lst ([.bl (decide (j = 0)), .bl (decide (j = 1)), .bl (decide (j = 2))] ++ [.bl (decide (j = 3)), .bl (decide (j = 4)), .bl (decide (j = 5))])) = H4 at s3 l3
    refine ⟨_, rfl, .inl ⟨rfl, _, SqL.of l3⟩, _, rfl, C j, .ref (C 6), _, _, rfl, EE.ex j, hd1 _ s3, rfl, fun u r => r, EE.is j 6, _, rfl, C j, .ref (C 7), _, _, rfl, EE.ex j, hd1 _ s3, rfl, fun u r => r, EE.is j 7, _, rfl, C j, .ref (C 8), _, _, rfl, EE.ex j, hd1 _ s3, rfl, fun u r => r, EE.is j 8, by show 3 ≤ sizeLine; decide, fun N hN => ?_⟩
    have s4 : Same H1 (upd H4 N (.lst [.bl (decide (j = 6)), .bl (decide (j = 7)), .bl (decide (j = 8))])) := s3.trans (same_upd hN)
    have l4 : (upd H4 N (.lst [.bl (decide (j = 6)), .bl (decide (j = 7)), .bl (decide (j = 8))])) L = some (.lst [.bl (decide (j = 0)), .bl (decide (j = 1)), .bl (decide (j = 2)), .bl (decide (j = 3)), .bl (decide (j = 4)), .bl (decide (j = 5))]) := same_upd hN _ _ l3
    have m4 : (upd H4 N (.lst [.bl (decide (j = 6)), .bl (decide (j = 7)), .bl (decide (j = 8))])) N = some (.lst [.bl (decide (j = 6)), .bl (decide (j = 7)), .bl (decide (j = 8))]) := upd_same
    generalize upd H4 N (.lst [.bl (decide (j = 6)), .bl (decide (j = 7)), .bl (decide (j = 8))]) = H5 at s4 l4 m4
    refine ⟨L, N, _, _, rfl, rfl, l4, m4, by show 9 ≤ sizeLine; decide, ?_⟩
    have s5 : Same H1 (upd H5 L (.lst ([.bl (decide (j = 0)), .bl (decide (j = 1)), .bl (decide (j = 2)), .bl (decide (j = 3)), .bl (decide (j = 4)), .bl (decide (j = 5))] ++ [.bl (decide (j = 6)), .bl (decide (j = 7)), .bl (decide (j = 8))]))) := sL s4
    have l5 : (upd H5 L (.lst ([.bl (decide (j = 0)), .bl (decide (j = 1)), .bl (decide (j = 2)), .bl (decide (j = 3)), .bl (decide (j = 4)), .bl (decide (j = 5))] ++ [.bl (decide (j = 6)), .bl (decide (j = 7)), .bl (decide (j = 8))]))) L = some (.lst [.bl (decide (j = 0)), .bl (decide (j = 1)), .bl (decide (j = 2)), .bl (decide (j = 3)), .bl (decide (j = 4)), .bl (decide (j = 5)), .bl (decide (j = 6)), .bl (decide (j = 7)), .bl (decide (j = 8))]) := upd_same
    generalize upd H5 L (.lst ([.bl (decide (j = 0)), .bl (decide (j = 1)), .bl (decide (j = 2)), .bl (decide (j = 3)), .bl (decide (j = 4)), .bl (decide (j = 5))] ++ [.bl (decide (j = 6)), .bl (decide (j = 7)), .bl (decide (j = 8))])) = H6 at s5 l5
    refine ⟨_, rfl, .inl ⟨rfl, _, SqL.of l5⟩, _, rfl, C j, .ref (C 9), _, _, rfl, EE.ex j, hd1 _ s5, rfl, fun u r => r, EE.is j 9, L, _, _, rfl, rfl, l5, by show 9 < sizeLine; decide, ?_⟩
    have s6 : Same H1 (upd H6 L (.lst ([.bl (decide (j = 0)), .bl (decide (j = 1)), .bl (decide (j = 2)), .bl (decide (j = 3)), .bl (decide (j = 4)), .bl (decide (j = 5)), .bl (decide (j = 6)), .bl (decide (j = 7)), .bl (decide (j = 8))] ++ [.bl (decide (j = 9))]))) := sL s5
    have l6 : (upd H6 L (.lst ([.bl (decide (j = 0)), .bl (decide (j = 1)), .bl (decide (j = 2)), .bl (decide (j = 3)), .bl (decide (j = 4)), .bl (decide (j = 5)), .bl (decide (j = 6)), .bl (decide (j = 7)), .bl (decide (j = 8))] ++ [.bl (decide (j = 9))]))) L = some (.lst (kinds10 j)) := upd_same
    generalize upd H6 L (.lst ([.bl (decide (j = 0)), .bl (decide (j = 1)), .bl (decide (j = 2)), .bl (decide (j = 3)), .bl (decide (j = 4)), .bl (decide (j = 5)), .bl (decide (j = 6)), .bl (decide (j = 7)), .bl (decide (j = 8))] ++ [.bl (decide (j = 9))])) = H7 at s6 l6
    have fl : (kinds10 j).all flatV = true := rfl
    refine ⟨_, rfl, .inl ⟨rfl, _, SqL.of l6⟩, L, _, .bl true, rfl, rfl, SqL.of l6, rfl, fl, rfl, false, ?_, iteF ?_⟩
    · rw [kinds_one j]
      rfl
    refine ⟨_, rfl, C j, .ty "ValueError", .type "ValueError", true, rfl, EE.ex j, hd1 _ s6, rfl, fun u r => r, EE.ve j, _, rfl, iteF ?_⟩
    refine ⟨by show 10 ≤ sizeLine; decide, fun W hW => ?_⟩
    have s7 : Same H1 (upd H7 W (.lst words10)) := s6.trans (same_upd hW)
    have l7 : (upd H7 W (.lst words10)) L = some (.lst (kinds10 j)) := same_upd hW _ _ l6
    have w7 : (upd H7 W (.lst words10)) W = some (.lst words10) := upd_same
    generalize upd H7 W (.lst words10) = H8 at s7 l7 w7
    refine ⟨_, rfl, _, rfl, .inl ⟨rfl, _, SqL.of l7⟩, L, _, .bl true, j.1, .bl true, rfl, rfl, SqL.of l7, rfl, fl, kinds_at j, rfl, fun m z hm hz => ?_, W, _, _, .str (eWd j), rfl, rfl, SqL.of w7, atI_nat (words_at j), ?_⟩
    · have q := kinds_no j m hm
      rw [hz] at q
      simpa using q
    -- the word's four tests
    refine ⟨_, rfl, by show 2 ≤ sizeLine; decide, fun t1 ht1 => ⟨t1, _, rfl, .inr (SqT.of upd_same), rfl, rfl, _, rfl, ?_⟩⟩
    have s8 : Same H1 (upd H8 t1 (.tup [.str "daybook", .str "text"])) := s7.trans (same_upd ht1)
    generalize upd H8 t1 (.tup [.str "daybook", .str "text"]) = H9 at s8
    have fin1 : ∀ {H' : Hp} (p : Addr), Same H1 H' → H' p = none → eFl j = none → Q (.ref p) (upd H' p (.tup [.str (eWd j)])) := fun {H'} p s' hp e => by
      rcases o with ⟨_, _, k⟩ | ⟨f, dd, v, e1, _⟩
      · exact k p _ (s'.trans (same_upd hp)) upd_same
      · rw [e] at e1
        cases e1
    have fin2 : ∀ f, eFl j = some f → ∃ (dd : Addr) (v : V), d = some dd ∧ ∀ H' : Hp, Same H1 H' → H' dd = some (.xd [(f, v)]) ∧ ∀ p, H' p = none → Q (.ref p) (upd H' p (.tup [.str (eWd j), v])) := fun f e => by
      rcases o with ⟨e1, _⟩ | ⟨f', dd, v, e1, e2, e3, k⟩
      · rw [e] at e1
        cases e1
      · rw [e] at e1
        cases e1
        exact ⟨dd, v, e2, fun H' s' => ⟨s' _ _ e3, fun p hp => k p _ (s'.trans (same_upd hp)) upd_same⟩⟩
    have lk : ∀ (f : Str) (v : V), List.lookup f [(f, v)] = some v := fun f v => by simp [List.lookup]
    refine ite2 (fun h => ?_) (fun h => ?_)
    · have hj : j = 0 ∨ j = 6 := by
        rw [word_row j] at h
        simpa using h
      rcases hj with rfl | rfl
      · obtain ⟨dd, v, e2, k⟩ := fin2 "row" rfl
        obtain ⟨k1, k2⟩ := k _ s8
        exact ⟨_, rfl, .inl ⟨_, rfl, rfl, rfl, dd, _, v, e2, k1, lk _ _, by show 2 ≤ sizeLine; decide, fun p hp => k2 p hp⟩⟩
      · obtain ⟨dd, v, e2, k⟩ := fin2 "row" rfl
        obtain ⟨k1, k2⟩ := k _ s8
        exact ⟨_, rfl, .inr ⟨_, rfl, rfl, rfl, dd, _, v, e2, k1, lk _ _, by show 2 ≤ sizeLine; decide, fun p hp => k2 p hp⟩⟩
    have n1 : j ≠ 0 ∧ j ≠ 6 := by
      rw [word_row j] at h
      simpa using h
    refine ⟨_, rfl, by show 2 ≤ sizeLine; decide, fun t2 ht2 => ⟨t2, _, rfl, .inr (SqT.of upd_same), rfl, rfl, _, rfl, ?_⟩⟩
    have s9 : Same H1 (upd H9 t2 (.tup [.str "operation", .str "stay"])) := s8.trans (same_upd ht2)
    generalize upd H9 t2 (.tup [.str "operation", .str "stay"]) = Ha at s9
    refine ite2 (fun h => ?_) (fun h => ?_)
    · have hj : j = 4 ∨ j = 5 := by
        rw [word_index j] at h
        simpa using h
      rcases hj with rfl | rfl
      · obtain ⟨dd, v, e2, k⟩ := fin2 "index" rfl
        obtain ⟨k1, k2⟩ := k _ s9
        exact ⟨_, rfl, .inl ⟨_, rfl, rfl, rfl, dd, _, v, e2, k1, lk _ _, by show 2 ≤ sizeLine; decide, fun p hp => k2 p hp⟩⟩
      · obtain ⟨dd, v, e2, k⟩ := fin2 "index" rfl
        obtain ⟨k1, k2⟩ := k _ s9
        exact ⟨_, rfl, .inr ⟨_, rfl, rfl, rfl, dd, _, v, e2, k1, lk _ _, by show 2 ≤ sizeLine; decide, fun p hp => k2 p hp⟩⟩
    have n2 : j ≠ 4 ∧ j ≠ 5 := by
      rw [word_index j] at h
      simpa using h
    refine ⟨_, rfl, rfl, _, rfl, ite2 (fun h => ?_) (fun h => ?_)⟩
    · have hj : j = 9 := by
        rw [word_name j] at h
        simpa using h
      subst hj
      obtain ⟨dd, v, e2, k⟩ := fin2 "name" rfl
      obtain ⟨k1, k2⟩ := k _ s9
      exact ⟨_, rfl, _, rfl, rfl, rfl, dd, _, v, e2, k1, lk _ _, by show 2 ≤ sizeLine; decide, fun p hp => k2 p hp⟩
    have n3 : j ≠ 9 := by
      rw [word_name j] at h
      simpa using h
    refine ⟨_, rfl, rfl, _, rfl, ite2 (fun h => ?_) (fun h => ?_)⟩
    · have hj : j = 1 := by
        rw [word_code j] at h
        simpa using h
      subst hj
      obtain ⟨dd, v, e2, k⟩ := fin2 "offset" rfl
      obtain ⟨k1, k2⟩ := k _ s9
      exact ⟨_, rfl, _, rfl, rfl, rfl, dd, _, v, e2, k1, lk _ _, by show 2 ≤ sizeLine; decide, fun p hp => k2 p hp⟩
    · have n4 : j ≠ 1 := by
        rw [word_code j] at h
        simpa using h
      have ef : eFl j = none := by
        rcases ten_cases j with e | e | e | e | e | e | e | e | e | e
        · exact absurd e n1.1
        · exact absurd e n4
        · rw [e]; rfl
        · rw [e]; rfl
        · exact absurd e n2.1
        · exact absurd e n2.2
        · exact absurd e n1.2
        · rw [e]; rfl
        · rw [e]; rfl
        · exact absurd e n3
      exact ⟨_, rfl, by show 1 ≤ sizeLine; decide, fun p hp => fin1 p s9 hp ef⟩
end
end Sh4
set_option Elab.async false
set_option linter.all false
set_option maxRecDepth 100000
set_option maxHeartbeats 4000000
/-! An own error without a field; shared by the laws with ten errors. -/
namespace Sh4
open PySem L2 Sho NdefX Shg Sh1
/-- an own error without a field -/
structure ErrN4 (K : PySem.W.Frag) (mg : Str → Option Value) (x : Str) (C : Addr) : Prop where
  ex : PySem.W.excIn K C [.type "ValueError", .type "Exception", .type "BaseException", .type "object"] "ValueError.__new__" = true
  gm : mg x = some (.ref C)
  kp : PySem.W.keepIn K (.ref C) = true
  be : PySem.W.subIn K (.ref C) (.type "BaseException") = some true
  ty : PySem.W.typeIn K (.ref C) = some (.type "type")
theorem small_cat {a b : Str} {n m : Nat} (ha : a.length ≤ n) (hb : b.length ≤ m) : (a ++ b).length ≤ n + m := by
  rw [PySem.Str.length_append]
  omega
end Sh4
set_option Elab.async false
set_option linter.all false
set_option maxRecDepth 100000
set_option maxHeartbeats 2000000
/-! Facts of the head that the laws with ten errors share. -/
namespace Sh4
open PySem L2 Sho NdefX He Shh Shg Sh1
section
variable {K : Shh.Fr} {h : Heap} {mg : Str → Option Value}
abbrev bltNames : List Str := ["len", "all", "isinstance", "bool", "tuple", "list", "range", "enumerate", "int", "super", "sorted", "dict", "str", "min", "max", "ValueError", "set", "sum", "any"]
theorem blt_ok (X : K.In h) (G : h.Ns mainGlobals mg) (c : freeB K bltNames = true) : Shg.Blt mg := by
  have k : ∀ x, x ∈ bltNames → mg x = none := fun x hx => freeB_ok X G c hx
  exact ⟨k _ (by simp), k _ (by simp), k _ (by simp), k _ (by simp), k _ (by simp), k _ (by simp), k _ (by simp), k _ (by simp), k _ (by simp), k _ (by simp), k _ (by simp), k _ (by simp), k _ (by simp), k _ (by simp), k _ (by simp), k _ (by simp), k _ (by simp), k _ (by simp), k _ (by simp)⟩
theorem ernB_ok {x : Str} (gm : mg x = some (.ref (ga K x))) (c : ernB K x = true) : ErrN4 K mg x (ga K x) := by
  obtain ⟨c1, c⟩ := ba c
  obtain ⟨c2, c⟩ := ba c
  obtain ⟨c3, c⟩ := ba c
  obtain ⟨c4, c5⟩ := ba c
  exact ⟨c1, gm, c2, of_decide_eq_true c3, of_decide_eq_true c4⟩
def excB (K : Shh.Fr) (D : Addr) : Bool := eqO (PySem.W.findIn K (.ref D) "__getattribute__") (some (some (.builtin "BaseException.__getattribute__"))) && (eqO (PySem.W.findIn K (.ref D) "__getattr__") (some none) && (decide (PySem.W.subIn K (.ref D) (.type "BaseException") = some true) &&
  (PySem.W.hasDictIn K D && (eqO (PySem.W.findIn K (.ref D) "__class__") (some (some (.builtin "object.__class__"))) && (eqO (PySem.W.specialIn K (.builtin "object.__class__") "__get__") (some (some (.builtin "getset_descriptor.__get__"))) && (decide (PySem.W.takesIn K (.builtin "object.__class__") = some true) &&
  decide (PySem.W.mroIn K D (.type "object") = some true)))))))
theorem excB_ok {D : Addr} (c : excB K D = true) : ExcC K D ∧ XfC K D := by
  obtain ⟨c1, c⟩ := ba c
  obtain ⟨c2, c⟩ := ba c
  obtain ⟨c3, c⟩ := ba c
  obtain ⟨c4, c⟩ := ba c
  obtain ⟨c5, c⟩ := ba c
  obtain ⟨c6, c⟩ := ba c
  obtain ⟨c7, c8⟩ := ba c
  exact ⟨⟨eqO_ok c1, eqO_ok c2, of_decide_eq_true c3, c4, eqO_ok c5, eqO_ok c6, of_decide_eq_true c7, of_decide_eq_true c8⟩, ⟨eqO_ok c1, eqO_ok c2, of_decide_eq_true c3, c4⟩⟩
/-- the class of the error j -/
abbrev eA (K : Shh.Fr) (j : Fin 10) : Addr := ga K (eNm j)
def all10 : List (Fin 10) := [0, 1, 2, 3, 4, 5, 6, 7, 8, 9]
theorem all10_mem : ∀ j : Fin 10, j ∈ all10 := by decide
def tenB (K : Shh.Fr) : Bool := all10.all fun j => decide (PySem.W.exmOne K (.ref (eA K j)) (.ref (ga K "PartyError")) = some true) && ((all10.all fun i => decide (PySem.W.kitOne K (.ref (eA K j)) (.ref (eA K i)) = some (decide (j = i)))) &&
  (decide (PySem.W.kitOne K (.ref (eA K j)) (.type "ValueError") = some true) && (excB K (eA K j) && (match eFl j with
    | some f => eqO (PySem.W.findIn K (.ref (eA K j)) f) (some none)
    | none => true))))
theorem tenB_ok (g : ∀ x, x ∈ (["PartyError", "DaybookError", "DecodeError", "InvalidName", "InvalidNumber", "InvalidOperation", "InvalidStay", "InvalidText", "TooEarly", "TooWide", "UnknownGuest"] : List Str) → mg x = some (.ref (ga K x))) (c : tenB K = true) : Ten K mg (ga K "PartyError") (eA K) := by
  have one : ∀ j : Fin 10, _ := fun j => List.all_eq_true.mp c j (all10_mem j)
  refine ⟨g _ (by simp), fun j => ?_, fun j => ?_, fun i j => ?_, fun j => ?_, fun j => ?_, fun j => ?_, fun j f e => ?_⟩
  · rcases ten_cases j with rfl | rfl | rfl | rfl | rfl | rfl | rfl | rfl | rfl | rfl <;> exact g _ (by simp [eNm])
  · obtain ⟨c1, _⟩ := ba (one j)
    exact of_decide_eq_true c1
  · obtain ⟨_, c⟩ := ba (one i)
    obtain ⟨c2, _⟩ := ba c
    exact of_decide_eq_true (List.all_eq_true.mp c2 j (all10_mem j))
  · obtain ⟨_, c⟩ := ba (one j)
    obtain ⟨_, c⟩ := ba c
    obtain ⟨c3, _⟩ := ba c
    exact of_decide_eq_true c3
  · obtain ⟨_, c⟩ := ba (one j)
    obtain ⟨_, c⟩ := ba c
    obtain ⟨_, c⟩ := ba c
    obtain ⟨c4, _⟩ := ba c
    exact (excB_ok c4).1
  · obtain ⟨_, c⟩ := ba (one j)
    obtain ⟨_, c⟩ := ba c
    obtain ⟨_, c⟩ := ba c
    obtain ⟨c4, _⟩ := ba c
    exact (excB_ok c4).2
  · obtain ⟨_, c⟩ := ba (one j)
    obtain ⟨_, c⟩ := ba c
    obtain ⟨_, c⟩ := ba c
    obtain ⟨_, c5⟩ := ba c
    rw [e] at c5
    exact eqO_ok c5
end
theorem _root_.Shh.FunF.funL {K : Shh.Fr} {x qual : Str} {st : Stmt} {f : Addr} (F : FunF K x qual st [] f) : ∃ fd, Shg.FunL K x qual st f (codeA K f) fd ∧
    (∀ ps : List Str, (∀ (kV doc pm : Value) (an : Option Addr) (cdv ct : Value) (us : List Value), us.length = ps.length → bindArgs (PySem.W.fnOf x qual (defArgs st) (defBody st) (defScope st) .none kV doc pm an cdv ct) ⟨us, []⟩ = pure (ps.zip us)) → Binds K fd ps []) ∧
    ∀ ps : List Str, (∀ (kV doc pm : Value) (an : Option Addr) (cdv ct : Value) (us : List Value), us.length = ps.length → bindArgs (PySem.W.fnOf x qual (defArgs st) (defBody st) (defScope st) .none kV doc pm an cdv ct) ⟨us, []⟩ = pure (ps.zip us)) → ∀ (s : Shared) (us : List Value), us.length = ps.length → BindsTo s fd ⟨us, []⟩ (ps.zip us) := by
  obtain ⟨oc, od, doc, pm, an, ct, osl, lk, hcd⟩ := F.ex
  exact ⟨_, ⟨oc, od, .none, doc, pm, an, ct, osl, rfl, lk, hcd⟩, fun ps h => .all (h .none doc pm an _ ct), fun ps h s us hl => .of_eq (h .none doc pm an _ ct us hl)⟩
abbrev dn (x : Str) (st : Stmt) : Dn := ⟨fun K => ga K x, x, x, st, fun _ => []⟩
def tabA (K : Shh.Fr) (x : Str) : Addr := tabOf K (codeA K (ga K x))
end Sh4
set_option Elab.async false
set_option linter.all false
set_option maxRecDepth 100000
set_option maxHeartbeats 2000000
namespace Sh1
open PySem L2 Sho
/-- the builtins that the text calls -/
structure Blt (mg : Str → Option Value) : Prop where
  len : mg "len" = none
  all : mg "all" = none
  isi : mg "isinstance" = none
  bool : mg "bool" = none
  tuple : mg "tuple" = none
  list : mg "list" = none
  range : mg "range" = none
  enum : mg "enumerate" = none
  int : mg "int" = none
  sup : mg "super" = none
  sorted : mg "sorted" = none
section
variable {P : Program} {w : World} {K : PySem.W.Frag} {mg : Str → Option Value} {base : Heap}
/-! ### is_name -/
def letter (c : Nat) : Bool := !decide (c < 97) && !decide (122 < c)
def okName (z : Str) : Bool := decide ((1 : Int) ≤ z.length) && (decide ((z.length : Int) ≤ 8) && z.cps.toList.all letter)
theorem one_lt (c d : Nat) : ([c] < [d]) ↔ c < d := by
  rw [List.cons_lt_cons_iff]
  simp
theorem cps_a : (Str.ofString "a").cps.toList = [97] := by decide +kernel
theorem cps_z : (Str.ofString "z").cps.toList = [122] := by decide +kernel
def spIsName : Sp := fun vs H Q _ => ∃ z : Str, vs = [.str z] ∧ z.length ≤ sizeLine ∧ ∀ H', Same H H' → Q (.bl (okName z)) H'
theorem scIsName : FnScope ["word", "letter"] ["word"] (defScope sIsName) := ⟨rfl, rfl, rfl, by decide +kernel, rfl, by decide +kernel, by decide +kernel⟩
theorem ok_isName {f : Addr} {fd : FuncData} {t8 : Tok} (F : Fun K "is_name" "is_name" sIsName f fd) (B : Blt mg) (g8 : mg "LONGEST_NAME" = some (.int 8 t8)) : FnOk P w K mg base CX0 1 f fd ["word"] spIsName := by
  refine F.ok scIsName (fun vs H Q E h => ?_) (fun cdv A outer s H vs Q E hr h => ?_)
  · obtain ⟨z, rfl, _⟩ := h
    rfl
  · obtain ⟨z, rfl, hz, k⟩ := h
    refine ⟨_, pss_one (ps_ret (pe_and (pe_chain op_le op_le pe_int (pe_callB call_len_str (by rfl) B.len PySem.boot_len (pa_cons (pv 0) pa_nil)) (pe_glob (v := .int 8) rfl g8 ⟨_, rfl⟩)) (pe_one
      (pe_callB (cr_all rfl) (by rfl) B.all (by decide +kernel) (pa_cons (pe_lc (own := [("letter", 1)]) (g := gName 1) (tt := tYes) rfl scIsName.nd (pi_str (pv 0)) (blkOk_by (own := [("letter", 1)]) (N := ["word", "letter"]) (sc := defScope sIsName) (by decide +kernel))
        (fun _ _ _ _ _ => pg_name (i := 1) scIsName.nd rfl (Or.inl rfl)) (fun _ _ _ _ _ => pts_nil)
        (fun _ _ _ _ _ => pe_chain op_le_str op_le_str pe_str (pv 1) pe_str)) pa_nil))))), ?_⟩
    refine ⟨_, rfl, z, rfl, hz, _, _, rfl, rfl, _, rfl, ?_⟩
    refine ite2 (fun h1 => ?_) (fun h1 => ?_)
    · refine ⟨_, _, rfl, rfl, _, rfl, ?_⟩
      refine ite2 (fun h2 => ?_) (fun h2 => ?_)
      · refine ⟨_, rfl, z, rfl, fun D hD => ?_⟩
        refine lc_map (walk_str (z := z)) (fun i => (z.cps.toList[i]?).map fun c => .bl (letter c)) hD hz (fun _ _ => trivial) (fun i x H1 H' hi s1 y R k1 => ?_) (fun i hi => ⟨_, by rw [List.getElem?_eq_getElem (by simpa using hi)]; rfl⟩) fun H1 s1 e1 => ?_
        · obtain ⟨rfl, c, hc, rfl⟩ := y
          refine ⟨rfl, _, rfl, _, _, rfl, rfl, _, rfl, ?_⟩
          have fi : Option.map (fun c => V.bl (letter c)) z.cps.toList[i]? = some (.bl (letter c)) := by
            rw [Array.getElem?_toList, hc]
            rfl
          have e1 : decide (({ cps := #[c] } : Str).cps.toList < (Str.ofString "a").cps.toList) = decide (c < 97) := by
            rw [cps_a]
            exact decide_eq_decide.mpr (one_lt c 97)
          have e2 : decide ((Str.ofString "z").cps.toList < ({ cps := #[c] } : Str).cps.toList) = decide (122 < c) := by
            rw [cps_z]
            exact decide_eq_decide.mpr (one_lt 122 c)
          rw [e1]
          by_cases h3 : c < 97
          · rw [decide_eq_true h3]
            refine iteF (k1 _ _ (Same.refl _) ?_)
            rw [fi]
            simp [letter, h3]
          · rw [decide_eq_false h3]
            refine iteT ⟨_, _, rfl, rfl, ?_⟩
            rw [e2]
            refine k1 _ _ (Same.refl _) ?_
            rw [fi]
            simp [letter, h3]
        · refine ⟨D, z.cps.toList.map letter, rfl, ?_, ?_⟩
          · have e2 : gather (fun i => (z.cps.toList[i]?).map fun c => V.bl (letter c)) z.cps.size = (z.cps.toList.map letter).map V.bl := by
              have := gather_map z.cps.toList fun c => V.bl (letter c)
              rw [Array.length_toList] at this
              rw [this, List.map_map]
              rfl
            rw [← e2]
            exact SqL.of e1
          · have e3 : okName z = (z.cps.toList.map letter).all id := by
              unfold okName
              have h1' : (1 : Int) ≤ z.length := of_decide_eq_true h1
              have h2' : (z.length : Int) ≤ 8 := of_decide_eq_true h2
              rw [decide_eq_true h1', decide_eq_true h2', List.all_map]
              rfl
            rw [← e3]
            exact k _ s1
      · have e3 : okName z = false := by
          unfold okName
          have h2' : ¬ (z.length : Int) ≤ 8 := fun q => h2 (decide_eq_true q)
          rw [decide_eq_false h2']
          simp
        have := k H (Same.refl H)
        rw [e3] at this
        exact this
    · have e3 : okName z = false := by
        unfold okName
        have h1' : ¬ (1 : Int) ≤ z.length := fun q => h1 (decide_eq_true q)
        rw [decide_eq_false h1']
        rfl
      have := k H (Same.refl H)
      rw [e3] at this
      exact ⟨_, rfl, iteF this⟩
/-! ### is_tick, is_stay -/
def okTick (n : Int) : Bool := decide (0 ≤ n) && decide (n ≤ 1000000000)
def spIsWithin : Sp := fun vs H Q _ => ∃ n a b : Int, vs = [.int n, .int a, .int b] ∧ Q (.bl (decide (a ≤ n) && decide (n ≤ b))) H
theorem scIsWithin : FnScope ["number", "low", "high"] ["number", "low", "high"] (defScope sIsWithin) := ⟨rfl, rfl, rfl, by decide +kernel, rfl, by decide +kernel, by decide +kernel⟩
theorem ok_isWithin {f : Addr} {fd : FuncData} (F : Fun K "is_within" "is_within" sIsWithin f fd) (B : Blt mg) : FnOk P w K mg base CX0 1 f fd ["number", "low", "high"] spIsWithin := by
  refine F.ok scIsWithin (fun vs H Q E h => ?_) (fun cdv A outer s H vs Q E hr h => ?_)
  · obtain ⟨n, a, b, rfl, _⟩ := h
    rfl
  · obtain ⟨n, a, b, rfl, k⟩ := h
    refine ⟨_, pss_one (ps_ret (pe_and (pe_not (pe_callB call_isi (by rfl) B.isi (by decide +kernel) (pa_cons (pv 0) (pa_cons (pe_bltn (v := .ty "bool") (by rfl) B.bool (by decide +kernel) rfl) pa_nil))))
      (pe_one (pe_chain op_le op_le (pv 1) (pv 0) (pv 2))))), ?_⟩
    refine ⟨_, rfl, .int n, .ty "bool", .type "int", .type "bool", false, rfl, .ty _, .base (.int n), kit_ty (by decide +kernel), _, rfl, _, rfl, iteT ⟨_, rfl, _, rfl, _, _, rfl, rfl, _, rfl, ?_⟩⟩
    refine ite2 (fun h1 => ?_) (fun h1 => ?_)
    · refine ⟨_, rfl, _, _, rfl, rfl, ?_⟩
      rw [h1] at k
      exact k
    · rw [Bool.eq_false_iff.mpr h1] at k
      exact k
def spIsTick : Sp := fun vs H Q _ => ∃ n : Int, vs = [.int n] ∧ Q (.bl (okTick n)) H
theorem scIsTick : FnScope ["number"] ["number"] (defScope sIsTick) := ⟨rfl, rfl, rfl, by decide +kernel, rfl, by decide +kernel, by decide +kernel⟩
theorem ok_isTick {f fW : Addr} {fd fdW : FuncData} {t8 : Tok} (F : Fun K "is_tick" "is_tick" sIsTick f fd) (g9 : mg "LAST_TICK" = some (.int 1000000000 t8))
    (GW : FnOk P w K mg base CX0 1 fW fdW ["number", "low", "high"] spIsWithin) (mW : mg "is_within" = some (.ref fW)) (kW : PySem.W.keepIn K (.ref fW) = true) (bW : Binds K fdW ["number", "low", "high"] []) : FnOk P w K mg base CX0 2 f fd ["number"] spIsTick := by
  refine F.ok scIsTick (fun vs H Q E h => ?_) (fun cdv A outer s H vs Q E hr h => ?_)
  · obtain ⟨n, rfl, _⟩ := h
    rfl
  · obtain ⟨n, rfl, k⟩ := h
    refine ⟨_, pss_one (ps_ret (pe_call GW hr rfl mW kW bW .nil pass0 (pa_cons (pv 0) (pa_cons pe_int (pa_cons (pe_glob (v := .int 1000000000) rfl g9 ⟨_, rfl⟩) pa_nil))))), ?_⟩
    exact ⟨_, rfl, n, 0, 1000000000, rfl, k⟩
def okStay (z : Str) (a b : Int) : Bool := okName z && (okTick a && (okTick b && decide (a < b)))
def spIsStay : Sp := fun vs H Q _ => ∃ (z : Str) (a b : Int), vs = [.str z, .int a, .int b] ∧ z.length ≤ sizeLine ∧ ∀ H', Same H H' → Q (.bl (okStay z a b)) H'
theorem scIsStay : FnScope ["name", "come", "go"] ["name", "come", "go"] (defScope sIsStay) := ⟨rfl, rfl, rfl, by decide +kernel, rfl, by decide +kernel, by decide +kernel⟩
theorem ok_isStay {f fN fT : Addr} {fd fdN fdT : FuncData} (F : Fun K "is_stay" "is_stay" sIsStay f fd) (GN : FnOk P w K mg base CX0 1 fN fdN ["word"] spIsName) (mN : mg "is_name" = some (.ref fN)) (kN : PySem.W.keepIn K (.ref fN) = true) (bN : Binds K fdN ["word"] [])
    (GT : FnOk P w K mg base CX0 2 fT fdT ["number"] spIsTick) (mT : mg "is_tick" = some (.ref fT)) (kT : PySem.W.keepIn K (.ref fT) = true) (bT : Binds K fdT ["number"] []) : FnOk P w K mg base CX0 3 f fd ["name", "come", "go"] spIsStay := by
  refine F.ok scIsStay (fun vs H Q E h => ?_) (fun cdv A outer s H vs Q E hr h => ?_)
  · obtain ⟨z, a, b, rfl, _⟩ := h
    rfl
  · obtain ⟨z, a, b, rfl, hz, k⟩ := h
    refine ⟨_, pss_one (ps_ret (pe_and (pe_call GN (hr.mono (by decide)) rfl mN kN bN .nil pass0 (pa_cons (pv 0) pa_nil)) (pe_and (pe_call GT hr rfl mT kT bT .nil pass0 (pa_cons (pv 1) pa_nil))
      (pe_and (pe_call GT hr rfl mT kT bT .nil pass0 (pa_cons (pv 2) pa_nil)) (pe_one (pe_cmpR op_lt (pv 1) (pv 2) (nomark _))))))), ?_⟩
    have fin : ∀ (c : Bool) (H' : Hp), Same H H' → c = okStay z a b → Q (.bl c) H' := fun c H' s e => by
      rw [e]
      exact k _ s
    refine ⟨_, rfl, z, rfl, hz, fun H1 s1 => ⟨_, rfl, ?_⟩⟩
    refine ite2 (fun h1 => ⟨_, rfl, a, rfl, _, rfl, ?_⟩) (fun h1 => fin _ _ s1 (by unfold okStay; rw [Bool.eq_false_iff.mpr h1]; rfl))
    refine ite2 (fun h2 => ⟨_, rfl, b, rfl, _, rfl, ?_⟩) (fun h2 => fin _ _ s1 (by unfold okStay; rw [Bool.eq_false_iff.mpr h2]; simp))
    refine ite2 (fun h3 => ⟨_, rfl, _, rfl, _, _, rfl, rfl, ?_⟩) (fun h3 => fin _ _ s1 (by unfold okStay; rw [Bool.eq_false_iff.mpr h3]; simp))
    exact fin _ _ s1 (by unfold okStay; rw [h1, h2, h3]; rfl)
end
end Sh1
set_option Elab.async false
set_option linter.all false
set_option maxRecDepth 100000
set_option maxHeartbeats 2000000
/-! enumerate of a tuple. -/
namespace ShE
open PySem
open Sem (wp)
open AutoSeq1 (wpAny_loadPart')
/-- the enumerate of the tuple o at t -/
theorem meets_enumT (t : Addr) (o : Obj) (items : Array Value) (hc : o.cls = .type "tuple") (n : Nat) (hd : o.data = .seq items n) :
    Meets (Builtin.«enumerate.__new__» ⟨[.type "enumerate", .ref t], []⟩) (fun _ R s => s.heap.get? t = some o ∧
      R (.ok (.ret (.ref (s.heap.push { cls := .type "tuple_iterator", data := .fields #[.ref t, .int 0 0] }).objs.size)))
        { s with heap := (s.heap.push { cls := .type "tuple_iterator", data := .fields #[.ref t, .int 0 0] }).push { cls := .type "enumerate", data := .fields #[.none, .bool false, .ref s.heap.objs.size, rawInt 0, .none, .none] } }) :=
  .of_wp fun prog w A R s h => by
    obtain ⟨hp, g, d, tk, os⟩ := s
    obtain ⟨ht, h⟩ := h
    obtain ⟨oc, od, odt, osl⟩ := o
    replace hc : oc = .type "tuple" := hc
    replace hd : odt = .seq items n := hd
    subst hc hd
    have sub := sub_enumerate
    have isT : Heap.IsTuple (Shared.heap ⟨hp, g, d, tk, os⟩) t items := ⟨_, ht, rfl, n, rfl⟩
    wp_walk using wpAny_loadPart' ht
    refine wpAny_stack_any fun st => wpAny_pure ?_
    split
    · rename_i c _ _ _ _ _
      cases (c == Value.type "enumerate")
      all_goals
        wp_walk using wpAny_loadPart' ht, wpAny_pyIter_tuple isT
        exact ⟨_, rfl, h⟩
    · wp_walk using wpAny_loadPart' ht, wpAny_pyIter_tuple isT
      exact ⟨_, rfl, h⟩
section
variable {prog : Program} {w : World} {A : Around} {E : Value → Shared → Prop} {s : Shared}
theorem call_enumT {t : Addr} {items : Array Value} {Q : Value → Shared → Prop} (hT : s.heap.IsTuple t items)
    (h : ∀ h', IsEnum h' (s.heap.objs.size + 1) s.heap.objs.size 0 .none → h'.IsTupleIter s.heap.objs.size t 0 → h'.objs.size = s.heap.objs.size + 2 →
      (∀ b o, s.heap.get? b = some o → h'.get? b = some o) → Q (.ref (s.heap.objs.size + 1)) { s with heap := h' }) :
    wpAny (model prog w) A (call (.type "enumerate") [.ref t]) Q E s := by
  obtain ⟨o, ho, hc, n, hd⟩ := hT
  refine callType_new F.called_enumerate (by decide) (F.typeCall_enumerate_1 _) (F.newCall_enumerate_1 _) (fun obj => F.args_object_init_2 obj _) F.entry_enumerate_new
    (meets_enumT t o items hc n hd) ⟨ho, ?_⟩
  generalize hI : s.heap.push { cls := .type "tuple_iterator", data := .fields #[.ref t, .int 0 0] } = h1
  have z1 : h1.objs.size = s.heap.objs.size + 1 := by
    rw [← hI]
    exact Heap.size_push ..
  have it1 : h1.get? s.heap.objs.size = some { cls := .type "tuple_iterator", data := .fields #[.ref t, .int 0 0] } := by
    rw [← hI]
    exact Heap.get?_push_size _ rfl
  show _ ∧ _
  rw [z1]
  have en : IsEnum (h1.push { cls := .type "enumerate", data := .fields #[.none, .bool false, .ref s.heap.objs.size, rawInt 0, .none, .none] }) (s.heap.objs.size + 1) s.heap.objs.size 0 .none := by
    have := Heap.get?_push_size h1 (o := { cls := .type "enumerate", data := .fields #[.none, .bool false, .ref s.heap.objs.size, rawInt 0, .none, .none] }) rfl
    rw [z1] at this
    exact this
  refine ⟨⟨_, en, rfl⟩, h _ en ⟨_, Heap.get?_push_of_some _ it1, rfl, rfl⟩ (by rw [Heap.size_push, z1]) fun b o x => Heap.get?_push_of_some _ ?_⟩
  rw [← hI]
  exact Heap.get?_push_of_some _ x
end
end ShE

namespace Sho
open PySem PySem.Spec PyProof.Rows L2
/-- enumerate of the tuple at a: pairs of the turn and its item -/
def Iet (K : PySem.W.Frag) (a : Addr) : It :=
  ⟨fun i H => ∃ (xs : List V) (x : V), SqT K H a xs ∧ xs[i]? = some x, fun i H v H' => ∃ T x, v = .ref T ∧ H T = none ∧ H' = upd H T (.tup [.int (i : Nat), x]) ∧ ∀ xs, SqT K H a xs → xs[i]? = some x,
    fun i H => ∃ xs : List V, SqT K H a xs ∧ xs.length = i⟩
theorem walk_enumT {K : PySem.W.Frag} {a : Addr} {xs : List V} : Walk (Iet K a) xs.length (fun H => SqT K H a xs) (YPair (fun i => some (.int (i : Nat))) (fun i => xs[i]?)) := by
  refine ⟨fun i H hi q => ⟨xs, xs[i], q, by simp [hi]⟩, fun H q => ⟨xs, q, rfl⟩, fun i H v H' _ q y => ?_⟩
  obtain ⟨T, x, h1, h2, h3, h4⟩ := y
  exact ⟨T, .int (i : Nat), x, h1, h2, h3, rfl, h4 xs q⟩
theorem turn_enumT {P : Program} {w : World} {K : PySem.W.Frag} {elts : List Expr} {kk : Nat} {tpos : Pos} (a e it : Addr) :
    Turn P w K (.Tuple elts kk tpos) (Iet K a) [e, it] e (fun i h => (∃ old, IsEnum h e it ((i : Nat) : Int) old) ∧ h.IsTupleIter it a i ∧ e ≠ it ∧ a ≠ it ∧ a ≠ e) where
  mem := by simp
  obj := fun i h st b hb => by
    obtain ⟨⟨old, he⟩, ⟨o, ho, hc, hd⟩, _⟩ := st
    have two : b = e ∨ b = it := by simpa using hb
    rcases two with z | z
    · rw [z]
      exact ⟨_, he, fun v q => nomatch q⟩
    · rw [z]
      exact ⟨o, ho, fun v q => by rw [hd] at q; cases q⟩
  keep := fun i h h' st k => let ⟨⟨old, he⟩, hi, n⟩ := st; ⟨⟨old, k e (by simp) _ he⟩, hi.at fun o q => k it (by simp) o q, n⟩
  item := by
    intro X hP hw hK hc i pins s σ H E I hf st hg
    subst hP hw hK
    obtain ⟨⟨old, he⟩, hit, n1, n2, n3⟩ := st
    obtain ⟨xs, x, hq, hx⟩ := hg
    obtain ⟨its, rv, isT, hz⟩ := I.tuple hq
    have DR := Draws.tuple (prog := X.prog) (w := X.w) (A := X.A.in1) (I.ok.hd hc) it a n2 its.toArray
    obtain ⟨u, hu, ru⟩ := rv.get hx
    have lt : i < its.toArray.size := by
      rw [List.size_toArray]
      exact (List.getElem?_eq_some_iff.mp hu).1
    refine wpAny_pyNext_enum_itemD DR he ⟨hit, isT⟩ lt n1 (by simp [n1, Ne.symm n3]) fun u' h' tk hu' ho st' hT hsz hk => ?_
    have eu : u' = u := by
      have hu' : its.toArray[i]? = some u' := hu'
      rw [List.getElem?_toArray, hu] at hu'
      exact (Option.some.inj hu').symm
    subst eu
    have hel : e < s.heap.objs.size := Heap.lt_size he
    have hil : it < s.heap.objs.size := by
      obtain ⟨_, q, _⟩ := hit
      exact Heap.lt_size q
    refine ⟨_, rfl, wpAny_letOwnedTupleGo_enum (s := { s with heap := h', toks := tk + 1 }) ho fun h'' he' sb => ?_⟩
    have hT2 : h''.get? s.heap.objs.size = some { cls := .type "tuple", data := .seq #[.int i tk, u'] } := (sb.2 _ (Nat.ne_of_gt hel)).trans hT
    have new : ObjOk X.prog X.w (upd H s.heap.objs.size (.tup [.int (i : Nat), x])) h'' s.heap.objs.size (.tup [.int (i : Nat), x]) :=
      ⟨by show 2 ≤ sizeLine; decide, [.int i tk, u'], .cons ⟨_, rfl⟩ (.cons ru .nil), ⟨_, hT2, rfl, _, rfl⟩⟩
    have I1 : Inv X pins σ (upd H s.heap.objs.size (.tup [.int (i : Nat), x])) { s with heap := h'', toks := tk + 1 } :=
      I.turnedNew (ch := [e, it]) (fun b ob hb q => (sb.2 b (fun z => hb (by simp [z]))).trans (hk b ob (fun z => hb (by simp [z])) (fun z => hb (by simp [z])) q)) hf (Nat.le_refl _) new
    refine ⟨.ref s.heap.objs.size, _, I1, rfl, ⟨_, x, rfl, I.hok.fresh (Nat.le_refl _), rfl, fun ys hy => by rw [I.tuple_inj hy hq]; exact hx⟩, ⟨⟨u', ?_⟩, st'.1.at fun o q => (sb.2 it (Ne.symm n1)).trans q, n1, n2, n3⟩, fun b hb => ?_⟩
    · have z : ((i + 1 : Nat) : Int) = (i : Int) + 1 := by omega
      rw [z]
      exact he'
    · have old' : b < s.heap.objs.size := by
        have two : b = e ∨ b = it := by simpa using hb
        rcases two with z | z <;> rw [z] <;> assumption
      rw [upd_ne (Nat.ne_of_lt old')]
      exact (hf b hb).1
  done := by
    intro X hP hw hK hc i pins s σ H E I hf st hg
    subst hP hw hK
    obtain ⟨⟨old, he⟩, hit, n1, n2, n3⟩ := st
    obtain ⟨xs, hq, hx⟩ := hg
    obtain ⟨its, rv, isT, hz⟩ := I.tuple hq
    have DR := Draws.tuple (prog := X.prog) (w := X.w) (A := X.A.in1) (I.ok.hd hc) it a n2 its.toArray
    obtain ⟨f0, f1, f2, f3, f4, f5⟩ := hf it (by simp)
    have ei : i = its.toArray.size := by
      rw [List.size_toArray, ← rv.length]
      exact hx.symm
    refine wpAny_pyNext_enum_endD DR he (show _ from ei ▸ ⟨hit, isT⟩) fun h' eb => ⟨rfl, I.turned (t' := s.toks) (fun b o hb q => eb b o hb q) f0 f1 f3 f4 f5⟩
  self := fun A i s Q E st h => let ⟨⟨_, he⟩, _⟩ := st; wpAny_pyIter_enum he h
def iEnumT (K : PySem.W.Frag) (ta : TA) : TI := fun σ H R => ta σ H fun vs H1 => ∃ a xs, vs = [.ref a] ∧ SqT K H1 a xs ∧ R (Iet K a) H1
theorem pi_enumT {X : Cx} {e : Expr} {ta : TA} {p pos tpos : Pos} {elts : List Expr} {kk : Nat} (hg : Gl X "enumerate") (hm : X.mg "enumerate" = none) (ha : PA X [e] ta) (hs : starEach [e] X.env = [(false, eval e X.env)] := by rfl) :
    PI X (.Tuple elts kk tpos) (.Call (.Name "enumerate" p) [e] [] pos) (iEnumT X.K ta) := by
  refine ⟨fun pins s σ H R I h => ?_⟩
  refine Call_ (ld_blt I hg hm boot_enumerate (PyProof.Rows.callWith_type1 (thn (ha.run pos pins s σ H _ I h) fun us s1 y => ?_) hs rfl))
  obtain ⟨vs, H1, I1, r1, a, xs, rfl, hq, q⟩ := y
  cases r1 with
  | cons r rr =>
    cases rr
    cases r
    obtain ⟨its, rv, isT, hz⟩ := I1.tuple hq
    have lt : a < s1.heap.objs.size := by
      obtain ⟨o, ho, _⟩ := isT
      exact Heap.lt_size ho
    refine ShE.call_enumT isT fun h' he hit hsz hk => wpAny_pyIter_enum he ?_
    have I2 : Inv X pins σ H1 { s1 with heap := h' } := I1.kept (t' := s1.toks) hk
    refine ⟨s1.heap.objs.size + 1, [s1.heap.objs.size + 1, s1.heap.objs.size], _, _, H1, rfl, I2, turn_enumT a (s1.heap.objs.size + 1) s1.heap.objs.size,
      ⟨⟨.none, he⟩, hit, Nat.succ_ne_self _, Nat.ne_of_lt lt, Nat.ne_of_lt (Nat.lt_succ_of_lt lt)⟩, fun b hb => ?_, q⟩
    have le : s1.heap.objs.size ≤ b := by
      have two : b = s1.heap.objs.size + 1 ∨ b = s1.heap.objs.size := by simpa using hb
      rcases two with z | z
      · rw [z]
        exact Nat.le_succ _
      · rw [z]
        exact Nat.le_refl _
    exact I1.fpOk le (I1.hok.fresh le)
end Sho
set_option Elab.async false
set_option linter.all false
set_option maxRecDepth 100000
set_option maxHeartbeats 2000000
namespace Sh1
open PySem L2 Sho NdefX
abbrev nfInv (cc cda : Addr) : NF := ⟨"__init__", "InvalidStay.__init__", defArgs sInvInit, defBody sInvInit, defScope sInvInit, [("__class__", cc)], cda⟩
abbrev nfUnk (cc cda : Addr) : NF := ⟨"__init__", "UnknownGuest.__init__", defArgs sUnkInit, defBody sUnkInit, defScope sUnkInit, [("__class__", cc)], cda⟩
/-- an own error that stores one field -/
structure ErrC (P : Program) (K : PySem.W.Frag) (mg : Str → Option Value) (x fld : Str) (F : Addr → Addr → NF) (C : Addr) : Prop where
  txt : ∃ f cc cda, SupTxt P K mg (F cc cda) f cc C ∧ PySem.W.findIn K (.ref C) "__init__" = some (some (.ref f)) ∧ PySem.W.typeIn K (.ref f) = some (.type "function")
  cls : SupCls K C C
  xf : XfC K C
  no : PySem.W.findIn K (.ref C) fld = some none
  gm : mg x = some (.ref C)
  exm : PySem.W.exmOne K (.ref C) (.ref C) = some true
section
variable {X : Cx} {CX : CXT} {C : Addr} {k : Nat} {kws : List Keyword} {te : TA} {p pos : Pos}
theorem tells_len {v : V} (h : Tells v) : (∃ y : Str, v = .str y ∧ y.length ≤ 100000) ∨ ∃ i : Int, v = .int i ∧ i.natAbs.log2 < 1920 ∧ (Str.ofString (toString i)).length ≤ 100000 := by
  rcases h with ⟨y, rfl, hy⟩ | ⟨i, rfl, hi⟩
  · exact .inl ⟨y, rfl, hy⟩
  · exact .inr ⟨i, rfl, hi, Nat.le_trans (PyProof.Rows.int_text_len_1921 hi) (by decide)⟩
theorem small_cat {a b : Str} {n m : Nat} (ha : a.length ≤ n) (hb : b.length ≤ m) : (a ++ b).length ≤ n + m := by
  rw [PySem.Str.length_append]
  omega
theorem pmk_inv (EC : ErrC X.prog X.K X.mg "InvalidStay" "index" nfInv C) (hr : Room (k + 2) X.A) (hx : Passes CX X (fun _ _ _ => False)) (hg : Gl X "InvalidStay")
    (hkw : PK X kws te) (hall : (backToKw pos (keywordEach kws X.env)).all (·.1.isSome) = true) (hks : (backToKw pos (keywordEach kws X.env)).filterMap (·.1) = [("index" : Str)])
    (hpl : ((backTo pos (starEach [] X.env)).any (·.1) || (backToKw pos (keywordEach kws X.env)).any (·.1.isNone)) = false) : PMk X (.Call (.Name "InvalidStay" p) [] kws pos) (tMkW C "index" te) := by
  obtain ⟨f, cc, cda, T, iC, tI⟩ := EC.txt
  have S : NScope ["self", "index", "__class__"] ["self", "index"] ["__class__"] (defScope sInvInit) := nscope_by (by decide +kernel)
  refine pmk_kw (F := nfInv cc cda) (fld := "index") (k := k) T EC.cls EC.xf EC.no iC tI S hr hx hg EC.gm hkw hall hks hpl rfl (fun s doc pm an ct xa u => .of_eq rfl) (fun A outer s H E xa v hv => ?_) (fun L => rfl) (fun L => rfl) (fun L => rfl)
  refine ⟨_, pa_cons (pe_joined (.cons pe_str (.cons (pe_fmt (pv 1)) (.cons pe_str .nil)))) pa_nil, fun R hR => ?_⟩
  have e0 : (Str.empty ++ Str.ofString "stay ").length ≤ 10 := by decide +kernel
  have e2 : (Str.ofString " is not allowed").length ≤ 20 := by decide +kernel
  refine ⟨_, rfl, Nat.le_trans e0 (by decide), v, rfl, ?_⟩
  rcases tells_len hv with ⟨y, rfl, hy⟩ | ⟨i, rfl, hi, hl⟩
  · have l1 := small_cat e0 hy
    have l2 := small_cat l1 e2
    exact .inl ⟨y, rfl, Nat.le_trans hy (by decide), y, rfl, Nat.le_trans l1 (by decide), _, rfl, Nat.le_trans l2 (by decide), hR _⟩
  · have l1 := small_cat e0 hl
    have l2 := small_cat l1 e2
    exact .inr ⟨i, rfl, hi, _, rfl, Nat.le_trans l1 (by decide), _, rfl, Nat.le_trans l2 (by decide), hR _⟩
theorem pmk_unk (EC : ErrC X.prog X.K X.mg "UnknownGuest" "name" nfUnk C) (hr : Room (k + 2) X.A) (hx : Passes CX X (fun _ _ _ => False)) (hg : Gl X "UnknownGuest")
    (hkw : PK X kws te) (hall : (backToKw pos (keywordEach kws X.env)).all (·.1.isSome) = true) (hks : (backToKw pos (keywordEach kws X.env)).filterMap (·.1) = [("name" : Str)])
    (hpl : ((backTo pos (starEach [] X.env)).any (·.1) || (backToKw pos (keywordEach kws X.env)).any (·.1.isNone)) = false) : PMk X (.Call (.Name "UnknownGuest" p) [] kws pos) (tMkW C "name" te) := by
  obtain ⟨f, cc, cda, T, iC, tI⟩ := EC.txt
  have S : NScope ["self", "name", "__class__"] ["self", "name"] ["__class__"] (defScope sUnkInit) := nscope_by (by decide +kernel)
  refine pmk_kw (F := nfUnk cc cda) (fld := "name") (k := k) T EC.cls EC.xf EC.no iC tI S hr hx hg EC.gm hkw hall hks hpl rfl (fun s doc pm an ct xa u => .of_eq rfl) (fun A outer s H E xa v hv => ?_) (fun L => rfl) (fun L => rfl) (fun L => rfl)
  refine ⟨_, pa_cons (pe_joined (.cons pe_str (.cons (pe_fmt (pv 1)) .nil))) pa_nil, fun R hR => ?_⟩
  have e0 : (Str.empty ++ Str.ofString "there is no guest ").length ≤ 30 := by decide +kernel
  refine ⟨_, rfl, Nat.le_trans e0 (by decide), v, rfl, ?_⟩
  rcases tells_len hv with ⟨y, rfl, hy⟩ | ⟨i, rfl, hi, hl⟩
  · have l1 := small_cat e0 hy
    exact .inl ⟨y, rfl, Nat.le_trans hy (by decide), y, rfl, Nat.le_trans l1 (by decide), hR _⟩
  · have l1 := small_cat e0 hl
    exact .inr ⟨i, rfl, hi, _, rfl, Nat.le_trans l1 (by decide), hR _⟩
end
end Sh1
set_option Elab.async false
set_option linter.all false
set_option maxRecDepth 100000
set_option maxHeartbeats 2000000
namespace Sh1
open PySem L2 Sho NdefX
/-! ### stays as data -/
abbrev Stay := Str × Int × Int
def StayV (H : Hp) (v : V) (x : Stay) : Prop := ∃ t, v = .ref t ∧ H t = some (.tup [.str x.1, .int x.2.1, .int x.2.2])
abbrev StaysV (H : Hp) (vs : List V) (xs : List Stay) : Prop := PySem.Paired (StayV H) vs xs
theorem StayV.same {H H' : Hp} {v : V} {x : Stay} (s : Same H H') (h : StayV H v x) : StayV H' v x := by
  obtain ⟨t, e, ht⟩ := h
  exact ⟨t, e, s _ _ ht⟩
theorem StaysV.same {H H' : Hp} (s : Same H H') : ∀ {vs : List V} {xs : List Stay}, StaysV H vs xs → StaysV H' vs xs
  | _, _, .nil => .nil
  | _, _, .cons h r => .cons (h.same s) (StaysV.same s r)
theorem pair_len {α β : Type} {R : α → β → Prop} : ∀ {as : List α} {bs : List β}, PySem.Paired R as bs → as.length = bs.length
  | _, _, .nil => rfl
  | _, _, .cons _ r => congrArg Nat.succ (pair_len r)
theorem pair_get {α β : Type} {R : α → β → Prop} : ∀ {as : List α} {bs : List β} {i : Nat} {a : α}, PySem.Paired R as bs → as[i]? = some a → ∃ b, bs[i]? = some b ∧ R a b
  | _, _, i, a, .nil, h => by simp at h
  | _, _, 0, a, .cons h r, e => by
    simp at e
    subst e
    exact ⟨_, rfl, h⟩
  | _, _, i + 1, a, .cons h r, e => by
    simp at e
    obtain ⟨b, e2, r2⟩ := pair_get r e
    exact ⟨b, by simpa using e2, r2⟩
theorem log_small {i : Nat} (h : i ≤ sizeLine) : ((i : Int)).natAbs.log2 < 1920 := by
  rw [Int.natAbs_natCast]
  rw [sizeLine_eq] at h
  by_cases z : i = 0
  · rw [z]
    decide
  · refine (Nat.log2_lt z).mpr (Nat.lt_of_le_of_lt h ?_)
    exact Nat.lt_of_lt_of_le (show 16777216 < 2 ^ 25 by decide) (Nat.pow_le_pow_right (by decide) (by decide))
/-! ### tests whose answers are known -/
theorem ans_or {A B : TT} {σ : L2.St} {H : Hp} {Q : Bool → Hp → Prop} (a b : Bool) (hA : ∀ R : Bool → Hp → Prop, (∀ H', Same H H' → R a H') → A σ H R)
    (hB : ∀ H1, Same H H1 → a = false → ∀ R : Bool → Hp → Prop, (∀ H', Same H1 H' → R b H') → B σ H1 R) (hQ : ∀ H', Same H H' → Q (a || b) H') : tOr A B σ H Q := by
  refine hA _ fun H1 s1 => ?_
  cases a with
  | true =>
    refine iteT ?_
    have := hQ H1 s1
    rw [Bool.true_or] at this
    exact this
  | false =>
    refine iteF (hB H1 s1 rfl _ fun H2 s2 => ?_)
    have := hQ H2 (s1.trans s2)
    rw [Bool.false_or] at this
    exact this
/-! ### the first invalid stay -/
def badStay (i : Nat) (seen : List Str) (x : Stay) : Bool := decide ((i : Int) = 24) || (seen.any (fun y => y == x.1) || !okStay x.1 x.2.1 x.2.2)
def firstBadFrom : Nat → List Str → List Stay → Option Nat
  | _, _, [] => none
  | i, seen, x :: r => if badStay i seen x = true then some i else firstBadFrom (i + 1) (seen ++ [x.1]) r
def firstBad (xs : List Stay) : Option Nat := firstBadFrom 0 [] xs
theorem inV_strs (z : Str) (l : List Str) : inV (.str z) (l.map V.str) = l.any (fun y => y == z) := by
  unfold inV
  rw [List.any_map]
  rfl
theorem flat_strs (l : List Str) : (l.map V.str).all flatV = true := by
  rw [List.all_map]
  exact List.all_eq_true.mpr fun _ _ => rfl
section
variable {P : Program} {w : World} {K : PySem.W.Frag} {mg : Str → Option Value} {base : Heap}
/-- names of a reasonable length -/
def Short (xs : List Stay) : Prop := ∀ x ∈ xs, x.1.length ≤ 100000 ∧ x.1.cps.all (· < 0x110000) = true
def spCheck (CI : Addr) : Sp := fun vs H Q E => ∃ (a : Addr) (ws : List V) (xs : List Stay), vs = [.ref a, .int 24] ∧ H a = some (.tup ws) ∧ StaysV H ws xs ∧ Short xs ∧ xs.length ≤ sizeLine ∧
  (firstBad xs = none → ∀ H', Same H H' → Q .non H') ∧
  ∀ i, firstBad xs = some i → ∀ (H' : Hp) (d : Addr), Same H H' → H d = none → H' d = some (.xd [(("index" : Str), .int (i : Nat))]) → E (.ref CI) (some d) H'
theorem scCheck : FnScope ["stays", "most", "names", "index", "name", "come", "go"] ["stays", "most"] (defScope sCheck) := ⟨rfl, rfl, rfl, by decide +kernel, rfl, by decide +kernel, by decide +kernel⟩
theorem ok_check {f fS CI : Addr} {fd fdS : FuncData} (F : Fun K "_check_stays" "_check_stays" sCheck f fd) (B : Blt mg) (EC : ErrC P K mg "InvalidStay" "index" nfInv CI)
    (GS : FnOk P w K mg base CX0 3 fS fdS ["name", "come", "go"] spIsStay) (mS : mg "is_stay" = some (.ref fS)) (kS : PySem.W.keepIn K (.ref fS) = true) (bS : Binds K fdS ["name", "come", "go"] []) :
    FnOk P w K mg base (L2.CX P w) 4 f fd ["stays", "most"] (spCheck CI) := by
  refine F.okX scCheck (fun vs H Q E h => ?_) (fun cdv A outer s H vs Q E hr h => ?_)
  · obtain ⟨a, ws, xs, rfl, _⟩ := h
    rfl
  · obtain ⟨a, ws, xs, rfl, ha, hxs, hsh, hz, kOk, kBad⟩ := h
    have nd := scCheck.nd
    refine ⟨_, pss_cons (ps_set (i := 2) nd rfl (Or.inl rfl) (pe_lst pa_nil)) (pss_one (ps_for (passes_of rfl) rfl (pi_enumT (by rfl) B.enum (pa_cons (pv 0) pa_nil))
      (pg_tup rfl (pgs_cons (pg_name (i := 3) nd rfl (Or.inl rfl)) (pgs_cons (pg_tup rfl (pgs_cons (pg_name (i := 4) nd rfl (Or.inl rfl)) (pgs_cons (pg_name (i := 5) nd rfl (Or.inl rfl)) (pgs_cons (pg_name (i := 6) nd rfl (Or.inl rfl)) pgs_nil)))) pgs_nil)))
      (pss_cons (ps_if (PW.pt (pw_or (pt_cmpR op_eq (pv 3) (pv 1) (nomark _)) (pw_or (pt_cmpR op_in_seq (pv 4) (pv 2) rfl) (pw_or1 (pt_not (pt_val (pe_call GS hr rfl mS kS bS .nil pass0 (pa_cons (pv 4) (pa_cons (pv 5) (pa_cons (pv 6) pa_nil))))))))))
          (pss_one (ps_raise rfl (takes_of rfl rfl rfl rfl) (pmk_inv (k := 0) EC (hr.mono (by decide)) passL (by rfl) (pk_cons (pv 3) pk_nil) rfl rfl rfl))) pss_nil)
        (pss_one (ps_expr (pe_bm PySem.F.plainAttrs_list PySem.F.slot_list_append PySem.F.type_list_append mt_append (pv 2) (pa_cons (pv 4) pa_nil))))))), ?_⟩
    refine ⟨Nat.zero_le _, fun L hL => ?_⟩
    have s1 : Same H (upd H L (.lst [])) := fun b o e => by rw [upd_ne (ne_of_none e hL)]; exact e
    refine ⟨_, rfl, a, ws, rfl, SqT.of (s1 _ _ ha), for_it walk_enumT (fun i σ H2 => ∃ o3 o4 o5 o6, σ = [some (.ref a), some (.int 24), some (.ref L), o3, o4, o5, o6] ∧ Same H H2 ∧
      H2 L = some (.lst ((xs.take i).map fun x => .str x.1)) ∧ firstBadFrom i ((xs.take i).map fun x => x.1) (xs.drop i) = firstBad xs)
      ⟨none, none, none, none, rfl, s1, upd_same, rfl⟩ (fun i σ H2 _ ⟨_, _, _, _, _, s2, _⟩ => SqT.of (s2 _ _ ha)) ?_ ?_⟩
    · rintro i y σ H2 H3 hi ⟨o3, o4, o5, o6, rfl, s2, hL2, hb⟩ ⟨T, y1, y2, rfl, hT, rfl, e1, e2⟩
      cases e1
      obtain ⟨x, hx, t, rfl, ht⟩ := pair_get hxs e2
      have s3 : Same H2 (upd H2 T (.tup [.int (i : Nat), .ref t])) := fun b o e => by rw [upd_ne (ne_of_none e hT)]; exact e
      have hx1 : x.1.length ≤ 100000 := (hsh x (List.mem_of_getElem? hx)).1
      refine ⟨T, _, rfl, SqT.of upd_same, rfl, _, _, rfl, _, _, rfl, t, _, rfl, SqT.of (s3 _ _ (s2 _ _ ht)), rfl, _, _, rfl, _, _, rfl, _, _, rfl, rfl, rfl, ?_⟩
      have hL3 := s3 _ _ hL2
      refine ans_or (decide ((i : Int) = 24)) (((xs.take i).map fun x => x.1).any (fun y => y == x.1) || !okStay x.1 x.2.1 x.2.2) (fun R h => ⟨_, rfl, _, rfl, rfl, _, rfl, ?_⟩) (fun H4 s4 _ R h => ?_) fun H4 s4 => ?_
      · have e : decide (V.int (i : Int) = V.int 24) = decide ((i : Int) = 24) := by
          rw [dec_int]
          rfl
        rw [e]
        exact h _ (Same.refl _)
      · refine ans_or _ _ (fun R h => ⟨_, rfl, _, rfl, L, _, rfl, .inl (SqL.of (s4 _ _ hL3)), rfl, ?_, _, rfl, ?_⟩) (fun H5 s5 _ R h => ⟨_, rfl, _, rfl, _, rfl, x.1, x.2.1, x.2.2, rfl, Nat.le_trans hx1 (by decide), fun H6 s6 => ⟨_, rfl, h _ s6⟩⟩) h
        · have e : (xs.take i).map (fun x => V.str x.1) = ((xs.take i).map fun x => x.1).map V.str := by
            rw [List.map_map]
            rfl
          rw [e]
          exact flat_strs _
        · have e : (xs.take i).map (fun x => V.str x.1) = ((xs.take i).map fun x => x.1).map V.str := by
            rw [List.map_map]
            rfl
          rw [e, if_neg Bool.false_ne_true, inV_strs]
          exact h _ (Same.refl _)
      · have hdrop : xs.drop i = x :: xs.drop (i + 1) := by
          have lt := (List.getElem?_eq_some_iff.mp hx)
          obtain ⟨lt, e⟩ := lt
          rw [List.drop_eq_getElem_cons lt, e]
        rw [hdrop] at hb
        unfold firstBadFrom at hb
        have s24 : Same H H4 := (s2.trans s3).trans s4
        by_cases hbad : badStay i ((xs.take i).map fun x => x.1) x = true
        · rw [if_pos hbad] at hb
          have e : (decide ((i : Int) = 24) || (((xs.take i).map fun x => x.1).any (fun y => y == x.1) || !okStay x.1 x.2.1 x.2.2)) = true := hbad
          rw [e]
          refine iteT ⟨_, rfl, _, rfl, .inr ⟨_, rfl, ?_⟩, fun d hd => ?_⟩
          · have lt : i < xs.length := (List.getElem?_eq_some_iff.mp hx).1
            exact log_small (Nat.le_trans (Nat.le_of_lt lt) hz)
          · refine kBad i hb.symm _ d (fun b o z => ?_) (s24.free hd) upd_same
            rw [upd_ne (ne_of_none (s24 _ _ z) hd)]
            exact s24 _ _ z
        · rw [if_neg hbad] at hb
          have e : (decide ((i : Int) = 24) || (((xs.take i).map fun x => x.1).any (fun y => y == x.1) || !okStay x.1 x.2.1 x.2.2)) = false := Bool.eq_false_iff.mpr hbad
          rw [e]
          have hL4 := s4 _ _ hL3
          refine iteF ⟨_, rfl, .inl ⟨rfl, _, SqL.of hL4⟩, _, rfl, L, _, _, rfl, rfl, hL4, ?_, ?_⟩
          · rw [List.length_map, List.length_take]
            have : i < ws.length := hi
            have := pair_len hxs
            omega
          · have take1 : xs.take (i + 1) = xs.take i ++ [x] := by rw [List.take_add_one, hx]; rfl
            refine ⟨_, _, _, _, rfl, fun b o z => ?_, ?_, ?_⟩
            · rw [upd_ne (ne_of_none z hL)]
              exact s24 _ _ z
            · rw [upd_same, take1, List.map_append]
              rfl
            · rw [take1, List.map_append]
              exact hb
    · rintro σ H2 ⟨o3, o4, o5, o6, rfl, s2, hL2, hb⟩
      refine kOk ?_ _ s2
      rw [← hb, pair_len hxs, List.drop_length]
      rfl
end
end Sh1
set_option Elab.async false
set_option linter.all false
set_option maxRecDepth 100000
set_option maxHeartbeats 2000000
namespace Sh1
open PySem L2 Sho NdefX
/-- a Party of the stays xs stands at p -/
def PartyAt (C : Addr) (H : Hp) (p : Addr) (xs : List Stay) : Prop := ∃ dx a ws, H p = some (.ins C dx [(("_stays" : Str), .ref a)]) ∧ H a = some (.tup ws) ∧ StaysV H ws xs
theorem PartyAt.same {C : Addr} {H H' : Hp} {p : Addr} {xs : List Stay} (s : Same H H') (h : PartyAt C H p xs) : PartyAt C H' p xs := by
  obtain ⟨dx, a, ws, h1, h2, h3⟩ := h
  exact ⟨dx, a, ws, s _ _ h1, s _ _ h2, h3.same s⟩
theorem lk_stays (a : V) : List.lookup ("_stays" : Str) [(("_stays" : Str), a)] = some a := by simp [List.lookup]
theorem no_max (a : V) : List.lookup ("MAX_GUESTS" : Str) [(("_stays" : Str), a)] = none := by
  have e : (("MAX_GUESTS" : Str) == ("_stays" : Str)) = false := by decide +kernel
  simp [List.lookup, e]
/-- what the written part says of the class -/
structure PartyC (K : PySem.W.Frag) (mg : Str → Option Value) (C : Addr) : Prop where
  gm : mg "Party" = some (.ref C)
  cl : Cls K C
  nS : NoAttr K C "_stays"
  max : ∃ t, Con K C "MAX_GUESTS" (.int 24) (.int 24 t)
  ca : PySem.W.findIn K (.ref C) "__class__" = some (some (.builtin "object.__class__"))
  cn : PySem.W.specialIn K (.builtin "object.__class__") "__get__" = some (some (.builtin "getset_descriptor.__get__"))
  ct : PySem.W.takesIn K (.builtin "object.__class__") = some true
  mo : PySem.W.mroIn K C (.type "object") = some true
  kS : PySem.W.kitOne K (.ref C) (.ref C) = some true
  kT : PySem.W.kitOne K (.type "tuple") (.ref C) = some false
  sT : PySem.W.subIn K (.type "tuple") (.ref C) = some false
section
variable {P : Program} {w : World} {K : PySem.W.Frag} {mg : Str → Option Value} {base : Heap}
/-! ### Party.__init__ -/
def spPInit (C CI : Addr) : Sp := fun vs H Q E => ∃ (x dx a : Addr) (ws : List V) (xs : List Stay), vs = [.ref x, .ref a] ∧ H x = some (.ins C dx []) ∧ H a = some (.tup ws) ∧ StaysV H ws xs ∧ Short xs ∧ xs.length ≤ sizeLine ∧
  (firstBad xs = none → ∀ H', H' x = some (.ins C dx [(("_stays" : Str), .ref a)]) → (∀ b o, H b = some o → b ≠ x → H' b = some o) → Q .non H') ∧
  ∀ i, firstBad xs = some i → ∀ (H' : Hp) (d : Addr), Same H H' → H d = none → H' d = some (.xd [(("index" : Str), .int (i : Nat))]) → E (.ref CI) (some d) H'
theorem scPInit : FnScope ["self", "stays"] ["self", "stays"] (defScope sPInit) := ⟨rfl, rfl, rfl, by decide +kernel, rfl, by decide +kernel, by decide +kernel⟩
/-- a def of the class with a star parameter -/
structure FunS (K : PySem.W.Frag) (x qual : Str) (st : Stmt) (f : Addr) : Prop where
  ex : ∃ (oc : Value) (od : Option Addr) (doc pm : Value) (an : Option Addr) (cdv ct : Value) (osl : Array (Option Value)),
    K.lookup f = some ⟨oc, od, .func (PySem.W.fnOf x qual (defArgs st) (defBody st) (defScope st) .none .none doc pm an cdv ct), osl⟩ ∧ PySem.W.codeIn K cdv qual = true
theorem ok_pinit {f C CI fC : Addr} {fdC : FuncData} (F : FunS K "__init__" "Party.__init__" sPInit f) (PC : PartyC K mg C)
    (GC : FnOk P w K mg base (L2.CX P w) 4 fC fdC ["stays", "most"] (spCheck CI)) (mC : mg "_check_stays" = some (.ref fC)) (kC : PySem.W.keepIn K (.ref fC) = true) (bC : Binds K fdC ["stays", "most"] []) :
    FnR P w K mg base (L2.CX P w) 5 f (fun vs H Q E => ∃ ws rest, vs = ws ++ rest ∧ ws.length = (["self"] : List Str).length ∧ rest.length ≤ sizeLine ∧ ∀ p, H p = none → spPInit C CI (ws ++ [V.ref p]) (upd H p (.tup rest)) Q E) := by
  obtain ⟨oc, od, doc, pm, an, cdv, ct, osl, lk, hcd⟩ := F.ex
  refine StX.fn_star (ps := ["self"]) (pv := "stays") lk hcd scPInit StX.cxUp (StX.bind_star1 (B := fun us => bindArgs (PySem.W.fnOf "__init__" "Party.__init__" (defArgs sPInit) (defBody sPInit) (defScope sPInit) .none .none doc pm an cdv ct) ⟨us, []⟩) (p1 := "self") (pv := "stays") (fun a => rfl) fun a r rs => rfl) fun A outer s H vs Q E hr h => ?_
  obtain ⟨x, dx, a, ws, xs, rfl, hx, ha, hxs, hsh, hz, kOk, kBad⟩ := h
  obtain ⟨t24, c24⟩ := PC.max
  refine ⟨_, pss_cons (ps_expr (pe_call GC hr rfl mC kC bC .nil (passes_call (takes_of rfl rfl rfl rfl) fun _ _ _ _ z => z) (pa_cons (pv 1) (pa_cons (pe_con (pv 0) rfl) pa_nil)))) (pss_one (ps_fld (pv 0) (pv 1) rfl)), ?_⟩
  refine ⟨_, rfl, _, rfl, x, C, dx, [], .int 24, _, rfl, hx, PC.cl, c24, rfl, a, ws, xs, rfl, ha, hxs, hsh, hz, fun ok H' s' => ?_, kBad⟩
  refine ⟨_, rfl, _, rfl, x, C, dx, [], rfl, s' _ _ hx, PC.cl, PC.nS, by decide, ?_⟩
  exact kOk ok _ upd_same fun b o e hb => by rw [upd_ne hb]; exact s' _ _ e
abbrev spPNew (C CI : Addr) : Sp := fun vs H Q E => ∃ ws rest, vs = ws ++ rest ∧ ws.length = (["self"] : List Str).length ∧ rest.length ≤ sizeLine ∧ ∀ p, H p = none → spPInit C CI (ws ++ [V.ref p]) (upd H p (.tup rest)) Q E
/-- a new Party of these stays, or the error of the first invalid one -/
theorem party_new {C CI : Addr} {H : Hp} {Q : VK} {E : XK} {ys : List V} {xs : List Stay} (hxs : StaysV H ys xs) (hsh : Short xs) (hz : ys.length ≤ sizeLine)
    (ok : firstBad xs = none → ∀ (p : Addr) (H' : Hp), Same H H' → H p = none → PartyAt C H' p xs → Q (.ref p) H')
    (bad : ∀ i, firstBad xs = some i → ∀ (H' : Hp) (d : Addr), Same H H' → H d = none → H' d = some (.xd [(("index" : Str), .int (i : Nat))]) → E (.ref CI) (some d) H') :
    ∀ x dx, H x = none → H dx = none → dx ≠ x → spPNew C CI (V.ref x :: ys) (upd (upd H dx (.own x)) x (.ins C dx [])) (fun v H2 => v = .non ∧ Q (.ref x) H2) E := by
  intro x dx hx hdx ne
  refine ⟨[.ref x], ys, rfl, rfl, hz, fun p hp => ?_⟩
  have px : p ≠ x := fun z => by
    rw [z, upd_same] at hp
    cases hp
  have hp0 : H p = none := by
    rw [upd_ne px] at hp
    by_cases pd : p = dx
    · rw [pd]
      exact hdx
    · rw [upd_ne pd] at hp
      exact hp
  have pd : p ≠ dx := fun z => by
    rw [upd_ne px, z, upd_same] at hp
    cases hp
  have same : Same H (upd (upd (upd H dx (.own x)) x (.ins C dx [])) p (.tup ys)) := fun b o e => by
    rw [upd_ne (ne_of_none e hp0), upd_ne (ne_of_none e hx), upd_ne (ne_of_none e hdx)]
    exact e
  refine ⟨x, dx, p, ys, xs, rfl, by rw [upd_ne (Ne.symm px), upd_same], upd_same, hxs.same same, hsh, by rw [← pair_len hxs]; exact hz, fun h0 H' h1 h2 => ⟨rfl, ?_⟩, fun i hi H' d s' hd e => ?_⟩
  · have s2 : Same H H' := fun b o e => h2 b o (same b o e) (ne_of_none e hx)
    exact ok h0 x H' s2 hx ⟨dx, p, ys, h1, h2 _ _ upd_same px, hxs.same s2⟩
  · exact bad i hi H' d (same.trans s') (same.free hd) e
/-! ### the properties -/
theorem scPStays : FnScope ["self"] ["self"] (defScope sPStays) := ⟨rfl, rfl, rfl, by decide +kernel, rfl, by decide +kernel, by decide +kernel⟩
theorem ok_pstays {f C : Addr} {fd : FuncData} (F : Fun K "stays" "Party.stays" sPStays f fd) (PC : PartyC K mg C) : FnOk P w K mg base CX0 1 f fd ["self"] (getSp C "_stays") := by
  refine F.ok scPStays (fun vs H Q E h => ?_) (fun cdv A outer s H vs Q E hr h => ?_)
  · obtain ⟨a, dx, fs, v, rfl, _⟩ := h
    rfl
  · obtain ⟨a, dx, fs, v, rfl, h1, h2, k⟩ := h
    refine ⟨_, pss_one (ps_ret (pe_fld (pv 0) rfl)), _, rfl, a, C, dx, fs, v, rfl, h1, PC.cl, PC.nS, h2, k⟩
def spPNames (C : Addr) : Sp := fun vs H Q _ => ∃ (p : Addr) (xs : List Stay), vs = [.ref p] ∧ PartyAt C H p xs ∧ xs.length ≤ sizeLine ∧ ∀ H' t, Same H H' → H t = none → H' t = some (.tup (xs.map fun x => .str x.1)) → Q (.ref t) H'
theorem scPNames : FnScope ["self", "name", "come", "go"] ["self"] (defScope sPNames) := ⟨rfl, rfl, rfl, by decide +kernel, rfl, by decide +kernel, by decide +kernel⟩
theorem ok_pnames {f C : Addr} {fd : FuncData} (F : Fun K "names" "Party.names" sPNames f fd) (B : Blt mg) (PC : PartyC K mg C) : FnOk P w K mg base CX0 1 f fd ["self"] (spPNames C) := by
  refine F.ok scPNames (fun vs H Q E h => ?_) (fun cdv A outer s H vs Q E hr h => ?_)
  · obtain ⟨p, xs, rfl, _⟩ := h
    rfl
  · obtain ⟨p, xs, rfl, ⟨dx, a, ws, h1, h2, h3⟩, hz, k⟩ := h
    have nd := scPNames.nd
    refine ⟨_, pss_one (ps_ret (pe_callTy call_tuple_of (by rfl) B.tuple (by decide +kernel) (pa_cons (pe_lc (own := [("name", 1), ("come", 2), ("go", 3)]) (g := gTup K 3 (gCons (gName 1) (gCons (gName 2) (gCons (gName 3) gNil)))) (tt := tYes) rfl nd
      (pi_tup (pe_fld (pv 0) rfl)) (blkOk_by (own := [("name", 1), ("come", 2), ("go", 3)]) (N := ["self", "name", "come", "go"]) (sc := defScope sPNames) (by decide +kernel))
      (fun _ _ _ _ _ => pg_tup rfl (pgs_cons (pg_name (i := 1) nd rfl (Or.inl rfl)) (pgs_cons (pg_name (i := 2) nd rfl (Or.inl rfl)) (pgs_cons (pg_name (i := 3) nd rfl (Or.inl rfl)) pgs_nil))))
      (fun _ _ _ _ _ => pts_nil) (fun _ _ _ _ _ => pv 1)) pa_nil))), ?_⟩
    refine ⟨_, rfl, p, C, dx, _, .ref a, rfl, h1, PC.cl, PC.nS, lk_stays _, a, rfl, ⟨_, SqT.of h2⟩, fun D hD => ?_⟩
    refine lc_map walk_tup (fun i => (xs[i]?).map fun x => .str x.1) hD (by rw [pair_len h3]; exact hz) (fun H1 s1 => SqT.of (s1 _ _ h2)) (fun i x H1 H' hi s1 y R k1 => ?_) (fun i hi => ⟨_, by rw [List.getElem?_eq_getElem (by rw [← pair_len h3]; exact hi)]; rfl⟩) fun H1 s1 e1 => ?_
    · obtain ⟨rfl, e2⟩ := y
      obtain ⟨z, hz2, t, rfl, ht⟩ := pair_get h3 e2
      refine ⟨t, _, rfl, SqT.of (s1 _ _ ht), rfl, _, _, rfl, _, _, rfl, _, _, rfl, rfl, rfl, _, rfl, ?_⟩
      exact k1 _ _ (Same.refl _) (by rw [hz2]; rfl)
    · rw [pair_len h3, gather_map xs fun x => V.str x.1] at e1
      refine ⟨D, _, rfl, .inl ⟨SqL.of e1, fun l hl => ?_⟩⟩
      refine k _ l (fun b o e => ?_) (s1.free hl) upd_same
      rw [upd_ne (ne_of_none (s1 _ _ e) hl)]
      exact s1 _ _ e
end
end Sh1
set_option Elab.async false
set_option linter.all false
set_option maxRecDepth 100000
set_option maxHeartbeats 2000000
namespace Sh1
open PySem L2 Sho NdefX He Shh
/-! Facts of the head about Party, InvalidStay, UnknownGuest. -/
section
variable {K : Shh.Fr} {h : Heap} {mg : Str → Option Value}
def cvalB (K : Shh.Fr) (C : Addr) (f : Str) (i : Int) : Bool := match PySem.W.findCls K (.ref C) (.type "type") f with
  | some (.val (.int j _)) => decide (j = i)
  | _ => false
theorem cvalB_ok {C : Addr} {f : Str} {i : Int} (c : cvalB K C f i = true) : ∃ u, ClX.CVal K C (.type "type") f (.int i) u := by
  unfold cvalB at c
  split at c
  · rename_i j t e
    rw [of_decide_eq_true c] at e
    exact ⟨_, e, ⟨_, rfl⟩⟩
  · cases c
def partyB (K : Shh.Fr) (C : Addr) : Bool := PySem.W.plainGet K C Str.empty && (PySem.W.hasDictIn K C && (PySem.W.plainOver K C && (eqO (PySem.W.findIn K (.ref C) "__setattr__") (some (some (.builtin "object.__setattr__"))) &&
  (eqO (PySem.W.findIn K (.ref C) "_stays") (some none) && (conB K "Party" "MAX_GUESTS" (.int 24) && (eqO (PySem.W.findIn K (.ref C) "__class__") (some (some (.builtin "object.__class__"))) &&
  (eqO (PySem.W.specialIn K (.builtin "object.__class__") "__get__") (some (some (.builtin "getset_descriptor.__get__"))) && (decide (PySem.W.takesIn K (.builtin "object.__class__") = some true) && (decide (PySem.W.mroIn K C (.type "object") = some true) &&
  (decide (PySem.W.kitOne K (.ref C) (.ref C) = some true) && (decide (PySem.W.kitOne K (.type "tuple") (.ref C) = some false) && (decide (PySem.W.subIn K (.type "tuple") (.ref C) = some false) && (PySem.W.selfFirst K C && (PySem.W.makesIn K C && (PySem.W.keepIn K (.ref C) &&
  (PySem.W.readsIn K C (.type "type") && (eqO (PySem.W.specialIn K (.ref C) "__getattribute__") (some (some (.builtin "type.__getattribute__"))) && cvalB K C "MAX_GUESTS" 24)))))))))))))))))
structure PartyF (K : Shh.Fr) (mg : Str → Option Value) (C : Addr) : Prop where
  pc : PartyC K mg C
  self : PySem.W.selfFirst K C = true
  makes : PySem.W.makesIn K C = true
  kp : PySem.W.keepIn K (.ref C) = true
  rd : ClX.CRead K C (.type "type")
  mx : ∃ u, ClX.CVal K C (.type "type") "MAX_GUESTS" (.int 24) u
theorem partyB_ok (gm : mg "Party" = some (.ref (ga K "Party"))) (c : partyB K (ga K "Party") = true) : PartyF K mg (ga K "Party") := by
  obtain ⟨c1, c⟩ := ba c
  obtain ⟨c2, c⟩ := ba c
  obtain ⟨c3, c⟩ := ba c
  obtain ⟨c4, c⟩ := ba c
  obtain ⟨c5, c⟩ := ba c
  obtain ⟨c6, c⟩ := ba c
  obtain ⟨c7, c⟩ := ba c
  obtain ⟨c8, c⟩ := ba c
  obtain ⟨c9, c⟩ := ba c
  obtain ⟨c10, c⟩ := ba c
  obtain ⟨c11, c⟩ := ba c
  obtain ⟨c12, c⟩ := ba c
  obtain ⟨c13, c⟩ := ba c
  obtain ⟨c14, c⟩ := ba c
  obtain ⟨c15, c⟩ := ba c
  obtain ⟨c16, c⟩ := ba c
  obtain ⟨c17, c⟩ := ba c
  obtain ⟨c18, c19⟩ := ba c
  have mx : ∃ t, Con K (ga K "Party") "MAX_GUESTS" (.int 24) (.int 24 t) := by
    obtain ⟨u, q⟩ := conB_ok c6 (by decide)
    obtain ⟨t, e⟩ : ∃ t, u = .int 24 t := by
      have r := q.rel
      cases u with
      | int j t =>
        obtain ⟨t', e⟩ := (show ∃ t', Value.int j t = .int 24 t' from r)
        exact ⟨t', e⟩
      | _ =>
        obtain ⟨t', e⟩ := r
        cases e
    rw [e] at q
    exact ⟨t, q⟩
  exact ⟨⟨gm, ⟨c1, c2, c3, eqO_ok c4⟩, eqO_ok c5, mx, eqO_ok c7, eqO_ok c8, of_decide_eq_true c9, of_decide_eq_true c10, of_decide_eq_true c11, of_decide_eq_true c12, of_decide_eq_true c13⟩, c14, c15, c16, ⟨c17, eqO_ok c18⟩, cvalB_ok c19⟩
/-! ### InvalidStay, UnknownGuest -/
abbrev aInv (K : Shh.Fr) : Addr := ga K "InvalidStay"
abbrev aUnk (K : Shh.Fr) : Addr := ga K "UnknownGuest"
abbrev dnErr (x : Str) (qual : Str) (st : Stmt) : Dn := ⟨fun K => eInit K x, "__init__", qual, st, fun K => [(("__class__" : Str), cellA K (eInit K x))]⟩
theorem errC_inv {P : Program} (E : ErrF "/claim/cut.py" K "InvalidStay" "index") (D : FunF K "__init__" "InvalidStay.__init__" sInvInit [(("__class__" : Str), cellA K (eInit K "InvalidStay"))] (eInit K "InvalidStay")) (hf : P.main.file = "/claim/cut.py") (sup : mg "super" = none)
    (h2 : (P.main.scope.names.lookup ("super" : Str)).isSome = false) (gm : mg "InvalidStay" = some (.ref (aInv K))) : ErrC P K mg "InvalidStay" "index" nfInv (aInv K) :=
  ⟨⟨_, _, _, err_txt E D hf sup ⟨_, rfl, rfl⟩ h2 (by decide +kernel) (by decide +kernel) (by decide +kernel), E.ini, E.ity⟩, E.sup, E.xf, E.no, gm, E.exm⟩
theorem errC_unk {P : Program} (E : ErrF "/claim/cut.py" K "UnknownGuest" "name") (D : FunF K "__init__" "UnknownGuest.__init__" sUnkInit [(("__class__" : Str), cellA K (eInit K "UnknownGuest"))] (eInit K "UnknownGuest")) (hf : P.main.file = "/claim/cut.py") (sup : mg "super" = none)
    (h2 : (P.main.scope.names.lookup ("super" : Str)).isSome = false) (gm : mg "UnknownGuest" = some (.ref (aUnk K))) : ErrC P K mg "UnknownGuest" "name" nfUnk (aUnk K) :=
  ⟨⟨_, _, _, err_txt E D hf sup ⟨_, rfl, rfl⟩ h2 (by decide +kernel) (by decide +kernel) (by decide +kernel), E.ini, E.ity⟩, E.sup, E.xf, E.no, gm, E.exm⟩
end
end Sh1
set_option Elab.async false
set_option linter.all false
set_option maxRecDepth 100000
set_option maxHeartbeats 2000000
/-! bool(x), len(x), x[i], x == y of own instances by promises. -/
namespace ShB
open PySem
theorem meets_bool {prog : Program} {w : World} (v : Value) :
    MeetsIn prog w (Builtin.«bool.__new__» ⟨[.type "bool", v], []⟩) (fun A R s => wpAny (model prog w) A.in1 (truthy v) (fun b s' => R (.ok (.ret (.bool b))) s') (fun e s' => R (.error e) s') s) := by
  intro A R s h
  obtain ⟨hp, g, d, tk, os⟩ := s
  have f1 := F.conv_sub_bool
  unfold Builtin.«bool.__new__»
  repeat (any_goals (first | assumption | (with_reducible refine wpAny_mono h (fun b s' z => ?_) fun _ _ z => z) | wp_step))
  all_goals first | exact ⟨_, rfl, z⟩ | exact z | skip
theorem call_boolT {prog : Program} {w : World} {A : Around} {E : Value → Shared → Prop} {s : Shared} {v : Value} {Q : Value → Shared → Prop}
    (h : wpAny (model prog w) A.in1.in1 (truthy v) (fun b s' => Q (.bool b) s') E s) : wpAny (model prog w) A (call (.type "bool") [v]) Q E s :=
  callType_newIn F.called_bool F.newNe_bool (F.typeCall_bool_1 v) (F.newCall_bool_1 v) (fun obj => F.args_object_init_2 obj v) F.entry_bool_new (meets_bool v)
    (wpAny_mono h (fun b s' z => ⟨by rfl, z⟩) fun _ _ z => z)
end ShB

namespace Sho
open PySem PySem.Spec PyProof.Rows L2 StX
section
variable {X : Cx} {CX : CXT} {k : Nat} {f C : Addr} {sp : Sp} {E : XK}
/-- a promise, run around A (which bears the frames of X) -/
theorem run_at {A : Around} {pins : List (Addr × Obj)} {σ : L2.St} {H : Hp} {s : Shared} {Q : VK} {us : List Value} {vs : List V} (F : FnR X.prog X.w X.K X.mg X.base CX k f sp) (hr : Room k A) (e0 : Env0 X.prog X.w X.K X.mg X.base A X.stack s H) (hx : Passes CX X E)
    (I : Inv X pins σ H s) (r : Vals vs us) (h : sp vs H Q E) : wpAny (model X.prog X.w) A (call (.ref f) us) (EP X pins σ Q) X.xe s := by
  refine wpAny_call (codeAny_mono (F A X.stack s H us vs Q E hr e0 r h) fun r s' hq => ?_)
  cases r with
  | error e => exact hx pins σ H s e s' I hq
  | ok fl =>
    cases fl with
    | ret u => exact I.after hq
    | next => exact hq.elim
    | brk => exact hq.elim
    | cont => exact hq.elim
theorem inst_of {pins : List (Addr × Obj)} {σ : L2.St} {H : Hp} {s : Shared} {a : Addr} (I : Inv X pins σ H s) (h : InsAt H a C) : ∃ ox od, PySem.W.InstAt s.heap a ox C od := by
  obtain ⟨dx, fs, h⟩ := h
  obtain ⟨mA, J, _⟩ := ins_get I.hok h
  obtain ⟨od, J, _⟩ := J.look
  exact ⟨_, _, J⟩
/-- len(a), a's own __len__ -/
def rLenO (C : Addr) (sp : Sp) (E : XK) : List V → Hp → VK → Prop := fun xs H Q => ∃ a, xs = [.ref a] ∧ InsAt H a C ∧ sp [.ref a] H (fun r H' => ∃ n : Int, r = .int n ∧ 0 ≤ n ∧ n < 2 ^ 63 ∧ Q (.int n) H') E
theorem call_lenO (F : FnR X.prog X.w X.K X.mg X.base CX k f sp) (hr : Room (k + 1) X.A) (hx : Passes CX X E) (hs : PySem.W.findIn X.K (.ref C) "__len__" = some (some (.ref f))) (hf : PySem.W.isFn X.K (.ref f) = true) :
    CallR X (.builtin "len") (rLenO C sp E) := by
  rintro pins s σ H xs us Q I r ⟨a, rfl, ha, h⟩
  obtain rfl := Vals.ref1 r
  obtain ⟨ox, od, J⟩ := inst_of I ha
  obtain ⟨m, hF⟩ := I.fr
  refine PySem.W.len_K hF I.ok.mod.kin J hs hf (thn (run_at (vs := [.ref a]) F hr.in1 I.env0.in1 hx I (.cons rfl .nil) h) fun u s' q => ?_)
  obtain ⟨v, H', I', rv, n, rfl, n0, n1, q⟩ := q
  obtain ⟨t, rfl⟩ := rv
  exact ⟨⟨n0, n1⟩, .int n, H', I'.tok _, ⟨_, rfl⟩, q⟩
/-- bool(a), a's own __bool__ -/
def rBoolO (C : Addr) (sp : Sp) (E : XK) : List V → Hp → VK → Prop := fun xs H Q => ∃ a, xs = [.ref a] ∧ InsAt H a C ∧ sp [.ref a] H (fun r H' => ∃ b : Bool, r = .bl b ∧ Q (.bl b) H') E
theorem call_boolO (F : FnR X.prog X.w X.K X.mg X.base CX k f sp) (hr : Room (k + 2) X.A) (hx : Passes CX X E) (hs : PySem.W.findIn X.K (.ref C) "__bool__" = some (some (.ref f))) (hf : PySem.W.isFn X.K (.ref f) = true) :
    CallR X (.type "bool") (rBoolO C sp E) := by
  rintro pins s σ H xs us Q I r ⟨a, rfl, ha, h⟩
  obtain rfl := Vals.ref1 r
  obtain ⟨ox, od, J⟩ := inst_of I ha
  obtain ⟨m, hF⟩ := I.fr
  refine ShB.call_boolT (PySem.W.truthy_K hF I.ok.mod.kin J hs hf (thn (run_at (vs := [.ref a]) F hr.in1.in1 I.env0.in1.in1 hx I (.cons rfl .nil) h) fun u s' q => ?_))
  obtain ⟨v, H', I', rv, b, rfl, q⟩ := q
  cases rv
  exact ⟨.bl b, H', I', rfl, q⟩
/-- bool(a tuple) -/
theorem call_boolTup : CallR X (.type "bool") (fun xs H Q => ∃ (a : Addr) (zs : List V), xs = [.ref a] ∧ SqT X.K H a zs ∧ Q (.bl (!zs.isEmpty)) H) := by
  rintro pins s σ H xs us Q I r ⟨a, zs, rfl, hq, q⟩
  obtain rfl := Vals.ref1 r
  obtain ⟨its, rv, pl, hz⟩ := I.tuple hq
  have hl := line63
  have hlen := rv.length
  refine ShB.call_boolT (truthy_tuple pl (by simp only [List.size_toArray]; omega) ?_)
  exact ⟨.bl (!zs.isEmpty), H, I.tok _, by rw [isEmpty_of rv]; rfl, q⟩
/-- a[i], a's own __getitem__ -/
theorem pe_ixO {ea eb : Expr} {ta tb : TE} {pos : Pos} (F : FnR X.prog X.w X.K X.mg X.base CX k f sp) (hr : Room (k + 1) X.A) (hx : Passes CX X E) (hs : PySem.W.findIn X.K (.ref C) "__getitem__" = some (some (.ref f))) (hfn : PySem.W.fnIn X.K f = true) (hf : PySem.W.isFn X.K (.ref f) = true)
    (ha : PE X ea ta) (hb : PE X eb tb) (hsl : ∀ (a : Addr) (u : Value), subscripted eb true (.ref a) u = runValue (.builtin "lifetime.subscript" ⟨[.ref a, u], []⟩)) : PE X (.Subscript ea eb pos) (tOp (rOwnIx C sp E) ta tb) := by
  refine ⟨fun pins s σ H Q I h => ?_⟩
  refine Subscript_ (binT ha hb I h fun v u s2 x y H2 I2 rx ry q => ?_)
  obtain ⟨a, rfl, hi, h2⟩ := q
  cases rx
  obtain ⟨ox, od, J⟩ := inst_of I2 hi
  obtain ⟨m, hF⟩ := I2.fr
  exact PySem.W.sub_K hF I2.ok.mod.kin J hs hfn hf (run_at (vs := [.ref a, y]) F hr.in1 I2.env0.in1 hx I2 (.cons rfl (.cons ry .nil)) h2) (hsl a u)
/-- a == y, a's own __eq__; y of the own class, or of a built-in type -/
def TyEq (K : PySem.W.Frag) (H : Hp) (C : Addr) (y : V) : Prop := (∃ b, y = .ref b ∧ InsAt H b C) ∨ ∃ (b : Addr) (zs : List V), y = .ref b ∧ SqT K H b zs ∧ PySem.W.subIn K (.type "tuple") (.ref C) = some false
def rOwnEq (K : PySem.W.Frag) (C : Addr) (sp : Sp) (E : XK) : R2 := fun x y H Q => ∃ a, x = .ref a ∧ InsAt H a C ∧ TyEq K H C y ∧ sp [.ref a, y] H (fun r H' => ∃ b : Bool, r = .bl b ∧ Q (.bl b) H') E
theorem op_ownEq (F : FnR X.prog X.w X.K X.mg X.base CX k f sp) (hr : Room k X.A) (hx : Passes CX X E) (hs : PySem.W.findIn X.K (.ref C) "__eq__" = some (some (.ref f))) (hf : PySem.W.isFn X.K (.ref f) = true) :
    OpR X (compareOp .Eq) (rOwnEq X.K C sp E) := by
  rintro pins s σ H x y u v Q I rx ry ⟨a, rfl, ha, ht, h⟩
  cases rx
  obtain ⟨ox, od, J⟩ := inst_of I ha
  obtain ⟨m, hF⟩ := I.fr
  show wpAny (model X.prog X.w) X.A (richCompare .Eq (.ref a) v) (EP X pins σ Q) X.xe s
  have fin : ∀ (u : Value) (s' : Shared), EP X pins σ (fun r H' => ∃ b : Bool, r = .bl b ∧ Q (.bl b) H') u s' → PySem.W.CmpBack (EP X pins σ Q) u s' := fun u s' q => by
    obtain ⟨w2, H', I', rv, b, rfl, q⟩ := q
    cases rv
    exact ⟨.bl b, H', I', rfl, q⟩
  have run := run_at (vs := [.ref a, y]) F hr I.env0 hx I (.cons rfl (.cons ry .nil)) h
  rcases ht with ⟨b, rfl, hb⟩ | ⟨b, zs, rfl, hq, hsub⟩
  · cases ry
    obtain ⟨oy, od', J'⟩ := inst_of I hb
    exact PySem.W.cmp_K (op := .Eq) (tb := .ref C) hr.units0 hF I.ok.mod.kin J J'.type (by simp [PySem.W.notFirst]) hs hf (thn run fin)
  · cases ry
    obtain ⟨its, rv, ⟨o, ho, hc, _⟩, hz⟩ := I.tuple hq
    refine PySem.W.cmp_K (op := .Eq) (tb := .type "tuple") hr.units0 hF I.ok.mod.kin J (fun A Q E s k q => wpAny_typeOf_ref (k _ _ ho) (by rw [hc]; exact q)) ?_ hs hf (thn run fin)
    unfold PySem.W.notFirst
    rw [hsub]
    simp
end
end Sho
set_option Elab.async false
set_option linter.all false
set_option maxRecDepth 100000
set_option maxHeartbeats 2000000
namespace Sh1
open PySem L2 Sho NdefX
section
variable {P : Program} {w : World} {K : PySem.W.Frag} {mg : Str → Option Value} {base : Heap}
theorem no_meth (a : V) {m : Str} (h : (m == ("_stays" : Str)) = false) : List.lookup m [(("_stays" : Str), a)] = none := by simp [List.lookup, h]
/-! ### _stay_of -/
def guest (xs : List Stay) (z : Str) : Option Stay := xs.find? fun x => x.1 == z
def spStayOf (C CU : Addr) : Sp := fun vs H Q E => ∃ (p : Addr) (z : Str) (xs : List Stay), vs = [.ref p, .str z] ∧ PartyAt C H p xs ∧ z.length ≤ 100000 ∧
  (∀ x t, guest xs z = some x → H t = some (.tup [.str x.1, .int x.2.1, .int x.2.2]) → Q (.ref t) H) ∧
  (guest xs z = none → ∀ (H' : Hp) (d : Addr), Same H H' → H d = none → H' d = some (.xd [(("name" : Str), .str z)]) → E (.ref CU) (some d) H')
theorem scPStayOf : FnScope ["self", "name", "stay"] ["self", "name"] (defScope sPStayOf) := ⟨rfl, rfl, rfl, by decide +kernel, rfl, by decide +kernel, by decide +kernel⟩
theorem dec_str {a b : Str} : decide (V.str a = V.str b) = (a == b) := by
  rw [Bool.eq_iff_iff]
  simp
theorem ok_stayOf {f C CU : Addr} {fd : FuncData} (F : Fun K "_stay_of" "Party._stay_of" sPStayOf f fd) (PC : PartyC K mg C) (EC : ErrC P K mg "UnknownGuest" "name" nfUnk CU) : FnOk P w K mg base (L2.CX P w) 3 f fd ["self", "name"] (spStayOf C CU) := by
  refine F.okX scPStayOf (fun vs H Q E h => ?_) (fun cdv A outer s H vs Q E hr h => ?_)
  · obtain ⟨p, z, xs, rfl, _⟩ := h
    rfl
  · obtain ⟨p, z, xs, rfl, ⟨dx, a, ws, h1, h2, h3⟩, hz, kOk, kBad⟩ := h
    have nd := scPStayOf.nd
    refine ⟨_, pss_cons (ps_for (passes_of rfl) rfl (pi_tup (pe_fld (pv 0) rfl)) (pg_name (i := 2) nd rfl (Or.inl rfl))
        (pss_one (ps_if (pt_cmpR op_eq (pe_ix ix_tup (pv 2) pe_int (fun _ _ => rfl)) (pv 1) (nomark _)) (pss_one (ps_ret (pv 2))) pss_nil)))
      (pss_one (ps_raise rfl (takes_of rfl rfl rfl rfl) (pmk_unk (k := 0) EC (hr.mono (by decide)) passL (by rfl) (pk_cons (pv 1) pk_nil) rfl rfl rfl))), ?_⟩
    refine ⟨_, rfl, p, C, dx, _, .ref a, rfl, h1, PC.cl, PC.nS, lk_stays _, a, rfl, ⟨_, SqT.of h2⟩, for_it walk_tup (fun i σ H2 => ∃ o, σ = [some (.ref p), some (.str z), o] ∧ H2 = H ∧ guest (xs.take i) z = none)
      ⟨none, rfl, rfl, rfl⟩ (fun i σ H2 _ ⟨_, _, e, _⟩ => by rw [e]; exact SqT.of h2) ?_ ?_⟩
    · rintro i y σ H2 H3 hi ⟨o, rfl, rfl, hb⟩ ⟨rfl, e2⟩
      obtain ⟨x, hx, t, rfl, ht⟩ := pair_get h3 e2
      refine ⟨_, rfl, t, _, 0, .str x.1, rfl, rfl, SqT.of ht, atI_nat (j := 0) rfl, _, rfl, rfl, _, rfl, ?_⟩
      rw [dec_str]
      have take1 : xs.take (i + 1) = xs.take i ++ [x] := by rw [List.take_add_one, hx]; rfl
      cases e : (x.1 == z) with
      | true =>
        refine iteT ⟨_, rfl, kOk x t ?_ ht⟩
        have q : guest (xs.take (i + 1)) z = some x := by
          unfold guest at hb ⊢
          rw [take1, List.find?_append, hb]
          simp [e]
        have q2 : xs = xs.take (i + 1) ++ xs.drop (i + 1) := (List.take_append_drop _ _).symm
        unfold guest at q ⊢
        rw [q2, List.find?_append, q]
        rfl
      | false =>
        refine iteF ⟨_, rfl, rfl, ?_⟩
        unfold guest at hb ⊢
        rw [take1, List.find?_append, hb]
        simp [e]
    · rintro σ H2 ⟨o, rfl, rfl, hb⟩
      rw [pair_len h3, List.take_length] at hb
      refine ⟨_, rfl, _, rfl, .inl ⟨z, rfl, hz⟩, fun d hd => kBad hb _ d (fun b o e => ?_) hd upd_same⟩
      rw [upd_ne (ne_of_none e hd)]
      exact e
/-! ### __len__, __bool__, __contains__, __getitem__ -/
def spPLen (C : Addr) : Sp := fun vs H Q _ => ∃ (p : Addr) (xs : List Stay), vs = [.ref p] ∧ PartyAt C H p xs ∧ Q (.int (xs.length : Nat)) H
theorem scPLen : FnScope ["self"] ["self"] (defScope sPLen) := ⟨rfl, rfl, rfl, by decide +kernel, rfl, by decide +kernel, by decide +kernel⟩
theorem ok_plen {f C : Addr} {fd : FuncData} (F : Fun K "__len__" "Party.__len__" sPLen f fd) (B : Blt mg) (PC : PartyC K mg C) : FnOk P w K mg base CX0 1 f fd ["self"] (spPLen C) := by
  refine F.ok scPLen (fun vs H Q E h => ?_) (fun cdv A outer s H vs Q E hr h => ?_)
  · obtain ⟨p, xs, rfl, _⟩ := h
    rfl
  · obtain ⟨p, xs, rfl, ⟨dx, a, ws, h1, h2, h3⟩, k⟩ := h
    refine ⟨_, pss_one (ps_ret (pe_callB call_len_seq (by rfl) B.len PySem.boot_len (pa_cons (pe_fld (pv 0) rfl) pa_nil))), ?_⟩
    refine ⟨_, rfl, p, C, dx, _, .ref a, rfl, h1, PC.cl, PC.nS, lk_stays _, a, ws, rfl, .inr (SqT.of h2), ?_⟩
    rw [pair_len h3]
    exact k
def spPBool (C : Addr) : Sp := fun vs H Q _ => ∃ (p : Addr) (xs : List Stay), vs = [.ref p] ∧ PartyAt C H p xs ∧ Q (.bl (!xs.isEmpty)) H
theorem scPBool : FnScope ["self"] ["self"] (defScope sPBool) := ⟨rfl, rfl, rfl, by decide +kernel, rfl, by decide +kernel, by decide +kernel⟩
theorem ok_pbool {f C : Addr} {fd : FuncData} (F : Fun K "__bool__" "Party.__bool__" sPBool f fd) (B : Blt mg) (PC : PartyC K mg C) : FnOk P w K mg base CX0 1 f fd ["self"] (spPBool C) := by
  refine F.ok scPBool (fun vs H Q E h => ?_) (fun cdv A outer s H vs Q E hr h => ?_)
  · obtain ⟨p, xs, rfl, _⟩ := h
    rfl
  · obtain ⟨p, xs, rfl, ⟨dx, a, ws, h1, h2, h3⟩, k⟩ := h
    refine ⟨_, pss_one (ps_ret (pe_callTy call_boolTup (by rfl) B.bool (by decide +kernel) (pa_cons (pe_fld (pv 0) rfl) pa_nil))), ?_⟩
    refine ⟨_, rfl, p, C, dx, _, .ref a, rfl, h1, PC.cl, PC.nS, lk_stays _, a, ws, rfl, SqT.of h2, ?_⟩
    have e : ws.isEmpty = xs.isEmpty := by
      have := pair_len h3
      cases ws <;> cases xs <;> simp at this <;> rfl
    rw [e]
    exact k
def named (xs : List Stay) (z : Str) : Bool := xs.any fun x => x.1 == z
def spPIn (C : Addr) : Sp := fun vs H Q _ => ∃ (p : Addr) (z : Str) (xs : List Stay), vs = [.ref p, .str z] ∧ PartyAt C H p xs ∧ xs.length ≤ sizeLine ∧ ∀ H', Same H H' → Q (.bl (named xs z)) H'
theorem scPIn : FnScope ["self", "name"] ["self", "name"] (defScope sPIn) := ⟨rfl, rfl, rfl, by decide +kernel, rfl, by decide +kernel, by decide +kernel⟩
theorem ok_pin {f C fN pN : Addr} {fd fdN : FuncData} (F : Fun K "__contains__" "Party.__contains__" sPIn f fd) (PC : PartyC K mg C) (GN : FnOk P w K mg base CX0 1 fN fdN ["self"] (spPNames C)) (hN : PropOf K C "names" pN fN) (bN : Binds K fdN ["self"] []) :
    FnOk P w K mg base CX0 3 f fd ["self", "name"] (spPIn C) := by
  refine F.ok scPIn (fun vs H Q E h => ?_) (fun cdv A outer s H vs Q E hr h => ?_)
  · obtain ⟨p, z, xs, rfl, _⟩ := h
    rfl
  · obtain ⟨p, z, xs, rfl, PA, hz, k⟩ := h
    refine ⟨_, pss_one (ps_ret (pe_cmpR op_in_seq (pv 1) (pe_prop (pv 0) PC.cl hN GN hr bN .nil pass0 rfl) rfl)), ?_⟩
    obtain ⟨dx, a, ws, h1, h2, h3⟩ := id PA
    refine ⟨_, rfl, _, rfl, p, dx, _, rfl, h1, p, xs, rfl, PA, hz, fun H' t s' nt e => ?_⟩
    refine ⟨t, _, rfl, .inr (SqT.of e), rfl, ?_, ?_⟩
    · have := flat_strs (xs.map fun x => x.1)
      rw [List.map_map] at this
      exact this
    · have e2 : inV (.str z) (xs.map fun x => V.str x.1) = named xs z := by
        have := inV_strs z (xs.map fun x => x.1)
        rw [List.map_map, List.any_map] at this
        exact this
      rw [if_neg Bool.false_ne_true, e2]
      exact k _ s'
def spPIx (C CU : Addr) : Sp := fun vs H Q E => ∃ (p : Addr) (z : Str) (xs : List Stay), vs = [.ref p, .str z] ∧ PartyAt C H p xs ∧ z.length ≤ 100000 ∧
  (∀ x, guest xs z = some x → ∀ H' t, Same H H' → H t = none → H' t = some (.tup [.int x.2.1, .int x.2.2]) → Q (.ref t) H') ∧
  (guest xs z = none → ∀ (H' : Hp) (d : Addr), Same H H' → H d = none → H' d = some (.xd [(("name" : Str), .str z)]) → E (.ref CU) (some d) H')
theorem scPIx : FnScope ["self", "name"] ["self", "name"] (defScope sPIx) := ⟨rfl, rfl, rfl, by decide +kernel, rfl, by decide +kernel, by decide +kernel⟩
theorem guest_at {C : Addr} {H : Hp} {p : Addr} {xs : List Stay} {z : Str} (h : PartyAt C H p xs) : ∀ {x : Stay}, guest xs z = some x → ∃ t, H t = some (.tup [.str x.1, .int x.2.1, .int x.2.2]) := by
  obtain ⟨dx, a, ws, _, _, h3⟩ := h
  intro x hx
  have key : ∀ {ws : List V} {xs : List Stay}, StaysV H ws xs → x ∈ xs → ∃ t, H t = some (.tup [.str x.1, .int x.2.1, .int x.2.2]) := by
    intro ws xs r
    induction r with
    | nil => intro hm; cases hm
    | cons h r ih =>
      intro hm
      rcases List.mem_cons.mp hm with rfl | hm
      · obtain ⟨t, _, ht⟩ := h
        exact ⟨t, ht⟩
      · exact ih hm
  exact key h3 (List.mem_of_find?_eq_some hx)
theorem ok_pix {f C CU fS : Addr} {fd fdS : FuncData} (F : Fun K "__getitem__" "Party.__getitem__" sPIx f fd) (PC : PartyC K mg C) (GS : FnOk P w K mg base (L2.CX P w) 3 fS fdS ["self", "name"] (spStayOf C CU)) (mS : Meth K C "_stay_of" fS) (bS : Binds K fdS ["self", "name"] []) :
    FnOk P w K mg base (L2.CX P w) 4 f fd ["self", "name"] (spPIx C CU) := by
  refine F.okX scPIx (fun vs H Q E h => ?_) (fun cdv A outer s H vs Q E hr h => ?_)
  · obtain ⟨p, z, xs, rfl, _⟩ := h
    rfl
  · obtain ⟨p, z, xs, rfl, PA, hz, kOk, kBad⟩ := h
    refine ⟨_, pss_one (ps_ret (pe_slice sl_tup (pe_meth (pv 0) PC.cl mS GS hr bS .nil (passes_call (takes_of rfl rfl rfl rfl) fun _ _ _ _ z => z) (pa_cons (pv 1) pa_nil)) (po_some pe_int) po_none)), ?_⟩
    obtain ⟨dx, a, ws, h1, h2, h3⟩ := id PA
    refine ⟨_, rfl, p, dx, _, rfl, h1, no_meth _ (by decide +kernel), _, rfl, p, z, xs, rfl, PA, hz, fun x t hx ht => ?_, kBad⟩
    refine ⟨1, rfl, t, _, rfl, SqT.of ht, ?_, fun q hq => ?_⟩
    · exact fun h => absurd h.1 (by show ¬ HT.sIx 3 0 (some 1) = 0; decide +kernel)
    · refine kOk x hx _ q (fun b o e => ?_) hq ?_
      · rw [upd_ne (ne_of_none e hq)]
        exact e
      · rw [upd_same]
        rfl
end
end Sh1
set_option Elab.async false
set_option linter.all false
set_option maxRecDepth 100000
set_option maxHeartbeats 2000000
namespace Sh1
open PySem L2 Sho NdefX
/-! ### stays compared -/
def stayD (x : Stay) : PyData := .tuple [.str x.1, .int x.2.1, .int x.2.2]
theorem dp_stays {K : PySem.W.Frag} {H : Hp} : ∀ {ws : List V} {xs : List Stay}, StaysV H ws xs → DpAll K H ws (xs.map stayD)
  | _, _, .nil => .nil
  | _, _, .cons ⟨t, e, ht⟩ r => by
    subst e
    exact .cons (.tup (SqT.of ht) (.cons (.str _) (.cons (.int _) (.cons (.int _) .nil)))) (dp_stays r)
theorem lay_stays : ∀ {xs : List Stay}, Short xs → PyData.canLayAll0 (xs.map stayD) = true
  | [], _ => rfl
  | x :: xs, h => by
    have h1 := (h x List.mem_cons_self).2
    have h2 := lay_stays (xs := xs) fun y hy => h y (List.mem_cons_of_mem _ hy)
    show (PyData.canLay0 (stayD x) && PyData.canLayAll0 (xs.map stayD)) = true
    rw [h2, Bool.and_true]
    show (PyData.canLay0 (.str x.1) && (true && (true && true))) = true
    simp only [Bool.and_true]
    exact h1
theorem depth_stays : ∀ xs : List Stay, PyData.depthAll (xs.map stayD) ≤ 1
  | [] => Nat.zero_le _
  | x :: xs => by
    have h := depth_stays xs
    show max (PyData.depth (stayD x)) (PyData.depthAll (xs.map stayD)) ≤ 1
    have e : PyData.depth (stayD x) = 1 := rfl
    rw [e]
    omega
theorem shaped_tup {xs : List Stay} (h : Short xs) : SeqAt.shaped (.tuple (xs.map stayD)) = true := by
  unfold SeqAt.shaped
  have h1 : PyData.canLay0 (.tuple (xs.map stayD)) = true := lay_stays h
  have h2 : PyData.depth (.tuple (xs.map stayD)) ≤ 64 := Nat.le_trans (Nat.succ_le_succ (depth_stays xs)) (by decide)
  rw [h1, decide_eq_true h2]
  rfl
theorem shaped_lst {xs : List Stay} (h : Short xs) : SeqAt.shaped (.list (xs.map stayD)) = true := by
  unfold SeqAt.shaped
  have h1 : PyData.canLay0 (.list (xs.map stayD)) = true := lay_stays h
  have h2 : PyData.depth (.list (xs.map stayD)) ≤ 64 := Nat.le_trans (Nat.succ_le_succ (depth_stays xs)) (by decide)
  rw [h1, decide_eq_true h2]
  rfl
theorem shaped_stay {x : Stay} (h : x.1.cps.all (· < 0x110000) = true) : SeqAt.shaped (stayD x) = true := by
  unfold SeqAt.shaped
  have h1 : PyData.canLay0 (stayD x) = true := by
    show (PyData.canLay0 (.str x.1) && (true && (true && true))) = true
    simp only [Bool.and_true]
    exact h
  rw [h1]
  rfl
theorem eqv_stay (x y : Stay) : PyData.eqv (stayD x) (stayD y) = decide (x = y) := by
  obtain ⟨x1, x2, x3⟩ := x
  obtain ⟨y1, y2, y3⟩ := y
  show ((x1 == y1) && ((x2 == y2) && ((x3 == y3) && true))) = _
  rw [Bool.eq_iff_iff]
  simp
theorem eqv_stays : ∀ xs ys : List Stay, PyData.eqvAll (xs.map stayD) (ys.map stayD) = decide (xs = ys)
  | [], [] => rfl
  | [], y :: ys => by
    rw [decide_eq_false (by simp)]
    rfl
  | x :: xs, [] => by
    rw [decide_eq_false (by simp)]
    rfl
  | x :: xs, y :: ys => by
    show (PyData.eqv (stayD x) (stayD y) && PyData.eqvAll (xs.map stayD) (ys.map stayD)) = _
    rw [eqv_stay, eqv_stays xs ys, Bool.eq_iff_iff]
    simp
section
variable {P : Program} {w : World} {K : PySem.W.Frag} {mg : Str → Option Value} {base : Heap}
/-! ### __eq__ -/
def spPEq (C : Addr) : Sp := fun vs H Q _ => ∃ (p : Addr) (xs : List Stay) (y : V), vs = [.ref p, y] ∧ PartyAt C H p xs ∧ Short xs ∧
  ((∃ q ys, y = .ref q ∧ PartyAt C H q ys ∧ Short ys ∧ Q (.bl (decide (xs = ys))) H) ∨ ∃ b zs, y = .ref b ∧ H b = some (.tup zs) ∧ Q (.bl false) H)
theorem scPEq : FnScope ["self", "other"] ["self", "other"] (defScope sPEq) := ⟨rfl, rfl, rfl, by decide +kernel, rfl, by decide +kernel, by decide +kernel⟩
theorem ok_peq {f C : Addr} {fd : FuncData} (F : Fun K "__eq__" "Party.__eq__" sPEq f fd) (B : Blt mg) (PC : PartyC K mg C) : FnOk P w K mg base CX0 1 f fd ["self", "other"] (spPEq C) := by
  refine F.ok scPEq (fun vs H Q E h => ?_) (fun cdv A outer s H vs Q E hr h => ?_)
  · obtain ⟨p, xs, y, rfl, _⟩ := h
    rfl
  · obtain ⟨p, xs, y, rfl, ⟨dx, a, ws, h1, h2, h3⟩, hsx, k⟩ := h
    refine ⟨_, pss_one (ps_ret (pe_and (pe_callB call_isi (by rfl) B.isi (by decide +kernel) (pa_cons (pv 1) (pa_cons (pe_glob (v := .ref C) rfl PC.gm rfl) pa_nil)))
      (pe_one (pe_cmpR (op_eqD hr.units) (pe_fld (pv 0) rfl) (pe_fld (pv 1) rfl) (nomark _))))), ?_⟩
    rcases k with ⟨q, ys, rfl, ⟨dy, b, zs, g1, g2, g3⟩, hsy, k⟩ | ⟨b, zs, rfl, hb, k⟩
    · refine ⟨_, rfl, .ref q, .ref C, .ref C, .ref C, true, rfl, .own C, .base (.ins g1 PC.cl PC.ca PC.cn PC.ct PC.mo), PC.kS, _, rfl, iteT ?_⟩
      refine ⟨_, rfl, p, C, dx, _, .ref a, rfl, h1, PC.cl, PC.nS, lk_stays _, _, rfl, q, C, dy, _, .ref b, rfl, g1, PC.cl, PC.nS, lk_stays _, ?_⟩
      refine ⟨.tuple (xs.map stayD), .tuple (ys.map stayD), .tup (SqT.of h2) (dp_stays h3), .tup (SqT.of g2) (dp_stays g3), shaped_tup hsx, shaped_tup hsy, ?_⟩
      have e : PyData.eqv (.tuple (xs.map stayD)) (.tuple (ys.map stayD)) = decide (xs = ys) := eqv_stays xs ys
      rw [e]
      exact k
    · refine ⟨_, rfl, .ref b, .ref C, .type "tuple", .ref C, false, rfl, .own C, .base (.tup hb), PC.kT, _, rfl, iteF k⟩
end
end Sh1
set_option Elab.async false
set_option linter.all false
set_option maxRecDepth 100000
set_option maxHeartbeats 2000000
namespace Sh1
open PySem L2 Sho NdefX
/-! ### valid lists of stays -/
structure Valid (xs : List Stay) : Prop where
  len : xs.length ≤ 24
  nd : (xs.map fun x => x.1).Nodup
  ok : ∀ x ∈ xs, okStay x.1 x.2.1 x.2.2 = true
theorem any_mem {l : List Str} {z : Str} : l.any (fun y => y == z) = true ↔ z ∈ l := by
  rw [List.any_eq_true]
  constructor
  · rintro ⟨y, hy, e⟩
    have := eq_of_beq e
    rw [← this]
    exact hy
  · intro h
    exact ⟨z, h, by simp⟩
theorem fbf_none : ∀ (xs : List Stay) (i : Nat) (seen : List Str), i ≤ 24 → firstBadFrom i seen xs = none →
    i + xs.length ≤ 24 ∧ (∀ x ∈ xs, x.1 ∉ seen) ∧ (xs.map fun x => x.1).Nodup ∧ ∀ x ∈ xs, okStay x.1 x.2.1 x.2.2 = true
  | [], i, seen, hi, _ => ⟨hi, by simp, by simp, by simp⟩
  | x :: r, i, seen, hi, h => by
    unfold firstBadFrom at h
    by_cases hb : badStay i seen x = true
    · rw [if_pos hb] at h
      cases h
    · rw [if_neg hb] at h
      have hb2 := Bool.eq_false_iff.mpr hb
      unfold badStay at hb2
      rw [Bool.or_eq_false_iff, Bool.or_eq_false_iff] at hb2
      obtain ⟨b1, b2, b3⟩ := hb2
      have n24 : (i : Int) ≠ 24 := of_decide_eq_false b1
      have ns : x.1 ∉ seen := fun m => by
        rw [any_mem.mpr m] at b2
        cases b2
      have ok1 : okStay x.1 x.2.1 x.2.2 = true := by
        cases e : okStay x.1 x.2.1 x.2.2 with
        | true => rfl
        | false => rw [e] at b3; cases b3
      obtain ⟨c1, c2, c3, c4⟩ := fbf_none r (i + 1) (seen ++ [x.1]) (by omega) h
      refine ⟨by rw [List.length_cons]; omega, fun y hy => ?_, ?_, fun y hy => ?_⟩
      · rcases List.mem_cons.mp hy with rfl | hy
        · exact ns
        · exact fun m => c2 y hy (List.mem_append_left _ m)
      · rw [List.map_cons, List.nodup_cons]
        refine ⟨fun m => ?_, c3⟩
        obtain ⟨y, hy, e⟩ := List.mem_map.mp m
        exact c2 y hy (by rw [e]; simp)
      · rcases List.mem_cons.mp hy with rfl | hy
        · exact ok1
        · exact c4 y hy
theorem fbf_of : ∀ (xs : List Stay) (i : Nat) (seen : List Str), i + xs.length ≤ 24 → (∀ x ∈ xs, x.1 ∉ seen) → (xs.map fun x => x.1).Nodup → (∀ x ∈ xs, okStay x.1 x.2.1 x.2.2 = true) → firstBadFrom i seen xs = none
  | [], _, _, _, _, _, _ => rfl
  | x :: r, i, seen, h1, h2, h3, h4 => by
    rw [List.length_cons] at h1
    have hb : badStay i seen x = false := by
      unfold badStay
      rw [h4 x List.mem_cons_self, decide_eq_false (by omega)]
      have e : seen.any (fun y => y == x.1) = false := by
        rw [Bool.eq_false_iff]
        exact fun q => h2 x List.mem_cons_self (any_mem.mp q)
      rw [e]
      rfl
    unfold firstBadFrom
    rw [if_neg (by rw [hb]; exact Bool.false_ne_true)]
    rw [List.map_cons, List.nodup_cons] at h3
    refine fbf_of r (i + 1) _ (by omega) (fun y hy m => ?_) h3.2 fun y hy => h4 y (List.mem_cons_of_mem _ hy)
    rcases List.mem_append.mp m with m | m
    · exact h2 y (List.mem_cons_of_mem _ hy) m
    · rw [List.mem_singleton] at m
      exact h3.1 (List.mem_map.mpr ⟨y, hy, m⟩)
theorem valid_iff {xs : List Stay} : firstBad xs = none ↔ Valid xs := by
  constructor
  · intro h
    obtain ⟨a, _, b, c⟩ := fbf_none xs 0 [] (by decide) h
    exact ⟨by omega, b, c⟩
  · intro h
    exact fbf_of xs 0 [] (by have := h.len; omega) (by simp) h.nd h.ok
theorem Valid.filter {xs : List Stay} (h : Valid xs) (p : Stay → Bool) : Valid (xs.filter p) :=
  ⟨Nat.le_trans (List.length_filter_le ..) h.len, (List.Nodup.sublist (List.Sublist.map _ List.filter_sublist) h.nd), fun x hx => h.ok x (List.mem_filter.mp hx).1⟩
theorem Short.filter {xs : List Stay} (h : Short xs) (p : Stay → Bool) : Short (xs.filter p) := fun x hx => h x (List.mem_filter.mp hx).1
/-- what is kept of paired lists -/
theorem stays_filter {H : Hp} (p : Stay → Bool) : ∀ {ws : List V} {xs : List Stay}, StaysV H ws xs → StaysV H ((ws.zip xs).filterMap fun q => if p q.2 = true then some q.1 else none) (xs.filter p)
  | _, _, .nil => .nil
  | _, _, .cons (a := v) (b := x) h r => by
    have ih := stays_filter p r
    rw [List.zip_cons_cons, List.filterMap_cons, List.filter_cons]
    by_cases e : p x = true
    · simp only [e, if_true]
      exact .cons h ih
    · simp only [e, if_false]
      exact ih
section
variable {P : Program} {w : World} {K : PySem.W.Frag} {mg : Str → Option Value} {base : Heap}
/-! ### __sub__ -/
def without (xs : List Stay) (x : Stay) : List Stay := xs.filter fun y => !decide (y = x)
def spPSub (C CU : Addr) : Sp := fun vs H Q E => ∃ (p : Addr) (z : Str) (xs : List Stay), vs = [.ref p, .str z] ∧ PartyAt C H p xs ∧ Short xs ∧ Valid xs ∧ z.length ≤ 100000 ∧
  (∀ x, guest xs z = some x → ∀ q H', Same H H' → H q = none → PartyAt C H' q (without xs x) → Q (.ref q) H') ∧
  (guest xs z = none → ∀ (H' : Hp) (d : Addr), Same H H' → H d = none → H' d = some (.xd [(("name" : Str), .str z)]) → E (.ref CU) (some d) H')
theorem scPSub : FnScope ["self", "name", "gone", "stays", "stay"] ["self", "name"] (defScope sPSub) := ⟨rfl, rfl, rfl, by decide +kernel, rfl, by decide +kernel, by decide +kernel⟩
theorem ok_psub {f C CI CU fS fI : Addr} {fd fdS : FuncData} (F : Fun K "__sub__" "Party.__sub__" sPSub f fd) (PC : PartyC K mg C)
    (GS : FnOk P w K mg base (L2.CX P w) 3 fS fdS ["self", "name"] (spStayOf C CU)) (mS : Meth K C "_stay_of" fS) (bS : Binds K fdS ["self", "name"] [])
    (M : Mk K C fI) (GI : FnR P w K mg base (L2.CX P w) 5 fI (spPNew C CI)) : FnOk P w K mg base (L2.CX P w) 7 f fd ["self", "name"] (spPSub C CU) := by
  refine F.okX scPSub (fun vs H Q E h => ?_) (fun cdv A outer s H vs Q E hr h => ?_)
  · obtain ⟨p, z, xs, rfl, _⟩ := h
    rfl
  · obtain ⟨p, z, xs, rfl, PA, hsh, hv, hz, kOk, kBad⟩ := h
    have nd := scPSub.nd
    have pass : Passes (L2.CX P w) (cxOf (L2.CX P w) P w K mg base ["self", "name", "gone", "stays", "stay"] "Party.__sub__" (defScope sPSub) f cdv A outer s H E) E := passes_call (takes_of rfl rfl rfl rfl) fun _ _ _ _ z => z
    refine ⟨_, pss_cons (ps_set (i := 2) nd rfl (Or.inr rfl) (pe_meth (pv 0) PC.cl mS GS (hr.mono (by decide)) bS .nil pass (pa_cons (pv 1) pa_nil)))
      (pss_cons (ps_setLc (i := 3) (own := [("stay", 4)]) (g := gName 4) (tt := tTest (tOp (rNeD K) (tVar 4) (tVar 2))) rfl nd rfl rfl (sw_true rfl rfl rfl (by decide +kernel)) (pi_tup (pe_fld (pv 0) rfl)) (blkOk_by (own := [("stay", 4)]) (N := ["self", "name", "gone", "stays", "stay"]) (sc := defScope sPSub) (by decide +kernel))
        (fun _ _ _ _ _ => pg_name (i := 4) nd rfl (Or.inl rfl)) (fun _ _ _ _ _ => pts_one (pt_cmpR (op_neD hr.units) (pv 4) (pv 2) (nomark _))) (fun _ _ _ _ _ => pv 4))
      (pss_one (ps_ret (pe_makeS M GI hr rfl PC.gm pass (pv 3))))), ?_⟩
    obtain ⟨dx, a, ws, h1, h2, h3⟩ := id PA
    refine ⟨_, rfl, p, dx, _, rfl, h1, no_meth _ (by decide +kernel), _, rfl, p, z, xs, rfl, PA, hz, fun x t hx ht => ?_, kBad⟩
    refine ⟨_, rfl, p, C, dx, _, .ref a, rfl, h1, PC.cl, PC.nS, lk_stays _, a, rfl, ⟨_, SqT.of h2⟩, fun D hD => ?_⟩
    have lenE := pair_len h3
    have hz24 : ws.length ≤ sizeLine := by
      rw [lenE]
      exact Nat.le_trans hv.len (by decide)
    have hxs : x.1.cps.all (· < 0x110000) = true := (hsh x (List.mem_of_find?_eq_some hx)).2
    have dpx : ∀ {t : Addr} {y : Stay} {H1 : Hp}, H1 t = some (.tup [.str y.1, .int y.2.1, .int y.2.2]) → Dp K H1 (.ref t) (stayD y) := fun {t y H1} e => .tup (SqT.of e) (.cons (.str _) (.cons (.int _) (.cons (.int _) .nil)))
    refine lc_gather walk_tup (fun i => ((ws.zip xs)[i]?).bind fun q => if (!decide (q.2 = x)) = true then some q.1 else none) hD hz24 (fun H1 s1 => SqT.of (s1 _ _ h2)) (fun i v H1 H' hi s1 y R k1 => ?_) fun H1 s1 e1 => ?_
    · obtain ⟨rfl, e2⟩ := y
      obtain ⟨y, hy, t', rfl, ht'⟩ := pair_get h3 e2
      have k2 := k1 _ (Same.refl _)
      have ez : (ws.zip xs)[i]? = some (.ref t', y) := by
        rw [List.getElem?_zip_eq_some]
        exact ⟨e2, hy⟩
      rw [ez] at k2
      refine ⟨rfl, _, rfl, _, rfl, stayD y, stayD x, dpx (s1 _ _ ht'), dpx (s1 _ _ ht), shaped_stay (hsh y (List.mem_of_getElem? hy)).2, shaped_stay hxs, _, rfl, ?_⟩
      rw [eqv_stay]
      by_cases e : y = x
      · have : decide (y = x) = true := decide_eq_true e
        rw [this]
        refine iteF ?_
        simp only [Option.bind_some, this] at k2
        exact k2
      · have : decide (y = x) = false := decide_eq_false e
        rw [this]
        refine iteT ⟨_, rfl, ?_⟩
        simp only [Option.bind_some, this] at k2
        exact k2
    · have e2 : (ws.zip xs).length = ws.length := by
        rw [List.length_zip, lenE]
        exact Nat.min_self _
      rw [← e2, gather_list] at e1
      have sv := stays_filter (fun y => !decide (y = x)) (h3.same s1)
      refine ⟨_, rfl, D, _, rfl, .inr (SqL.of e1), ?_⟩
      refine party_new sv (hsh.filter _) ?_ (fun _ q H' s' hq PQ => ?_) (fun i hi => ?_)
      · rw [pair_len sv]
        exact Nat.le_trans (hv.filter _).len (by decide)
      · exact kOk x hx q H' (s1.trans s') (s1.free hq) PQ
      · rw [valid_iff.mpr (hv.filter _)] at hi
        cases hi
end
end Sh1
set_option Elab.async false
set_option linter.all false
set_option maxRecDepth 100000
set_option maxHeartbeats 2000000
/-! Codes of parties: what reading a list of numbers comes to. -/
namespace Sh1
open PySem L2 Sho NdefX
def at_ (c : List Int) (i : Nat) : Int := (c[i]?).getD 0
def need (c : List Int) (i : Nat) (lo hi : Int) : Bool := decide (i < c.length) && (decide (lo ≤ at_ c i) && decide (at_ c i ≤ hi))
/-- the first place of n from i on where no letter stands -/
def badL (c : List Int) : Nat → Nat → Option Nat
  | _, 0 => none
  | i, n + 1 => if need c i 1 26 = true then badL c (i + 1) n else some i
def sgn (x : Int) : Str := ⟨#[(96 + x).toNat]⟩
def lname (ls : List Int) : Str := ⟨(ls.map fun x => (96 + x).toNat).toArray⟩
def lets (c : List Int) (i n : Nat) : List Int := (c.drop i).take n
def rdName (c : List Int) (i : Nat) (seen : List Str) : Except Nat (Str × Nat) :=
  if need c i 1 8 = true then
    match badL c (i + 1) (at_ c i).toNat with
    | some j => .error j
    | none => if lname (lets c (i + 1) (at_ c i).toNat) ∈ seen then .error i else .ok (lname (lets c (i + 1) (at_ c i).toNat), i + 1 + (at_ c i).toNat)
  else .error i
def rdGuest (c : List Int) (i : Nat) (seen : List Str) : Except Nat (Stay × Nat) :=
  match rdName c i seen with
  | .error j => .error j
  | .ok (z, q) => if need c q 0 1000000000 = true then (if need c (q + 1) (at_ c q + 1) 1000000000 = true then .ok ((z, at_ c q, at_ c (q + 1)), q + 2) else .error (q + 1)) else .error q
def names (xs : List Stay) : List Str := xs.map fun x => x.1
def rdGuests (c : List Int) : Nat → Nat → List Stay → Except Nat (List Stay × Nat)
  | 0, i, acc => .ok (acc, i)
  | k + 1, i, acc => match rdGuest c i (names acc) with
    | .error j => .error j
    | .ok (x, q) => rdGuests c k q (acc ++ [x])
def csum (c : List Int) : Int := ((List.range c.length).map fun i => at_ c i * ((i : Int) + 3)).sum % 9973
def rdEnd (c : List Int) (i : Nat) (xs : List Stay) : Except Nat (List Stay) :=
  if need c i (csum (c.take i)) (csum (c.take i)) = true then (if i + 1 < c.length then .error (i + 1) else .ok xs) else .error i
def rdCode (c : List Int) : Except Nat (List Stay) :=
  if need c 0 115 115 = true then
    (if need c 1 0 24 = true then
      match rdGuests c (at_ c 1).toNat 2 [] with
      | .error j => .error j
      | .ok (xs, i) => rdEnd c i xs
    else .error 1)
  else .error 0
theorem need_lt {c : List Int} {i : Nat} {lo hi : Int} (h : need c i lo hi = true) : i < c.length ∧ lo ≤ at_ c i ∧ at_ c i ≤ hi := by
  unfold need at h
  simpa using h
theorem at_of {c : List Int} {i : Nat} (h : i < c.length) : c[i]? = some (at_ c i) := by
  unfold at_
  rw [List.getElem?_eq_getElem h]
  rfl
theorem badL_none : ∀ {n i : Nat} {c : List Int}, (∀ k, k < n → need c (i + k) 1 26 = true) → badL c i n = none
  | 0, _, _, _ => rfl
  | n + 1, i, c, h => by
    unfold badL
    rw [if_pos (show need c i 1 26 = true from h 0 (Nat.succ_pos n))]
    exact badL_none fun k hk => by
      have := h (k + 1) (Nat.succ_lt_succ hk)
      rw [show i + 1 + k = i + (k + 1) by omega]
      exact this
theorem badL_some : ∀ {n i j : Nat} {c : List Int}, j < n → (∀ k, k < j → need c (i + k) 1 26 = true) → need c (i + j) 1 26 = false → badL c i n = some (i + j)
  | 0, _, j, _, h, _, _ => absurd h (Nat.not_lt_zero j)
  | n + 1, i, 0, c, _, _, h2 => by
    unfold badL
    have h2 : need c i 1 26 = false := h2
    rw [h2]
    rfl
  | n + 1, i, j + 1, c, h, h1, h2 => by
    unfold badL
    rw [if_pos (show need c i 1 26 = true from h1 0 (Nat.succ_pos j))]
    have := badL_some (n := n) (i := i + 1) (j := j) (c := c) (by omega) (fun k hk => by
      have := h1 (k + 1) (Nat.succ_lt_succ hk)
      rw [show i + 1 + k = i + (k + 1) by omega]
      exact this) (by rw [show i + 1 + j = i + (j + 1) by omega]; exact h2)
    rw [this]
    congr 1
    omega
theorem badL_all : ∀ {n i : Nat} {c : List Int}, badL c i n = none → ∀ k, k < n → need c (i + k) 1 26 = true
  | 0, _, _, _, k, hk => absurd hk (Nat.not_lt_zero k)
  | n + 1, i, c, h, k, hk => by
    unfold badL at h
    by_cases q : need c i 1 26 = true
    · rw [if_pos q] at h
      cases k with
      | zero => exact q
      | succ k =>
        have := badL_all h k (by omega)
        rw [show i + (k + 1) = i + 1 + k by omega]
        exact this
    · rw [if_neg q] at h
      cases h
theorem lets_len {c : List Int} {i n : Nat} (h : i + n ≤ c.length) : (lets c i n).length = n := by
  unfold lets
  rw [List.length_take, List.length_drop]
  omega
theorem lets_at {c : List Int} {i n k : Nat} (hk : k < n) (h : i + k < c.length) : (lets c i n)[k]? = some (at_ c (i + k)) := by
  unfold lets
  rw [List.getElem?_take, if_pos hk, List.getElem?_drop]
  exact at_of h
theorem lets_snoc {c : List Int} {i n : Nat} (h : i + n < c.length) : lets c i (n + 1) = lets c i n ++ [at_ c (i + n)] := by
  unfold lets
  rw [List.take_add_one, List.getElem?_drop, at_of h]
  rfl
/-- the letters that all letters are -/
theorem name_ok {c : List Int} {i n : Nat} (n1 : 1 ≤ n) (n8 : n ≤ 8) (h : badL c i n = none) : okName (lname (lets c i n)) = true ∧ (lname (lets c i n)).cps.all (· < 0x110000) = true ∧ (lname (lets c i n)).length = n := by
  have all := badL_all h
  have last := (need_lt (all (n - 1) (by omega))).1
  have len : (lets c i n).length = n := lets_len (by omega)
  have ch : ∀ x ∈ lets c i n, 1 ≤ x ∧ x ≤ 26 := fun x hx => by
    obtain ⟨k, hk⟩ := List.getElem?_of_mem hx
    have kn : k < n := by
      have := (List.getElem?_eq_some_iff.mp hk).1
      omega
    have a := need_lt (all k kn)
    rw [lets_at kn a.1] at hk
    cases hk
    exact a.2
  have sz : (lname (lets c i n)).length = n := by
    show ((lets c i n).map fun x => (96 + x).toNat).toArray.size = n
    simp [len]
  refine ⟨?_, ?_, sz⟩
  · unfold okName
    rw [sz]
    have a1 : decide ((1 : Int) ≤ (n : Nat)) = true := by simp; omega
    have a2 : decide (((n : Nat) : Int) ≤ 8) = true := by simp; omega
    rw [a1, a2]
    simp only [Bool.true_and]
    refine List.all_eq_true.mpr fun y hy => ?_
    have hy : y ∈ (lets c i n).map fun x => (96 + x).toNat := hy
    obtain ⟨x, hx, rfl⟩ := List.mem_map.mp hy
    have := ch x hx
    unfold letter
    simp
    omega
  · show ((lets c i n).map fun x => (96 + x).toNat).toArray.all (· < 0x110000) = true
    rw [List.all_toArray]
    refine List.all_eq_true.mpr fun y hy => ?_
    obtain ⟨x, hx, rfl⟩ := List.mem_map.mp hy
    have := ch x hx
    simp
    omega
/-- a name that is read -/
theorem rdName_ok {c : List Int} {i q : Nat} {z : Str} {seen : List Str} (h : rdName c i seen = .ok (z, q)) : z ∉ seen ∧ okName z = true ∧ z.cps.all (· < 0x110000) = true ∧ z.length ≤ 8 ∧ q ≤ c.length ∧ i < q := by
  unfold rdName at h
  by_cases h0 : need c i 1 8 = true
  · rw [if_pos h0] at h
    obtain ⟨a0, a1, a2⟩ := need_lt h0
    generalize hn : (at_ c i).toNat = n at h
    have n1 : 1 ≤ n := by omega
    have n8 : n ≤ 8 := by omega
    cases hb : badL c (i + 1) n with
    | some j =>
      rw [hb] at h
      cases h
    | none =>
      rw [hb] at h
      simp only at h
      by_cases hs : lname (lets c (i + 1) n) ∈ seen
      · rw [if_pos hs] at h
        cases h
      · rw [if_neg hs] at h
        cases h
        obtain ⟨k1, k2, k3⟩ := name_ok n1 n8 hb
        have last := (need_lt (badL_all hb (n - 1) (by omega))).1
        exact ⟨hs, k1, k2, by omega, by omega, by omega⟩
  · rw [if_neg h0] at h
    cases h
theorem rdGuest_ok {c : List Int} {i q : Nat} {x : Stay} {seen : List Str} (h : rdGuest c i seen = .ok (x, q)) : x.1 ∉ seen ∧ okStay x.1 x.2.1 x.2.2 = true ∧ x.1.cps.all (· < 0x110000) = true ∧ x.1.length ≤ 8 ∧ q ≤ c.length := by
  unfold rdGuest at h
  cases e : rdName c i seen with
  | error j =>
    rw [e] at h
    cases h
  | ok p =>
    obtain ⟨z, p⟩ := p
    rw [e] at h
    obtain ⟨k1, k2, k3, k4, k5, _⟩ := rdName_ok e
    simp only at h
    by_cases h1 : need c p 0 1000000000 = true
    · rw [if_pos h1] at h
      by_cases h2 : need c (p + 1) (at_ c p + 1) 1000000000 = true
      · rw [if_pos h2] at h
        cases h
        obtain ⟨a0, a1, a2⟩ := need_lt h1
        obtain ⟨b0, b1, b2⟩ := need_lt h2
        refine ⟨k1, ?_, k3, k4, by omega⟩
        unfold okStay
        rw [k2]
        unfold okTick
        simp
        omega
      · rw [if_neg h2] at h
        cases h
    · rw [if_neg h1] at h
      cases h
/-- parties under way -/
structure Good (xs : List Stay) : Prop where
  nd : (names xs).Nodup
  ok : ∀ x ∈ xs, okStay x.1 x.2.1 x.2.2 = true ∧ x.1.cps.all (· < 0x110000) = true ∧ x.1.length ≤ 8
theorem Good.nil : Good [] := ⟨List.nodup_nil, fun _ h => nomatch h⟩
theorem Good.snoc {xs : List Stay} {c : List Int} {i q : Nat} {x : Stay} (g : Good xs) (h : rdGuest c i (names xs) = .ok (x, q)) : Good (xs ++ [x]) := by
  obtain ⟨k1, k2, k3, k4, _⟩ := rdGuest_ok h
  refine ⟨?_, fun y hy => ?_⟩
  · unfold names at *
    rw [List.map_append, List.nodup_append]
    refine ⟨g.nd, by simp, fun a ha b hb e => ?_⟩
    simp at hb
    rw [e, hb] at ha
    exact k1 ha
  · rcases List.mem_append.mp hy with hy | hy
    · exact g.ok y hy
    · rw [List.mem_singleton] at hy
      rw [hy]
      exact ⟨k2, k3, k4⟩
theorem Good.valid {xs : List Stay} (g : Good xs) (h : xs.length ≤ 24) : Valid xs := ⟨h, g.nd, fun x hx => (g.ok x hx).1⟩
theorem Good.short {xs : List Stay} (g : Good xs) : Short xs := fun x hx => ⟨Nat.le_trans (g.ok x hx).2.2 (by decide), (g.ok x hx).2.1⟩
/-! ### what is written is read back -/
def encN (z : Str) : List Int := (z.length : Int) :: z.cps.toList.map fun ch : Nat => (ch : Int) - 96
def encG (x : Stay) : List Int := encN x.1 ++ [x.2.1, x.2.2]
def encAll (xs : List Stay) : List Int := (xs.map encG).flatten
def plain (xs : List Stay) : List Int := 115 :: (xs.length : Int) :: encAll xs
theorem at_app {pre post : List Int} {x : Int} {i : Nat} (h : i = pre.length) : at_ (pre ++ x :: post) i = x := by
  unfold at_
  rw [h, List.getElem?_append_right (Nat.le_refl _)]
  simp
theorem need_app {pre post : List Int} {x lo hi : Int} {i : Nat} (h : i = pre.length) (h1 : lo ≤ x) (h2 : x ≤ hi) : need (pre ++ x :: post) i lo hi = true := by
  unfold need
  rw [at_app h]
  have : i < (pre ++ x :: post).length := by rw [List.length_append, h]; simp
  simp [h1, h2, this]
  omega
theorem ok_cps {z : Str} (h : okName z = true) : 1 ≤ z.length ∧ z.length ≤ 8 ∧ ∀ ch ∈ z.cps.toList, 97 ≤ ch ∧ ch ≤ 122 := by
  unfold okName at h
  simp only [Bool.and_eq_true, decide_eq_true_eq] at h
  refine ⟨by omega, by omega, fun ch hc => ?_⟩
  have := List.all_eq_true.mp h.2.2 ch hc
  unfold letter at this
  simp at this
  omega
theorem lname_back {z : Str} (h : okName z = true) : lname (z.cps.toList.map fun ch : Nat => (ch : Int) - 96) = z := by
  obtain ⟨_, _, ch⟩ := ok_cps h
  have e : (z.cps.toList.map fun c : Nat => (c : Int) - 96).map (fun x => (96 + x).toNat) = z.cps.toList := by
    rw [List.map_map]
    have : ∀ l : List Nat, (∀ c ∈ l, 97 ≤ c ∧ c ≤ 122) → l.map ((fun x : Int => (96 + x).toNat) ∘ fun c : Nat => (c : Int) - 96) = l := by
      intro l
      induction l with
      | nil => exact fun _ => rfl
      | cons a l ih =>
        intro hl
        rw [List.map_cons, ih fun c hc => hl c (List.mem_cons_of_mem _ hc)]
        have := hl a List.mem_cons_self
        congr 1
        show (96 + ((a : Int) - 96)).toNat = a
        omega
    exact this _ ch
  unfold lname
  rw [e]
theorem read_name {pre rest : List Int} {z : Str} {seen : List Str} (h : okName z = true) : rdName (pre ++ encN z ++ rest) pre.length seen = if z ∈ seen then .error pre.length else .ok (z, pre.length + 1 + z.length) := by
  obtain ⟨l1, l8, ch⟩ := ok_cps h
  generalize hls : (z.cps.toList.map fun c : Nat => (c : Int) - 96) = ls
  have hll : ls.length = z.length := by rw [← hls, List.length_map]; rfl
  have hlc : ∀ x ∈ ls, 1 ≤ x ∧ x ≤ 26 := fun x hx => by
    rw [← hls] at hx
    obtain ⟨c, hc, rfl⟩ := List.mem_map.mp hx
    have := ch c hc
    omega
  have e : pre ++ encN z ++ rest = pre ++ (z.length : Int) :: (ls ++ rest) := by
    unfold encN
    rw [hls]
    simp
  have ea : at_ (pre ++ (z.length : Int) :: (ls ++ rest)) pre.length = z.length := at_app rfl
  have en : (at_ (pre ++ (z.length : Int) :: (ls ++ rest)) pre.length).toNat = z.length := by rw [ea]; simp
  have hb : badL (pre ++ (z.length : Int) :: (ls ++ rest)) (pre.length + 1) z.length = none := badL_none fun k hk => by
    obtain ⟨x, hx⟩ : ∃ x, ls[k]? = some x := ⟨_, List.getElem?_eq_getElem (by omega)⟩
    have hm := hlc x (List.mem_of_getElem? hx)
    have split : pre ++ (z.length : Int) :: (ls ++ rest) = (pre ++ (z.length : Int) :: ls.take k) ++ x :: (ls.drop (k + 1) ++ rest) := by
      have : ls = ls.take k ++ x :: ls.drop (k + 1) := by
        have lt := (List.getElem?_eq_some_iff.mp hx)
        obtain ⟨lt, e⟩ := lt
        rw [← e, ← List.drop_eq_getElem_cons lt, List.take_append_drop]
      conv => lhs; rw [this]
      simp
    rw [split]
    exact need_app (by simp; omega) hm.1 hm.2
  have hl : lets (pre ++ (z.length : Int) :: (ls ++ rest)) (pre.length + 1) z.length = ls := by
    unfold lets
    rw [show pre ++ (z.length : Int) :: (ls ++ rest) = (pre ++ [(z.length : Int)]) ++ (ls ++ rest) by simp, List.drop_append_of_le_length (by simp)]
    rw [show (pre ++ [(z.length : Int)]).drop (pre.length + 1) = [] by simp, List.nil_append, ← hll, List.take_left']
    rfl
  have hz : lname ls = z := by rw [← hls]; exact lname_back h
  rw [e]
  unfold rdName
  rw [if_pos (need_app rfl (by omega) (by omega)), en, hb]
  simp only
  rw [hl, hz]
theorem read_guest {pre rest : List Int} {x : Stay} {seen : List Str} (h : okStay x.1 x.2.1 x.2.2 = true) (hs : x.1 ∉ seen) : rdGuest (pre ++ encG x ++ rest) pre.length seen = .ok (x, pre.length + (encG x).length) := by
  have hn : okName x.1 = true := by
    unfold okStay at h
    simp only [Bool.and_eq_true] at h
    exact h.1
  have ht : 0 ≤ x.2.1 ∧ x.2.1 < x.2.2 ∧ x.2.2 ≤ 1000000000 := by
    unfold okStay okTick at h
    simp only [Bool.and_eq_true, decide_eq_true_eq] at h
    omega
  have e : pre ++ encG x ++ rest = pre ++ encN x.1 ++ ([x.2.1, x.2.2] ++ rest) := by
    unfold encG
    simp
  have el : (encN x.1).length = 1 + x.1.length := by
    unfold encN
    rw [List.length_cons, List.length_map]
    show x.1.cps.size + 1 = 1 + x.1.cps.size
    omega
  unfold rdGuest
  rw [e, read_name hn, if_neg hs]
  simp only
  have e1 : pre ++ encN x.1 ++ ([x.2.1, x.2.2] ++ rest) = (pre ++ encN x.1) ++ x.2.1 :: (x.2.2 :: rest) := by simp
  have e2 : pre ++ encN x.1 ++ ([x.2.1, x.2.2] ++ rest) = (pre ++ encN x.1 ++ [x.2.1]) ++ x.2.2 :: rest := by simp
  have p1 : pre.length + 1 + x.1.length = (pre ++ encN x.1).length := by rw [List.length_append, el]; omega
  have p2 : pre.length + 1 + x.1.length + 1 = (pre ++ encN x.1 ++ [x.2.1]).length := by rw [List.length_append, ← p1]; rfl
  have a1 : at_ (pre ++ encN x.1 ++ ([x.2.1, x.2.2] ++ rest)) (pre.length + 1 + x.1.length) = x.2.1 := by rw [e1]; exact at_app p1
  have a2 : at_ (pre ++ encN x.1 ++ ([x.2.1, x.2.2] ++ rest)) (pre.length + 1 + x.1.length + 1) = x.2.2 := by rw [e2]; exact at_app p2
  have n1 : need (pre ++ encN x.1 ++ ([x.2.1, x.2.2] ++ rest)) (pre.length + 1 + x.1.length) 0 1000000000 = true := by rw [e1]; exact need_app p1 (by omega) (by omega)
  have n2 : need (pre ++ encN x.1 ++ ([x.2.1, x.2.2] ++ rest)) (pre.length + 1 + x.1.length + 1) (x.2.1 + 1) 1000000000 = true := by rw [e2]; exact need_app p2 (by omega) (by omega)
  rw [a1, a2, if_pos n1, if_pos n2]
  have : (encG x).length = 1 + x.1.length + 2 := by
    unfold encG
    rw [List.length_append, el]
    rfl
  rw [this, show pre.length + (1 + x.1.length + 2) = pre.length + 1 + x.1.length + 2 by omega]
theorem read_guests {rest : List Int} : ∀ {xs acc : List Stay} {pre : List Int}, (∀ x ∈ xs, okStay x.1 x.2.1 x.2.2 = true) → (names (acc ++ xs)).Nodup → rdGuests (pre ++ encAll xs ++ rest) xs.length pre.length acc = .ok (acc ++ xs, pre.length + (encAll xs).length)
  | [], acc, pre, _, _ => by simp [rdGuests, encAll]
  | x :: xs, acc, pre, h, hn => by
    have hx : x.1 ∉ names acc := fun z => by
      unfold names at hn z
      rw [List.map_append, List.nodup_append] at hn
      exact hn.2.2 _ z _ (by simp) rfl
    have e : pre ++ encAll (x :: xs) ++ rest = pre ++ encG x ++ (encAll xs ++ rest) := by
      unfold encAll
      simp
    show rdGuests _ (xs.length + 1) _ _ = _
    unfold rdGuests
    rw [e, read_guest (h x List.mem_cons_self) hx]
    simp only
    have ih := read_guests (rest := rest) (xs := xs) (acc := acc ++ [x]) (pre := pre ++ encG x) (fun y hy => h y (List.mem_cons_of_mem _ hy)) (by simpa using hn)
    rw [show (pre ++ encG x).length = pre.length + (encG x).length by simp] at ih
    rw [show pre ++ encG x ++ (encAll xs ++ rest) = pre ++ encG x ++ encAll xs ++ rest by simp, ih]
    congr 2
    · simp
    · unfold encAll
      simp
      omega
theorem plain_len (xs : List Stay) : (plain xs).length = 2 + (encAll xs).length := by
  unfold plain
  simp
  omega
theorem read_plain {xs : List Stay} (h : ∀ x ∈ xs, okStay x.1 x.2.1 x.2.2 = true) (hn : (names xs).Nodup) (hl : xs.length ≤ 24) : rdCode (plain xs ++ [csum (plain xs)]) = .ok xs := by
  have e : plain xs ++ [csum (plain xs)] = [115, (xs.length : Int)] ++ encAll xs ++ [csum (plain xs)] := by
    unfold plain
    simp
  have n0 : need (plain xs ++ [csum (plain xs)]) 0 115 115 = true := by
    rw [e]
    exact need_app (pre := []) rfl (by omega) (by omega)
  have n1 : need (plain xs ++ [csum (plain xs)]) 1 0 24 = true := by
    rw [e]
    exact need_app (pre := [115]) rfl (by omega) (by omega)
  have a1 : at_ (plain xs ++ [csum (plain xs)]) 1 = xs.length := by
    rw [e]
    exact at_app (pre := [115]) rfl
  have g := read_guests (rest := [csum (plain xs)]) (xs := xs) (acc := []) (pre := [115, (xs.length : Int)]) h (by simpa using hn)
  rw [← e] at g
  have pl := plain_len xs
  have pos : [115, (xs.length : Int)].length + (encAll xs).length = (plain xs).length := by rw [pl]; rfl
  rw [pos] at g
  have two : [115, (xs.length : Int)].length = 2 := rfl
  rw [two] at g
  unfold rdCode
  rw [if_pos n0, if_pos n1, a1, show ((xs.length : Int)).toNat = xs.length by simp, g]
  simp only [List.nil_append]
  unfold rdEnd
  rw [List.take_left' rfl, if_pos (need_app rfl (Int.le_refl _) (Int.le_refl _)), if_neg (by simp)]
/-- a guest told twice -/
theorem read_twice {x : Stay} {s : Int} (h : okStay x.1 x.2.1 x.2.2 = true) : rdCode ([115, 2] ++ (encG x ++ encG x) ++ [s]) = .error (2 + (encG x).length) := by
  have hn : okName x.1 = true := by
    unfold okStay at h
    simp only [Bool.and_eq_true] at h
    exact h.1
  have n0 : need ([115, 2] ++ (encG x ++ encG x) ++ [s]) 0 115 115 = true := need_app (pre := []) rfl (by omega) (by omega)
  have n1 : need ([115, 2] ++ (encG x ++ encG x) ++ [s]) 1 0 24 = true := need_app (pre := [115]) rfl (by omega) (by omega)
  have a1 : at_ ([115, 2] ++ (encG x ++ encG x) ++ [s]) 1 = 2 := at_app (pre := [115]) rfl
  have e1 : [115, 2] ++ (encG x ++ encG x) ++ [s] = [115, 2] ++ encG x ++ (encG x ++ [s]) := by simp
  have e2 : [115, 2] ++ (encG x ++ encG x) ++ [s] = ([115, 2] ++ encG x) ++ encN x.1 ++ ([x.2.1, x.2.2] ++ [s]) := by
    have : encG x = encN x.1 ++ [x.2.1, x.2.2] := rfl
    conv => lhs; rw [this]
    rw [this]
    simp
  have g1 := read_guest (pre := [115, 2]) (rest := encG x ++ [s]) (seen := names []) h (by simp [names])
  rw [← e1] at g1
  have g2 := read_name (pre := [115, 2] ++ encG x) (rest := [x.2.1, x.2.2] ++ [s]) (seen := names ([] ++ [x])) hn
  have el : ([115, 2] ++ encG x).length = 2 + (encG x).length := by
    rw [List.length_append]
    rfl
  rw [← e2, if_pos (by simp [names]), el] at g2
  unfold rdCode
  rw [if_pos n0, if_pos n1, a1]
  show (match rdGuests _ 2 2 [] with | .error j => _ | .ok (xs, i) => _) = _
  unfold rdGuests
  rw [show (2 : Nat) = ([115, 2] : List Int).length from rfl] 
  rw [g1]
  simp only
  unfold rdGuests rdGuest
  rw [show ([115, 2] : List Int).length = 2 from rfl, g2]
end Sh1
set_option Elab.async false
set_option linter.all false
/-! What is asked of an own error class without an own __init__. -/
namespace Sho
open PySem L2
structure ErrO (K : PySem.W.Frag) (mg : Str → Option Value) (x : Str) (C : Addr) : Prop where
  ex : PySem.W.excIn K C [.type "ValueError", .type "Exception", .type "BaseException", .type "object"] "ValueError.__new__" = true
  gm : mg x = some (.ref C)
  kp : PySem.W.keepIn K (.ref C) = true
  be : PySem.W.subIn K (.ref C) (.type "BaseException") = some true
  ty : PySem.W.typeIn K (.ref C) = some (.type "type")
  exm : PySem.W.exmOne K (.ref C) (.ref C) = some true
theorem cat_le {a b : Str} {n m : Nat} (ha : a.length ≤ n) (hb : b.length ≤ m) : (a ++ b).length ≤ n + m := by
  rw [PySem.Str.length_append]
  omega
end Sho
set_option Elab.async false
set_option linter.all false
set_option maxRecDepth 100000
set_option maxHeartbeats 2000000
/-! A list comprehension whose element may raise: the exception goes on in the def's own air. -/
namespace Sho
open PySem PySem.Spec PyProof.Rows L2
/-- how the block ends: the frame that its exception goes on from is fr -/
def EndsE (M : Model) (A : Around) (E : Value → Shared → Prop) (use : Option (Value → Sem Unit)) (Q : Value → Shared → Prop) (acc : Value) (C : Addr) (fr : Option Addr) : Result → Shared → Prop
  | .ok _, t => match use with
    | none => ∃ m, t.heap.Ns C m ∧ ∀ g, Heap.SameBut C t.heap g → Q acc { t with heap := g }
    | some put => wpAny M A (put acc) (fun _ t' => ∃ m, t'.heap.Ns C m ∧ ∀ g, Heap.SameBut C t'.heap g → Q .none { t' with heap := g }) E t
  | .error x, t => ∃ m, t.heap.Ns C m ∧ ∀ g, Heap.SameBut C t.heap g → ∀ en : Env, en.locals = C → en.frame = fr → wpAny M A (passOn "comprehension.variables-let-go" x en : Sem Value) (fun _ _ => False) E { t with heap := g }
theorem comp_ends {M : Model} {A : Around} {E : Value → Shared → Prop} {env : Env} {s : Shared} {e : Expr} {scope : Scope} {pos : Pos} {mk first : Sem Value} {g : Comprehension} {gs : List Comprehension} {cl : List (Str × Addr)} {use : Option (Value → Sem Unit)} {Q : Value → Shared → Prop}
    (e1 : clausesOf e = g :: gs) (e2 : ∀ x, foldedSetIterable g.iter env x = pure x) (e3 : closureFor scope env = pure cl) (e4 : scope.kind = .function) (e5 : ∀ y ∈ scope.names, y.2 = .local → scope.names.lookup y.1 = some .local)
    (h : wpAny M A first (fun x t1 => wpAny M A (pyIter x) (fun it t2 => wpAny M A mk (fun acc t3 => wpAny M A (newFunctionEnv scope env.globals cl [] env.qual none .none (some env)) (fun en t4 =>
      codeAny M A (.compStart e 0 it acc { en with scope := relabel scope env }) (EndsE M A E use Q acc en.locals en.frame) t4) E t3) E t2) E t1) E s) : wpAny M A (comprehension e scope env pos mk false first use) Q E s := by
  unfold comprehension
  rw [e3, e1]
  have pass : ∀ {α : Type} {m : Sem α} {R R' : α → Shared → Prop} {t : Shared}, wpAny M A m R E t → (∀ a t', R a t' → R' a t') → wpAny M A m R' E t := fun k q => wpAny_mono k q fun _ _ z => z
  refine wpAny_bind (pass h fun x t1 h1 => ?_)
  refine wpAny_bind (wpAny_standAt (wpAny_bind (wpAny_of_eq (e2 x) ?_)))
  refine wpAny_bind (wpAny_holding (pass h1 fun it t2 h2 => ?_))
  refine wpAny_standIf (wpAny_bind (pass h2 fun acc t3 h3 => ?_))
  refine wpAny_bind (wpAny_pure (wpAny_bind (pass h3 fun en t4 h4 => ?_)))
  dsimp only
  have kinds : ∀ y ∈ (scope.names.filter fun z => (z.2 == .local || z.2 == .cell) && z.1 != (".0" : Str)).reverse, y.2 = .local → Env.kindOf { en with scope := relabel scope env } y.1 = some .local := fun y hy l =>
    lookup_relabel_local (e5 y (List.mem_filter.mp (List.mem_reverse.mp hy)).1 l)
  refine wpAny_holding (wpAny_bind (wpAny_attempt (wpAny_holding (wpAny_run (codeAny_mono h4 fun r t5 hr => ?_)))))
  cases r with
  | ok f =>
    cases use with
    | none =>
      obtain ⟨m, ns, k⟩ := hr
      refine wpAny_bind (wpAny_holding (wpAny_comp_letGo (cenv := { en with scope := relabel scope env }) e4 _ t5 m kinds ns fun h' _ _ sb => ?_))
      exact wpAny_pure (k h' sb)
    | some put =>
      have rot : ∀ y ∈ (scope.names.filter fun z => (z.2 == .local || z.2 == .cell) && z.1 != (".0" : Str)).reverse.drop 1 ++ (scope.names.filter fun z => (z.2 == .local || z.2 == .cell) && z.1 != (".0" : Str)).reverse.take 1, y.2 = .local → Env.kindOf { en with scope := relabel scope env } y.1 = some .local := fun y hy l =>
        (List.mem_append.mp hy).elim (fun q => kinds y (List.mem_of_mem_drop q) l) fun q => kinds y (List.mem_of_mem_take q) l
      refine wpAny_bind (wpAny_rule (wpAny_bind (wpAny_holding (pass hr fun _ t6 z => ?_))))
      obtain ⟨m, ns, k⟩ := z
      refine wpAny_bind (wpAny_comp_letGo (cenv := { en with scope := relabel scope env }) e4 _ t6 m rot ns fun h' _ _ sb => ?_)
      exact wpAny_pure (k h' sb)
  | error x =>
    obtain ⟨m, ns, k⟩ := hr
    refine wpAny_bind (wpAny_holding (wpAny_comp_letGo (cenv := { en with scope := relabel scope env }) e4 _ t5 m kinds ns fun h' _ _ sb => ?_))
    exact wpAny_mono (k h' sb _ rfl rfl) (fun _ _ z => z.elim) fun _ _ z => z
theorem note_eq {x : Value} {a b : Env} (h : a.frame = b.frame) : noteFrame x a = noteFrame x b := by
  unfold noteFrame PySem.frameOf
  rw [h]
section
variable {X : Cx} {scope : Scope} {fp : List Addr} {own : List (Str × Nat)}
/-- the block's context, its exceptions taken -/
abbrev blkX (X : Cx) (s : Shared) (H : Hp) (scope : Scope) (en : Env) (fp : List Addr) (xe : Value → Shared → Prop) : Cx := { X.blk s H scope en fp with xe := xe }
theorem ok_ofX {s : Shared} {H : Hp} {en : Env} {xe : Value → Shared → Prop} (k : (blkX X s H scope en fp xe).Ok) : (X.blk s H scope en fp).Ok :=
  ⟨k.mod, k.kind, k.glob, k.blt, k.above, k.inj, k.has, k.cab, k.hd, k.frames, k.stk, k.exf, k.bs, k.bsz, k.noex, k.exfs, k.funs, k.frf⟩
theorem ok_toX {s : Shared} {H : Hp} {en : Env} {xe : Value → Shared → Prop} (k : (X.blk s H scope en fp).Ok) : (blkX X s H scope en fp xe).Ok :=
  ⟨k.mod, k.kind, k.glob, k.blt, k.above, k.inj, k.has, k.cab, k.hd, k.frames, k.stk, k.exf, k.bs, k.bsz, k.noex, k.exfs, k.funs, k.frf⟩
theorem inv_ofX {s t : Shared} {H H' : Hp} {en : Env} {xe : Value → Shared → Prop} {pins : List (Addr × Obj)} {σ : L2.St} (I : Inv (blkX X s H scope en fp xe) pins σ H' t) : Inv (X.blk s H scope en fp) [] σ H' t :=
  ⟨ok_ofX I.ok, I.os, I.bare, I.base, I.loc, I.cell, I.free, I.freeC, (fun p hp => absurd hp (List.not_mem_nil)), I.hok, I.len⟩
theorem inv_toX {s t : Shared} {H H' : Hp} {en : Env} {xe : Value → Shared → Prop} {pins : List (Addr × Obj)} {σ : L2.St} (I : Inv (X.blk s H scope en fp) pins σ H' t) : Inv (blkX X s H scope en fp xe) pins σ H' t :=
  ⟨ok_toX I.ok, I.os, I.bare, I.base, I.loc, I.cell, I.free, I.freeC, I.pin, I.hok, I.len⟩
/-- noted by another frame than the one of its flight, or by the first at all -/
theorem looks_held {M : Model} {A : Around} {E : Value → Shared → Prop} {s : Shared} {env : Env} {outer : List Env} {L C a : Addr} {Z : Obj → Prop} {B : Heap} {Q : Unit → Shared → Prop} (hZ : HandSPX.Steady Z) (hfr : A.frames = some (env :: outer)) (hf : env.frame = some L) (ne : C ≠ L)
    (x : HandSPX.HeldZ B (env :: outer) a Z C s.heap) (k : ∀ g, HandSPX.HeldZ B (env :: outer) a Z L g → s.heap.UpToSlots g → Q () { s with heap := g }) : wpAny M A (noteFrame (.ref a) env) Q E s := by
  obtain ⟨st, bn, ff, oe, vs, T, oT, ts, ha, hz, hd, v1, bT, Ta, hT, dT, t3⟩ := x
  unfold noteFrame
  simp only [hf]
  refine wpAny_bind (wpAny_field ha hd v1 ?_)
  rw [if_pos (show (Value.ref T != Value.none) = true from by simp)]
  refine wpAny_bind (wpAny_field hT dT t3 ?_)
  have no : ¬ ((rawInt C == rawInt L) = true) := fun z => by
    have e : (C : Int) = (L : Int) := by simpa [rawInt] using z
    exact ne (Int.ofNat.inj e)
  rw [if_neg no]
  refine wpAny_bind (wpAny_setField hT dT (Array.getElem?_eq_some_iff.mp t3).1 ?_)
  have oth : ∀ b, b ≠ T → (s.heap.update T (Obj.mapFields (·.setIfInBounds 3 Value.none))).get? b = s.heap.get? b := fun b hb => Heap.get?_update_other _ _ fun z => hb z.symm
  have rec_ : ∀ b o, s.heap.get? b = some o → (∀ ws, o.data ≠ .fields ws) → b ≠ T := fun b o e n z => by
    rw [z, hT] at e
    cases e
    exact n ts dT
  have st' : B.StaysIn (s.heap.update T (Obj.mapFields (·.setIfInBounds 3 Value.none))) := fun b o e => (oth b fun z => by rw [z, bT] at e; cases e).trans (st b o e)
  refine HandSPX.wpAny_entryZ hZ hfr (ff.of_keeps fun b o e n => ⟨o, (oth b (rec_ b o e n)).trans e, rfl⟩) hf ((oth a fun z => Ta z.symm).trans ha) st' bn hd (Array.getElem?_eq_some_iff.mp v1).1 hz fun g y => ?_
  obtain ⟨y1, y2, y3, y4⟩ := y
  exact k g ⟨y1, bn, y2, y3⟩ fun b o e n => y4 b o ((oth b (rec_ b o e n)).trans e) n
/-- an exception of a call within the block goes on in the def's air -/
theorem block_err {pins pinsB : List (Addr × Obj)} {σ σB : L2.St} {H Hb : Hp} {s sb s' : Shared} {E : XK} {xe : Value → Shared → Prop} {use : Option (Value → Sem Unit)} {Q : Value → Shared → Prop} {acc e : Value} (I : Inv X pins σ H s) (hfp : ∀ b ∈ fp, FpOk X pins H b) (hs : X.stack = X.env :: X.outer) (hf : X.env.frame = some X.env.locals)
    (tk : L2.Takes X fun cls d _ H' => E cls d H') (J : Inv (blkX X s H scope (blkEnv X scope s) fp xe) pinsB σB Hb sb) (c : L2.CX X.prog X.w X.stack Hb sb E e s') :
    notedBy (model X.prog X.w) X.A (blkEnv X scope s) (fun e' t => EndsE (model X.prog X.w) X.A X.xe use Q acc s.heap.objs.size X.env.frame (.error e') t) e s' := by
  obtain ⟨a, B, sI, pI, σI, H', cls, d, rfl, JI, nb, up, sky, na, os, ag, w⟩ := L2.XE.of_call (X := blkX X s H scope (blkEnv X scope s) fp xe) (W := fun cls d _ H' => E cls d H') J (fun _ _ _ z => z) c
  have hfr : X.A.frames = some (X.env :: X.outer) := by rw [I.ok.frames, hs]
  have Z0 : HandSPX.Steady (Zc cls d) := Zc.steady
  have IB := inv_ofX JI
  obtain ⟨IX, m0, ns0, fC⟩ := blk_out I hfp IB
  have CL : s.heap.objs.size ≠ X.env.locals := fC.2.1
  -- noted
  have noted : ∀ g, HandSPX.HeldZ B (X.env :: X.outer) a (Zc cls d) X.env.locals g → s'.heap.UpToSlots g → EndsE (model X.prog X.w) X.A X.xe use Q acc s.heap.objs.size X.env.frame (.error (.ref a)) { s' with heap := g } := fun g hh up1 => by
    have J1 : Inv (blkX X s H scope (blkEnv X scope s) fp xe) pI σI H' { s' with heap := g } := JI.landed nb hh.1 (up.trans up1) os ag
    obtain ⟨_, m1, ns1, _⟩ := blk_out I hfp (inv_ofX J1)
    refine ⟨m1, ns1, fun g2 sb en _ hen => ?_⟩
    obtain ⟨oC, _, _, eC, dC, _⟩ := ns1
    have eC : g.get? s.heap.objs.size = some oC := eC
    obtain ⟨st, bn, ff, oe, vs, T, oT, ts, ha, hz, hd, v1, bT, Ta, hT, dT, t3⟩ := hh
    have aC : a ≠ s.heap.objs.size := fun z => by
      rw [z, eC] at ha
      cases ha
      rw [dC] at hd
      cases hd
    have TC : T ≠ s.heap.objs.size := fun z => by
      rw [z, eC] at hT
      cases hT
      rw [dC] at dT
      cases dT
    have sb2 : ∀ b, b ≠ s.heap.objs.size → g2.get? b = g.get? b := sb.2
    obtain ⟨G, g1, g0⟩ := L2.restrict B fun b => !decide (b = s.heap.objs.size)
    have gB : ∀ b o, G.get? b = some o → b ≠ s.heap.objs.size ∧ B.get? b = some o := fun b o e => by
      by_cases hb : b = s.heap.objs.size
      · rw [g0 b (by simp [hb])] at e
        cases e
      · exact ⟨hb, by rw [← g1 b (by simp [hb])]; exact e⟩
    have gN : ∀ b, B.get? b = none → G.get? b = none := fun b e => by
      by_cases hb : b = s.heap.objs.size
      · exact g0 b (by simp [hb])
      · rw [g1 b (by simp [hb])]
        exact e
    obtain ⟨h0, h1, h2⟩ := L2.restrict sI.heap fun b => !decide (b = s.heap.objs.size)
    have hI : ∀ b o, h0.get? b = some o → b ≠ s.heap.objs.size ∧ sI.heap.get? b = some o := fun b o e => by
      by_cases hb : b = s.heap.objs.size
      · rw [h2 b (by simp [hb])] at e
        cases e
      · exact ⟨hb, by rw [← h1 b (by simp [hb])]; exact e⟩
    have frC : ∀ b ∈ frs (X.env :: X.outer), b ≠ s.heap.objs.size := fun b hb z => by
      rcases List.mem_cons.mp (I.stkSub b (by rw [hs]; exact hb)) with q | q
      · exact CL (z ▸ q)
      · exact fC.2.2.1 (z ▸ q)
    have ffG : g2.FunFrames G (X.env :: X.outer) := by
      have base : g.FunFrames G (X.env :: X.outer) := L2.funFrames_none ff fun b hb => gN b (ff.mem hb).1
      have go : ∀ (l : List Env), (∀ b ∈ frs l, b ≠ s.heap.objs.size) → g.FunFrames G l → g2.FunFrames G l := by
        intro l
        induction l with
        | nil => exact fun _ _ => trivial
        | cons en l ih =>
          rintro hn ⟨k1, ⟨L, o, k2, k3, k4, k5⟩, k6⟩
          refine ⟨k1, ⟨L, o, k2, k3, (sb2 L (hn L (List.mem_filterMap.mpr ⟨en, List.mem_cons_self, k2⟩))).trans k4, k5⟩, ih (fun b hb => hn b ?_) k6⟩
          obtain ⟨e', he', q⟩ := List.mem_filterMap.mp hb
          exact List.mem_filterMap.mpr ⟨e', List.mem_cons_of_mem _ he', q⟩
      exact go _ frC base
    have held : HandSPX.HeldZ G (X.env :: X.outer) a (Zc cls d) X.env.locals g2 := ⟨fun b o e => (sb2 b (gB b o e).1).trans (st b o (gB b o e).2), gN a bn, ffG, oe, vs, T, oT, ts, (sb2 a aC).trans ha, hz, hd, v1, gN T bT, Ta, (sb2 T TC).trans hT, dT, t3⟩
    unfold PySem.passOn
    refine wpAny_bind (wpAny_field ((sb2 a aC).trans ha) hd v1 ?_)
    rw [if_neg (show ¬ ((Value.ref T == Value.none) = true) from by simp)]
    have fin : wpAny (model X.prog X.w) X.A (setFlight (.ref a) en.frame) (fun _ t => wpAny (model X.prog X.w) X.A (throw (.ref a) : Sem Value) (fun _ _ => False) X.xe t) X.xe { s' with heap := g2 } := by
      rw [hen, hf]
      refine HandSPX.setFlight_onZ held fun g3 held3 up3 => wpAny_throw (tk _ _ ?_)
      refine ⟨a, G, { sI with heap := h0, toks := sI.toks }, pins, σ, H', cls, d, rfl, IX.turned (fun b o hb e => by rw [h1 b (by simp [hb])]; exact e) fC.1 fC.2.1 fC.2.2.2.1 fC.2.2.2.2.1 fC.2.2.2.2.2, fun b o e hb => ?_, fun b o e n => ?_, .inr (.inr (by rw [hs]; exact held3)), na, os, ag, w⟩
      · rw [g1 b (by simp [(hI b o e).1])]
        exact nb b o (hI b o e).2 hb
      · obtain ⟨bC, e1⟩ := hI b o e
        obtain ⟨sl1, e2⟩ := (up.trans up1) b o e1 n
        obtain ⟨sl2, e3⟩ := up3 b { o with slots := sl1 } ((sb2 b bC).trans e2) n
        exact ⟨sl2, e3⟩
    first
      | exact wpAny_bind (wpAny_pure (wpAny_bind fin))
      | exact wpAny_bind fin
  unfold notedBy
  rw [note_eq (show (blkEnv X scope s).frame = X.env.frame from rfl)]
  have sky' : Sky B (X.env :: X.outer) a (Zc cls d) s.heap.objs.size s'.heap := by
    rw [← hs]
    exact sky
  rcases sky' with ⟨st, bn, ff, oe, vs, ha, hz, hd, v1⟩ | fl | hh
  · exact HandSPX.look_newZ Z0 hfr ff hf ha st bn hd v1 hz noted
  · exact HandSPX.looks_onZ Z0 hfr hf fl noted
  · exact looks_held Z0 hfr hf CL hh noted
/-- the block's loop, its exceptions noted -/
theorem lc_loopE {B : Cx} {R : Result → Shared → Prop} {elt tg iter : Expr} {ifs : List Expr} {pos : Pos} {g : TG} {tt : TT} {te : TE} {J : It} {it D : Addr} {tn : Nat → Heap → Prop} {W : Nat → Nat → Hp → Prop} {σ : L2.St} {vs : List Nat}
    (hc : B.calm = true) (hxe : B.xe = notedBy (model B.prog B.w) B.A B.env fun e t => R (.error e) t) (T : Turn B.prog B.w B.K tg J fp it tn) (pg : PG B tg g) (pt : PTs B ifs tt) (pe : PE B elt te)
    (fpok : ∀ (τ : L2.St) (H : Hp) (s : Shared), Inv B [] τ H s → (∀ b ∈ fp, H b = none) → ∀ b ∈ fp, FpOk B [] H b)
    (turn : ∀ (i m : Nat) (H : Hp), W i m H → (J.stop i H ∧ ∀ s, Inv B [] σ H s → R (.ok .next) s) ∨
      (J.go i H ∧ ∃ Nx : Hp → Prop, (∀ H', Nx H' → ∃ m', m' < m ∧ W (i + 1) m' H') ∧ ∀ x H', J.yld i H x H' → g x σ H' fun σ2 H2 => wipe σ2 vs = σ ∧ tt σ2 H2 fun b H3 =>
        if b = true then te σ2 H3 fun y H4 => ∃ acc, H4 D = some (.lst acc) ∧ acc.length < sizeLine ∧ Nx (upd H4 D (.lst (acc ++ [y]))) else Nx H3))
    {m : Nat} {H : Hp} {s : Shared} (I : Inv B [] σ H s) (st : tn 0 s.heap) (hn : ∀ b ∈ fp, H b = none) (w : W 0 m H) :
    codeAny (model B.prog B.w) B.A (.compLoop (.ListComp elt [⟨tg, iter, ifs, 0⟩] scope pos) 0 (.ref it) (.ref D) B.env) R s := by
  refine compLoop_any (fun n t => ∃ i H', Inv B [] σ H' t ∧ tn i t.heap ∧ (∀ b ∈ fp, H' b = none) ∧ W i n H') ?_ m ⟨0, H, I, st, hn, w⟩
  rintro n s5 ⟨i, H5, I5, st5, n5, w5⟩
  rw [← hxe]
  have ok5 := fpok _ _ _ I5 n5
  rcases turn i n H5 w5 with ⟨stop, fin⟩ | ⟨go, Nx, less, step⟩
  · refine thnF (T.done B rfl rfl rfl hc i [] s5 σ H5 (fun _ _ => False) I5 ok5 st5 stop) fun r s6 x => ?_
    obtain ⟨rfl, I6⟩ := x
    exact fin _ I6
  · refine thnF (T.item B rfl rfl rfl hc i [] s5 σ H5 (fun _ _ => False) I5 ok5 st5 go) fun r s6 x => ?_
    obtain ⟨u, rfl, x⟩ := x
    refine thnF x fun _ s7 y => ?_
    obtain ⟨v, H7, I7, rv, yl, st7, n7⟩ := y
    have P7 := I7.pinned (fpok _ _ _ I7 n7) (T.obj _ _ st7)
    refine thn (pg.run _ s7 σ H7 v u _ P7 rv (step v H7 yl)) fun _ s8 x8 => ?_
    obtain ⟨σ8, H8, I8, back, q8⟩ := x8
    refine thn (pt.run _ s8 σ8 H8 _ I8 q8) fun b s9 x9 => ?_
    obtain ⟨H9, I9, q9⟩ := x9
    have lens : σ.length = σ8.length := by rw [← back, wipe_length]
    have next : ∀ (H' : Hp) (t : Shared), Inv B ([] ++ pinsAt fp s7.heap) σ8 H' t → Nx H' → ∃ m, m < n ∧ ∃ i H', Inv B [] σ H' t ∧ tn i t.heap ∧ (∀ b ∈ fp, H' b = none) ∧ W i m H' := fun H' t I' nx => by
      obtain ⟨m', lt, w'⟩ := less H' nx
      have stay : ∀ b ∈ fp, ∀ o, s7.heap.get? b = some o → t.heap.get? b = some o ∧ H' b = none := fun b hb o e => by
        obtain ⟨z1, z2, _⟩ := I'.pin (b, o) (List.mem_append_right _ (List.mem_append_right _ (mem_pinsAt hb e)))
        exact ⟨z1, z2⟩
      refine ⟨m', lt, i + 1, H', (I'.unpinned (pins := [])).weak lens (fun j v e => ?_), T.keep _ _ _ st7 fun b hb o e => (stay b hb o e).1, fun b hb => ?_, w'⟩
      · rw [← back] at e
        exact (wipe_some e).1
      · obtain ⟨o, e, _⟩ := T.obj _ _ st7 b hb
        exact (stay b hb o e).2
    cases b with
    | false =>
      rw [if_neg Bool.false_ne_true] at q9 ⊢
      exact next _ _ I9 q9
    | true =>
      rw [if_pos rfl] at q9 ⊢
      refine thn (pe.run _ s9 σ8 H9 _ I9 q9) fun z s10 x10 => ?_
      obtain ⟨yv, H10, I10, r10, acc, hD, hz, nx⟩ := x10
      exact app_ok (X := B) I10 hD hz r10 fun s11 I11 => next _ _ I11 nx
/-- what the parts of a block may rest on: whatever the block's air, an error that the def lets out passes -/
abbrev Parts (X : Cx) (scope : Scope) (E : XK) (G : Cx → Prop) : Prop := ∀ (s : Shared) (H : Hp) (C : Addr) (cl : List (Str × Addr)) (fp : List Addr) (xe : Value → Shared → Prop),
  Passes (L2.CX X.prog X.w) (blkX X s H scope (compEnvC scope cl C X.env) fp xe) E → G (blkX X s H scope (compEnvC scope cl C X.env) fp xe)
theorem lcE_core {E : XK} {elt tg iter : Expr} {ifs : List Expr} {pos pos' : Pos} {wi : TI} {g : TG} {tt : TT} {te : TE} {use : Option (Value → Sem Unit)} {Qf : Value → Shared → Prop} {pins : List (Addr × Obj)} {σ : L2.St} {H : Hp} {s : Shared} {Q : VK} (I : Inv X pins σ H s) (hc : X.calm = true) (hN : X.N.Nodup) (hs : X.stack = X.env :: X.outer) (hf : X.env.frame = some X.env.locals) (tk : L2.Takes X fun cls d _ H' => E cls d H')
    (hi : PI X tg iter wi) (ok : BlkOk X.N X.env.scope scope own) (hg : Parts X scope E fun B => PG B tg g) (ht : Parts X scope E fun B => PTs B ifs tt) (he : Parts X scope E fun B => PE B elt te) (hq : ∀ x, foldedSetIterable iter X.env x = pure x) (h : tLc wi g tt te (own.map (·.2)) σ H Q)
    (fin : ∀ (D C : Addr) (t : Shared) (m : Str → Option Value) (H' : Hp), Inv X pins σ H' t → Q (.ref D) H' → t.heap.Ns C m → FpOk X pins H' C → EndsE (model X.prog X.w) X.A X.xe use Qf (.ref D) C X.env.frame (.ok .next) t) :
    wpAny (model X.prog X.w) X.A (comprehension (.ListComp elt [⟨tg, iter, ifs, 0⟩] scope pos) scope X.env pos' (newList []) false (eval iter X.env) use) Qf X.xe s := by
  have clo : ∀ y ∈ scope.names, y.2 = .free → ∃ c, X.env.cells.lookup y.1 = some c := fun y hy e => (ok.free y hy e).elim (fun k => I.ok.has _ (.inl k)) fun k => I.ok.has _ (.inr k)
  refine comp_ends rfl hq (closure_ok clo) ok.kind (fun y hy e => (ok.uniq y hy).trans (congrArg some e)) (thn (hi.run pins s σ H _ I h) fun xv s1 hx => thn hx fun itv s2 h2 => ?_)
  obtain ⟨it, fp, tn, J, H2, rfl, I2, T, st2, f2, q⟩ := h2
  refine wpAny_newObj_type (newEnv_comp ?_) (show 0 ≤ sizeLine by decide)
  have hDn : H2 s2.heap.objs.size = none := I2.hok.fresh (Nat.le_refl _)
  obtain ⟨W, ⟨m0, w0⟩, turn⟩ := q _ hDn
  have I3 := grow I2
  have old : ∀ b ∈ fp, b < s2.heap.objs.size := fun b hb => (T.obj _ _ st2 b hb).elim fun o e => Heap.lt_size e.1
  generalize hD : s2.heap.objs.size = D at *
  generalize hs3 : ({ s2 with heap := s2.heap.push { cls := .type "list", data := .seq ([] : List Value).toArray } } : Shared) = s3 at *
  have k3 : ∀ b o, s2.heap.get? b = some o → s3.heap.get? b = some o := fun b o e => by
    rw [← hs3]
    exact Heap.get?_push_of_some _ e
  have z3 : s3.heap.objs.size = D + 1 := by
    rw [← hs3, ← hD]
    exact Heap.size_push ..
  have st3 : tn 0 s3.heap := T.keep _ _ _ st2 fun b _ o e => k3 b o e
  have f3 : ∀ b ∈ fp, FpOk X pins (upd H2 D (.lst [])) b ∧ b < s3.heap.objs.size := fun b hb =>
    ⟨⟨(upd_ne (Nat.ne_of_lt (old b hb))).trans (f2 b hb).1, (f2 b hb).2⟩, by rw [z3]; exact Nat.lt_succ_of_lt (old b hb)⟩
  generalize hH3 : upd H2 D (.lst []) = H3 at *
  let cl3 := cellsFrom (s3.heap.objs.size + 1) scope.names (cloFrom X.env.cells scope.names [])
  let RR := EndsE (model X.prog X.w) X.A X.xe use Qf (.ref D) s3.heap.objs.size X.env.frame
  let xe3 := notedBy (model X.prog X.w) X.A (blkEnv X scope s3) fun e t => RR (.error e) t
  have I4 : Inv (blkX X s3 H3 scope (blkEnv X scope s3) fp xe3) [] _ H3 _ := inv_toX (block_start I3 ok hN f3)
  have pass : Passes (L2.CX X.prog X.w) (blkX X s3 H3 scope (blkEnv X scope s3) fp xe3) E := fun pB σB Hb sb e s' JB c => block_err I3 (fun b hb => (f3 b hb).1) hs hf tk JB c
  have pe := he s3 H3 s3.heap.objs.size cl3 fp xe3 pass
  have pg := hg s3 H3 s3.heap.objs.size cl3 fp xe3 pass
  have pt := ht s3 H3 s3.heap.objs.size cl3 fp xe3 pass
  show codeAny _ _ (.compStart (.ListComp elt [⟨tg, iter, ifs, 0⟩] scope pos) 0 (.ref it) (.ref D) (blkEnv X scope s3)) RR (blkS scope s3)
  have st4 : tn 0 (blkS scope s3).heap := T.keep _ _ _ st3 fun b _ o e => pushCells_keeps _ _ _ _ (Heap.get?_push_of_some _ e)
  have loop : codeAny (model X.prog X.w) X.A (.compLoop (.ListComp elt [⟨tg, iter, ifs, 0⟩] scope pos) 0 (.ref it) (.ref D) (blkEnv X scope s3)) RR (blkS scope s3) := by
    refine lc_loopE (B := blkX X s3 H3 scope (blkEnv X scope s3) fp xe3) (R := RR) (σ := wipe σ (own.map (·.2))) (vs := own.map (·.2)) (W := W) hc rfl T pg pt pe (fun τ H' t J' n' b hb => ?_) (fun i m H' w' => ?_) I4 st4 (fun b hb => (f3 b hb).1.1) w0
    · refine ⟨n' b hb, (J'.ok.exf b hb).1, J'.ok.exfs b hb, .inl hb, fun x c e => (J'.ok.exf b hb).2 x c e, fun p hp => ?_⟩
      exact absurd (show p ∈ ([] : List (Addr × Obj)) ++ [] from hp) (by simp)
    · rcases turn i m H' w' with ⟨a, b⟩ | ⟨a, Nx, b, c⟩
      · refine .inl ⟨a, fun t J' => ?_⟩
        obtain ⟨I6, m6, ns6, f6⟩ := blk_out I3 (fun b hb => (f3 b hb).1) (inv_ofX J')
        exact fin D _ t m6 H' I6 b ns6 f6
      · exact .inr ⟨a, Nx, b, c⟩
  exact codeAny_compStart_list loop (T.self X.A 0 _ _ _ st4 loop)
/-- its element may raise -/
theorem pe_lcE {E : XK} {elt tg iter : Expr} {ifs : List Expr} {pos : Pos} {wi : TI} {g : TG} {tt : TT} {te : TE} (hc : X.calm = true) (hN : X.N.Nodup) (hs : X.stack = X.env :: X.outer) (hf : X.env.frame = some X.env.locals) (tk : L2.Takes X fun cls d _ H' => E cls d H')
    (hi : PI X tg iter wi) (ok : BlkOk X.N X.env.scope scope own) (hg : Parts X scope E fun B => PG B tg g) (ht : Parts X scope E fun B => PTs B ifs tt) (he : Parts X scope E fun B => PE B elt te) (hq : ∀ x, foldedSetIterable iter X.env x = pure x := by intro _; rfl) :
    PE X (.ListComp elt [⟨tg, iter, ifs, 0⟩] scope pos) (tLc wi g tt te (own.map (·.2))) := by
  refine ⟨fun pins s σ H Q I h => ?_⟩
  rw [eval_ListComp]
  refine lcE_core I hc hN hs hf tk hi ok hg ht he hq h fun D C t m H' I' q ns f => ?_
  obtain ⟨f0, f1, _, f3, f4, f5⟩ := f
  exact ⟨m, ns, fun g6 sb => ⟨.ref D, H', I'.turned (t' := t.toks) (fun b o hb e => (sb.2 b hb).trans e) f0 f1 f3 f4 f5, rfl, q⟩⟩
/-- stored at once -/
theorem ps_setLcE {E : XK} {i : Nat} {y : Str} {py : Pos} {elt tg iter : Expr} {ifs : List Expr} {pos spos : Pos} {wi : TI} {g : TG} {tt : TT} {te : TE} (hc : X.calm = true) (hN : X.N.Nodup) (hs : X.stack = X.env :: X.outer) (hf : X.env.frame = some X.env.locals) (tk : L2.Takes X fun cls d _ H' => E cls d H')
    (hy : X.N[i]? = some y) (hyl : X.env.scope.names.lookup y = some .local) (hsw : swapsWith (.ListComp elt [⟨tg, iter, ifs, 0⟩] scope pos) (some (.Name y py)) spos.line X.env = pure true)
    (hi : PI X tg iter wi) (ok : BlkOk X.N X.env.scope scope own) (hg : Parts X scope E fun B => PG B tg g) (ht : Parts X scope E fun B => PTs B ifs tt) (he : Parts X scope E fun B => PE B elt te) (hq : ∀ x, foldedSetIterable iter X.env x = pure x := by intro _; rfl) :
    PS X (.Assign [.Name y py] (.ListComp elt [⟨tg, iter, ifs, 0⟩] scope pos) spos) (tAsg (tLc wi g tt te (own.map (·.2))) (gName i)) := by
  refine ⟨fun pins s σ H D I h => ?_⟩
  rw [exec_Assign_Name_used _ _ _ _ hsw]
  refine wpAny_bind (wpAny_standAt (wpAny_bind ?_))
  show wpAny _ X.A (do let _ ← comprehension (.ListComp elt [⟨tg, iter, ifs, 0⟩] scope pos) scope X.env (firstIterPos [⟨tg, iter, ifs, 0⟩] pos) (newList []) false (eval iter X.env) (some (assign (.Name y py) X.env))) _ _ s
  have h' : tLc wi g tt te (own.map (·.2)) σ H (fun x H1 => gName i x σ H1 D.nx) := h
  refine wpAny_bind (thn (lcE_core (Qf := fun _ t => SP X pins D .next t) I hc hN hs hf tk hi ok hg ht he hq h' fun L C t m H' I' q ns f => ?_) fun _ t z => wpAny_pure (wpAny_pure z))
  show wpAny _ _ (assign (.Name y py) X.env (.ref L)) _ _ _
  refine wpAny_assign_Name (store_ok2 (v := V.ref L) I' hN hy (.inl hyl) rfl (fun t2 I2 x => ?_) (.inr hyl))
  obtain ⟨a, sb, ha⟩ := x
  obtain ⟨f0, f1, _, f3, f4, f5⟩ := f
  have Ca : C ≠ a := ha.elim (fun z => by rw [z]; exact f1) fun z e => f4 y a z e.symm
  exact ⟨m, ns.sameBut sb Ca, fun g3 sb3 => ⟨_, H', I2.turned (t' := t2.toks) (fun b o hb e => (sb3.2 b hb).trans e) f0 f1 f3 f4 f5, q⟩⟩
end
end Sho
set_option Elab.async false
set_option linter.all false
set_option maxRecDepth 100000
set_option maxHeartbeats 4000000
/-! text.index(text); DecodeError; Reader: __init__, take. -/
namespace Sho
open PySem L2 PySem.Builtin.Str
theorem mt_sindex {X : Cx} : MtR X "str.index" (fun x xs H Q => ∃ (a b : Str) (i : Nat) (r : List Nat), x = .str a ∧ xs = [.str b] ∧ occurrences a b 0 a.length 1 = i :: r ∧ Q (.int (i : Nat)) H) := by
  intro pins s σ H x xs v us Q I rx rs h
  obtain ⟨a, b, i, r, rfl, rfl, ho, h⟩ := h
  obtain ⟨t, rfl⟩ := rx
  cases rs with
  | cons r1 rs =>
    cases rs
    obtain ⟨u, rfl⟩ := r1
    exact PySem.call_gives PySem.F.slot_str_index (PySem.typeIs_str _ _ _) PySem.F.entry_str_index (PySem.F.args_str_index_2 _ _) (PySem.gives_str_index a b t u i r ho) ⟨.int (i : Nat), H, I.tok _, ⟨_, rfl⟩, h⟩
def alpha : Str := "abcdefghijklmnopqrstuvwxyz"
theorem alpha_len : alpha.length = 26 := by decide +kernel
theorem alpha_ix : ∀ k : Fin 26, occurrences alpha ⟨#[97 + k.1]⟩ 0 26 1 = [k.1] := by decide +kernel
theorem alpha_at : ∀ k : Fin 26, alpha.cps.toList[k.1]? = some (97 + k.1) := by decide +kernel
end Sho
namespace Sh1
open PySem L2 Sho NdefX Shg
abbrev nfDec (cc cda : Addr) : NF := ⟨"__init__", "DecodeError.__init__", defArgs sDecodeError_Init, defBody sDecodeError_Init, defScope sDecodeError_Init, [("__class__", cc)], cda⟩
section
variable {X : Cx} {CX : CXT} {C : Addr} {k : Nat} {kws : List Keyword} {te : TA} {p pos : Pos}
theorem pmk_dec (EC : ErrC X.prog X.K X.mg "DecodeError" "offset" nfDec C) (hr : Room (k + 2) X.A) (hx : Passes CX X (fun _ _ _ => False)) (hg : Gl X "DecodeError")
    (hkw : PK X kws te) (hall : (backToKw pos (keywordEach kws X.env)).all (·.1.isSome) = true) (hks : (backToKw pos (keywordEach kws X.env)).filterMap (·.1) = [("offset" : Str)])
    (hpl : ((backTo pos (starEach [] X.env)).any (·.1) || (backToKw pos (keywordEach kws X.env)).any (·.1.isNone)) = false) : PMk X (.Call (.Name "DecodeError" p) [] kws pos) (tMkW C "offset" te) := by
  obtain ⟨f, cc, cda, T, iC, tI⟩ := EC.txt
  have S : NScope ["self", "offset", "__class__"] ["self", "offset"] ["__class__"] (defScope sDecodeError_Init) := nscope_by (by decide +kernel)
  refine pmk_kw (F := nfDec cc cda) (fld := "offset") (k := k) T EC.cls EC.xf EC.no iC tI S hr hx hg EC.gm hkw hall hks hpl rfl (fun s doc pm an ct xa u => .of_eq rfl) (fun A outer s H E xa v hv => ?_) (fun L => rfl) (fun L => rfl) (fun L => rfl)
  refine ⟨_, pa_cons (pe_joined (.cons pe_str (.cons (pe_fmt (pv 1)) .nil))) pa_nil, fun R hR => ?_⟩
  have e0 : (Str.empty ++ Str.ofString "the code breaks at ").length ≤ 30 := by decide +kernel
  refine ⟨_, rfl, Nat.le_trans e0 (by decide), v, rfl, ?_⟩
  rcases tells_len hv with ⟨y, rfl, hy⟩ | ⟨i, rfl, hi, hl⟩
  · have l1 := small_cat e0 hy
    exact .inl ⟨y, rfl, Nat.le_trans hy (by decide), y, rfl, Nat.le_trans l1 (by decide), hR _⟩
  · have l1 := small_cat e0 hl
    exact .inr ⟨i, rfl, hi, _, rfl, Nat.le_trans l1 (by decide), hR _⟩
end
/-! ### Reader -/
structure ReadC (K : PySem.W.Frag) (mg : Str → Option Value) (C : Addr) : Prop where
  gm : mg "Reader" = some (.ref C)
  cl : Cls K C
  nC : NoAttr K C "_code"
  nO : NoAttr K C "offset"
abbrev rdFs (a : Addr) (i : Nat) : List (Str × V) := [(("_code" : Str), .ref a), (("offset" : Str), .int (i : Nat))]
def ReadAt (C : Addr) (H : Hp) (r a : Addr) (i : Nat) : Prop := ∃ dx, H r = some (.ins C dx (rdFs a i))
theorem ReadAt.same {C r a : Addr} {H H' : Hp} {i : Nat} (s : Same H H') (h : ReadAt C H r a i) : ReadAt C H' r a i := by
  obtain ⟨dx, e⟩ := h
  exact ⟨dx, s _ _ e⟩
theorem off_code : (("offset" : Str) == ("_code" : Str)) = false := by decide +kernel
theorem lk_code (a : Addr) (i : Nat) : List.lookup ("_code" : Str) (rdFs a i) = some (.ref a) := by simp [List.lookup]
theorem lk_off (a : Addr) (i : Nat) : List.lookup ("offset" : Str) (rdFs a i) = some (.int (i : Nat)) := by
  simp [List.lookup, off_code]
theorem no_rd (a : Addr) (i : Nat) {m : Str} (h1 : (m == ("_code" : Str)) = false) (h2 : (m == ("offset" : Str)) = false) : List.lookup m (rdFs a i) = none := by simp [List.lookup, h1, h2]
theorem put_code (a : Addr) : putF ("_code" : Str) (.ref a) [] = [(("_code" : Str), .ref a)] := rfl
theorem put_off0 (a : Addr) : putF ("offset" : Str) (.int 0) [(("_code" : Str), .ref a)] = rdFs a 0 := by
  unfold putF
  rfl
theorem put_off (a : Addr) (i : Nat) (z : V) : putF ("offset" : Str) z (rdFs a i) = [(("_code" : Str), .ref a), (("offset" : Str), z)] := by
  unfold putF
  rfl
/-- all but one place stands -/
def But1 (l : Addr) (H H' : Hp) : Prop := ∀ b o, H b = some o → b ≠ l → H' b = some o
theorem But1.refl (l : Addr) (H : Hp) : But1 l H H := fun _ _ e _ => e
theorem But1.trans {l : Addr} {H H1 H2 : Hp} (a : But1 l H H1) (b : But1 l H1 H2) : But1 l H H2 := fun c o e n => b c o (a c o e n) n
theorem But1.of {l : Addr} {H H' : Hp} (s : Same H H') : But1 l H H' := fun b o e _ => s b o e
theorem But1.upd {l : Addr} {H : Hp} {o : HO} : But1 l H (upd H l o) := fun b u e nb => by rw [upd_ne nb]; exact e
section
variable {P : Program} {w : World} {K : PySem.W.Frag} {mg : Str → Option Value} {base : Heap}
def spRdInit (C : Addr) : Sp := fun vs H Q _ => ∃ (x dx a : Addr), vs = [.ref x, .ref a] ∧ H x = some (.ins C dx []) ∧ ∀ H', H' x = some (.ins C dx (rdFs a 0)) → But1 x H H' → Q .non H'
theorem scRdInit : FnScope ["self", "code"] ["self", "code"] (defScope sReader_Init) := ⟨rfl, rfl, rfl, by decide +kernel, rfl, by decide +kernel, by decide +kernel⟩
theorem ok_rdinit {f C : Addr} {fd : FuncData} (F : Fun K "__init__" "Reader.__init__" sReader_Init f fd) (RC : ReadC K mg C) : FnOk P w K mg base CX0 1 f fd ["self", "code"] (spRdInit C) := by
  refine F.ok scRdInit (fun vs H Q E h => ?_) (fun cdv A outer s H vs Q E hr h => ?_)
  · obtain ⟨x, dx, a, rfl, _⟩ := h
    rfl
  · obtain ⟨x, dx, a, rfl, hx, k⟩ := h
    refine ⟨_, pss_cons (ps_fld (pv 0) (pv 1) rfl) (pss_one (ps_fld (pv 0) pe_int rfl)), ?_⟩
    refine ⟨_, rfl, _, rfl, x, C, dx, [], rfl, hx, RC.cl, RC.nC, by decide, ?_⟩
    refine ⟨_, rfl, x, C, dx, _, rfl, upd_same, RC.cl, RC.nO, by show 1 < 1000; decide, ?_⟩
    exact k _ upd_same fun b o e nb => by
      rw [upd_ne nb, upd_ne nb]
      exact e
def spTake (K : PySem.W.Frag) (C CD : Addr) : Sp := fun vs H Q E => ∃ (r a : Addr) (c : List Int) (i : Nat) (lo hi : Int), vs = [.ref r, .int lo, .int hi] ∧ ReadAt C H r a i ∧ H a = some (.lst (c.map V.int)) ∧ i ≤ c.length ∧ c.length < 1000 ∧
  (need c i lo hi = true → ∀ H', But1 r H H' → ReadAt C H' r a (i + 1) → Q (.int (at_ c i)) H') ∧ (need c i lo hi = false → ∀ (H' : Hp) (d : Addr), Same H H' → H' d = some (.xd [(("offset" : Str), .int (i : Nat))]) → E (.ref CD) (some d) H')
theorem scTake : FnScope ["self", "low", "high"] ["self", "low", "high"] (defScope sReader_Take) := ⟨rfl, rfl, rfl, by decide +kernel, rfl, by decide +kernel, by decide +kernel⟩
theorem ints_at {c : List Int} {i : Nat} (h : i < c.length) : (c.map V.int)[i]? = some (.int (at_ c i)) := by
  rw [List.getElem?_map, at_of h]
  rfl
theorem ok_take {f C CD fW : Addr} {fd fdW : FuncData} (F : Fun K "take" "Reader.take" sReader_Take f fd) (B : Shg.Blt mg) (RC : ReadC K mg C) (EC : ErrC P K mg "DecodeError" "offset" nfDec CD)
    (GW : FnOk P w K mg base CX0 1 fW fdW ["number", "low", "high"] spIsWithin) (mW : mg "is_within" = some (.ref fW)) (kW : PySem.W.keepIn K (.ref fW) = true) (bW : Binds K fdW ["number", "low", "high"] []) :
    FnOk P w K mg base (L2.CX P w) 3 f fd ["self", "low", "high"] (spTake K C CD) := by
  refine F.okX scTake (fun vs H Q E h => ?_) (fun cdv A outer s H vs Q E hr h => ?_)
  · obtain ⟨r, a, c, i, lo, hi, rfl, _⟩ := h
    rfl
  · obtain ⟨r, a, c, i, lo, hi, rfl, ⟨dx, hr0⟩, ha, hi0, hc, kOk, kBad⟩ := h
    have nd := scTake.nd
    refine ⟨_, pss_cons (ps_if (PW.pt (pw_or (pt_cmpR op_eq (pe_fld (pv 0) rfl) (pe_callB call_len_seq (by rfl) B.len PySem.boot_len (pa_cons (pe_fld (pv 0) rfl) pa_nil)) (nomark _))
        (pw_or1 (pt_not (pt_val (pe_call GW (hr.mono (by decide)) rfl mW kW bW .nil pass0 (pa_cons (pe_ix ix_list (pe_fld (pv 0) rfl) (pe_fld (pv 0) rfl) (fun _ _ => rfl)) (pa_cons (pv 1) (pa_cons (pv 2) pa_nil)))))))))
        (pss_one (ps_raise rfl (takes_of rfl rfl rfl rfl) (pmk_dec (k := 0) EC (hr.mono (by decide)) passL (by rfl) (pk_cons (pe_fld (pv 0) rfl) pk_nil) rfl rfl rfl))) pss_nil)
      (pss_cons (ps_fldaug (pv 0) pe_int iop_add) (pss_one (ps_ret (pe_ix ix_list (pe_fld (pv 0) rfl) (pe_op op_sub (pe_fld (pv 0) rfl) pe_int) (fun _ _ => rfl))))), ?_⟩
    have len : (c.map V.int).length = c.length := List.length_map ..
    have split : (decide (i = c.length) || !(decide (lo ≤ at_ c i) && decide (at_ c i ≤ hi))) = !need c i lo hi := by
      unfold need
      by_cases e : i = c.length
      · have : ¬ i < c.length := by omega
        simp [e]
      · have : i < c.length := by omega
        simp [e, this]
    refine ans_or (decide (i = c.length)) (!(decide (lo ≤ at_ c i) && decide (at_ c i ≤ hi))) (fun R h => ⟨_, rfl, r, C, dx, _, .int i, rfl, hr0, RC.cl, RC.nO, lk_off a i, _, rfl, r, C, dx, _, .ref a, rfl, hr0, RC.cl, RC.nC, lk_code a i, a, c.map V.int, rfl, .inl (SqL.of ha), rfl, _, rfl, ?_⟩) (fun H1 s1 e R h => ?_) fun H1 s1 => ?_
    · have e : decide (V.int (i : Int) = V.int ((c.map V.int).length : Int)) = decide (i = c.length) := by
        rw [dec_int, len]
        by_cases q : i = c.length
        · simp [q]
        · have q2 : ¬ (i : Int) = (c.length : Int) := by omega
          rw [decide_eq_false q]
          exact beq_eq_false_iff_ne.mpr q2
      rw [e]
      exact h _ (Same.refl _)
    · have lt : i < c.length := by
        have : ¬ i = c.length := of_decide_eq_false e
        omega
      have hr1 := s1 _ _ hr0
      exact ⟨_, rfl, r, C, dx, _, .ref a, rfl, hr1, RC.cl, RC.nC, lk_code a i, _, rfl, r, C, dx, _, .int i, rfl, hr1, RC.cl, RC.nO, lk_off a i, a, c.map V.int, (i : Int), .int (at_ c i), rfl, rfl, SqL.of (s1 _ _ ha), atI_nat (ints_at lt), _, rfl, _, rfl, at_ c i, lo, hi, rfl, _, rfl, h _ (Same.refl _)⟩
    · have hr1 := s1 _ _ hr0
      rw [split]
      cases e : need c i lo hi with
      | false =>
        refine iteT ⟨_, rfl, r, C, dx, _, .int i, rfl, hr1, RC.cl, RC.nO, lk_off a i, _, rfl, .inr ⟨_, rfl, log_small (Nat.le_trans hi0 (Nat.le_trans (Nat.le_of_lt hc) (by decide)))⟩, fun d hd => ?_⟩
        exact kBad e _ d (fun b o z => by rw [upd_ne (ne_of_none (s1 _ _ z) hd)]; exact s1 _ _ z) upd_same
      | true =>
        obtain ⟨lt, _⟩ := need_lt e
        refine iteF ⟨_, rfl, r, C, dx, _, .int i, rfl, hr1, RC.cl, RC.nO, lk_off a i, _, _, rfl, rfl, dx, _, hr1, by show 2 < 1000; decide, ?_⟩
        show L2.Ends.nx _ _ (upd H1 r (.ins C dx (rdFs a (i + 1))))
        have hr2 : (upd H1 r (.ins C dx (rdFs a (i + 1)))) r = some (.ins C dx (rdFs a (i + 1))) := upd_same
        have ha2 : (upd H1 r (.ins C dx (rdFs a (i + 1)))) a = some (.lst (c.map V.int)) := by
          rw [upd_ne (fun z => by rw [z, hr0] at ha; cases ha)]
          exact s1 _ _ ha
        refine ⟨_, rfl, r, C, dx, _, .ref a, rfl, hr2, RC.cl, RC.nC, lk_code a (i + 1), _, rfl, r, C, dx, _, .int ((i + 1 : Nat) : Int), rfl, hr2, RC.cl, RC.nO, lk_off a (i + 1), _, _, rfl, rfl, a, c.map V.int, _, .int (at_ c i), rfl, rfl, SqL.of ha2, ?_, ?_⟩
        · rw [show ((i + 1 : Nat) : Int) - 1 = (i : Nat) by omega]
          exact atI_nat (ints_at lt)
        · exact kOk e _ ((But1.of s1).trans But1.upd) ⟨dx, upd_same⟩
end
end Sh1
set_option Elab.async false
set_option linter.all false
set_option maxRecDepth 100000
set_option maxHeartbeats 4000000
/-! _checksum, take_checksum, _take_name. -/
namespace Sh1
open PySem L2 Sho NdefX Shg
section
variable {P : Program} {w : World} {K : PySem.W.Frag} {mg : Str → Option Value} {base : Heap}
def spSum (K : PySem.W.Frag) : Sp := fun vs H Q _ => ∃ (a : Addr) (c : List Int), vs = [.ref a] ∧ SqL K H a (c.map V.int) ∧ (∀ H', Same H H' → SqL K H' a (c.map V.int)) ∧ c.length < 1000 ∧ ∀ H', Same H H' → Q (.int (csum c)) H'
theorem scSum : FnScope ["code", "offset", "item"] ["code"] (defScope sChecksum) := ⟨rfl, rfl, rfl, by decide +kernel, rfl, by decide +kernel, by decide +kernel⟩
theorem ok_sum {f : Addr} {fd : FuncData} {tm : Tok} (F : Fun K "_checksum" "_checksum" sChecksum f fd) (B : Shg.Blt mg) (gM : mg "MODULUS" = some (.int 9973 tm)) : FnOk P w K mg base CX0 1 f fd ["code"] (spSum K) := by
  refine F.ok scSum (fun vs H Q E h => ?_) (fun cdv A outer s H vs Q E hr h => ?_)
  · obtain ⟨a, c, rfl, _⟩ := h
    rfl
  · obtain ⟨a, c, rfl, ha, hst, hc, k⟩ := h
    have nd := scSum.nd
    refine ⟨_, pss_one (ps_ret (pe_op op_mod (pe_callB (cr_sum rfl) (by rfl) B.sum (by decide +kernel) (pa_cons (pe_lc (own := [("offset", 1), ("item", 2)]) (g := gTup K 2 (gCons (gName 1) (gCons (gName 2) gNil))) (tt := tYes) (te := tOp (rI CMul fun i j => .int (i * j)) (tVar 2) (tOp (rI0 fun i j => .int (i + j)) (tVar 1) (tC (.int 3)))) rfl nd
        (pi_enum (by rfl) B.enum (pa_cons (pv 0) pa_nil)) (blkOk_by (own := [("offset", 1), ("item", 2)]) (N := ["code", "offset", "item"]) (sc := defScope sChecksum) (by decide +kernel))
        (fun _ _ _ _ _ => pg_tup rfl (pgs_cons (pg_name (i := 1) nd rfl (Or.inl rfl)) (pgs_cons (pg_name (i := 2) nd rfl (Or.inl rfl)) pgs_nil))) (fun _ _ _ _ _ => pts_nil) (fun _ _ _ _ _ => pe_op op_mul (pv 2) (pe_op op_add (pv 1) pe_int))) pa_nil)) (pe_glob (v := .int 9973) rfl gM ⟨_, rfl⟩))), ?_⟩
    have len : (c.map V.int).length = c.length := List.length_map ..
    refine ⟨_, rfl, a, c.map V.int, rfl, ha, fun D hD => ?_⟩
    refine lc_map walk_enum (fun i => some (.int (at_ c i * ((i : Int) + 3)))) hD (by rw [len]; exact Nat.le_trans (Nat.le_of_lt hc) (by decide)) hst (fun i x H1 H' hi s1 y R k1 => ?_) (fun i hi => ⟨_, rfl⟩) fun H1 s1 e1 => ?_
    · obtain ⟨T, y1, y2, rfl, hT, rfl, e1, e2⟩ := y
      cases e1
      have e2 : (c.map V.int)[i]? = some y2 := e2
      have hi' : i < c.length := by
        rw [← len]
        exact hi
      rw [ints_at hi'] at e2
      cases e2
      refine ⟨T, _, rfl, SqT.of upd_same, rfl, _, _, rfl, _, _, rfl, rfl, rfl, _, rfl, _, rfl, _, _, rfl, rfl, _, _, rfl, rfl, .inr ⟨by omega, by omega⟩, ?_⟩
      exact k1 _ _ (same_upd hT) rfl
    · rw [gather_fn, len] at e1
      have e2 : (List.range c.length).map (fun i => V.int (at_ c i * ((i : Int) + 3))) = ((List.range c.length).map fun i => at_ c i * ((i : Int) + 3)).map V.int := by
        rw [List.map_map]
        rfl
      rw [e2] at e1
      refine ⟨D, _, rfl, SqL.of e1, _, _, rfl, rfl, by show (0 : Int) < 9973; decide, ?_⟩
      exact k _ s1
theorem cut_to {α : Type} {c : List Int} {i : Nat} (h : i ≤ c.length) : cutV (c.map V.int) none (some (i : Int)) = (c.take i).map V.int := by
  unfold cutV
  rw [HT.sIx_none, HT.sIx_nat, List.drop_zero, Nat.sub_zero, List.length_map, Nat.min_eq_left h, List.map_take]
def spTakeSum (C CD : Addr) : Sp := fun vs H Q E => ∃ (r a : Addr) (c : List Int) (i : Nat), vs = [.ref r] ∧ ReadAt C H r a i ∧ H a = some (.lst (c.map V.int)) ∧ i ≤ c.length ∧ c.length < 1000 ∧
  (rdEnd c i [] = .ok [] → ∀ H', But1 r H H' → Q .non H') ∧ ∀ j, rdEnd c i [] = .error j → ∀ (H' : Hp) (d : Addr), But1 r H H' → H' d = some (.xd [(("offset" : Str), .int (j : Nat))]) → E (.ref CD) (some d) H'
theorem scTakeSum : FnScope ["self", "checksum"] ["self"] (defScope sReader_TakeChecksum) := ⟨rfl, rfl, rfl, by decide +kernel, rfl, by decide +kernel, by decide +kernel⟩
theorem ok_takeSum {f C CD fT fS : Addr} {fd fdT fdS : FuncData} (F : Fun K "take_checksum" "Reader.take_checksum" sReader_TakeChecksum f fd) (B : Shg.Blt mg) (RC : ReadC K mg C) (EC : ErrC P K mg "DecodeError" "offset" nfDec CD)
    (GT : FnOk P w K mg base (L2.CX P w) 3 fT fdT ["self", "low", "high"] (spTake K C CD)) (mT : Meth K C "take" fT) (bT : Binds K fdT ["self", "low", "high"] [])
    (GS : FnOk P w K mg base CX0 1 fS fdS ["code"] (spSum K)) (mS : mg "_checksum" = some (.ref fS)) (kS : PySem.W.keepIn K (.ref fS) = true) (bS : Binds K fdS ["code"] []) :
    FnOk P w K mg base (L2.CX P w) 4 f fd ["self"] (spTakeSum C CD) := by
  refine F.okX scTakeSum (fun vs H Q E h => ?_) (fun cdv A outer s H vs Q E hr h => ?_)
  · obtain ⟨r, a, c, i, rfl, _⟩ := h
    rfl
  · obtain ⟨r, a, c, i, rfl, ⟨dx, hr0⟩, ha, hi, hc, kOk, kBad⟩ := h
    have nd := scTakeSum.nd
    have pass : Passes (L2.CX P w) (cxOf (L2.CX P w) P w K mg base ["self", "checksum"] "Reader.take_checksum" (defScope sReader_TakeChecksum) f cdv A outer s H E) E := passes_call (takes_of rfl rfl rfl rfl) fun _ _ _ _ z => z
    refine ⟨_, pss_cons (ps_set (i := 1) nd rfl (Or.inl rfl) (pe_call GS (hr.mono (by decide)) rfl mS kS bS .nil pass0 (pa_cons (pe_slice sl_list (pe_fld (pv 0) rfl) po_none (po_some (pe_fld (pv 0) rfl))) pa_nil)))
      (pss_cons (ps_expr (pe_meth (pv 0) RC.cl mT GT (hr.mono (by decide)) bT .nil pass (pa_cons (pv 1) (pa_cons (pv 1) pa_nil))))
      (pss_one (ps_if (pt_cmpR op_lt (pe_fld (pv 0) rfl) (pe_callB call_len_seq (by rfl) B.len PySem.boot_len (pa_cons (pe_fld (pv 0) rfl) pa_nil)) (nomark _))
        (pss_one (ps_raise rfl (takes_of rfl rfl rfl rfl) (pmk_dec (k := 0) EC (hr.mono (by decide)) passL (by rfl) (pk_cons (pe_fld (pv 0) rfl) pk_nil) rfl rfl rfl))) pss_nil))), ?_⟩
    refine ⟨_, rfl, r, C, dx, _, .ref a, rfl, hr0, RC.cl, RC.nC, lk_code a i, _, rfl, r, C, dx, _, .int i, rfl, hr0, RC.cl, RC.nO, lk_off a i, i, rfl, a, c.map V.int, rfl, SqL.of ha, fun p hp => ?_⟩
    rw [cut_to (α := Int) hi]
    have s1 : Same H (upd H p (.lst ((c.take i).map V.int))) := same_upd hp
    have hp1 : (upd H p (.lst ((c.take i).map V.int))) p = some (.lst ((c.take i).map V.int)) := upd_same
    generalize upd H p (.lst ((c.take i).map V.int)) = H1 at s1 hp1
    refine ⟨p, c.take i, rfl, SqL.of hp1, fun H' s' => SqL.of (s' _ _ hp1), by rw [List.length_take]; omega, fun H2 s2 => ?_⟩
    have s12 := s1.trans s2
    refine ⟨_, rfl, r, dx, _, rfl, s12 _ _ hr0, no_rd a i (by decide +kernel) (by decide +kernel), _, rfl, _, rfl, r, a, c, i, _, _, rfl, ⟨dx, s12 _ _ hr0⟩, s12 _ _ ha, hi, hc, fun ok H3 b3 rd3 => ?_, fun bad H3 d s3 e3 => ?_⟩
    · obtain ⟨lt, _⟩ := need_lt ok
      obtain ⟨dx3, hr3⟩ := rd3
      have ha3 : H3 a = some (.lst (c.map V.int)) := b3 _ _ (s12 _ _ ha) fun z => by rw [z, hr0] at ha; cases ha
      have len : (c.map V.int).length = c.length := List.length_map ..
      refine ⟨_, rfl, r, C, dx3, _, .int ((i + 1 : Nat) : Int), rfl, hr3, RC.cl, RC.nO, lk_off a (i + 1), _, rfl, r, C, dx3, _, .ref a, rfl, hr3, RC.cl, RC.nC, lk_code a (i + 1), a, c.map V.int, rfl, .inl (SqL.of ha3), _, _, rfl, rfl, _, rfl, ?_⟩
      have b13 : But1 r H H3 := (But1.of s12).trans b3
      by_cases q : i + 1 < c.length
      · have e : decide (((i + 1 : Nat) : Int) < ((c.map V.int).length : Int)) = true := by
          rw [len]
          simp
          omega
        rw [e]
        have ee : rdEnd c i [] = .error (i + 1) := by
          unfold rdEnd
          rw [if_pos ok, if_pos q]
        refine iteT ⟨_, rfl, r, C, dx3, _, .int ((i + 1 : Nat) : Int), rfl, hr3, RC.cl, RC.nO, lk_off a (i + 1), _, rfl, .inr ⟨_, rfl, log_small (Nat.le_trans (Nat.le_of_lt q) (Nat.le_trans (Nat.le_of_lt hc) (by decide)))⟩, fun d hd => ?_⟩
        exact kBad _ ee _ d (b13.trans (But1.of (same_upd hd))) upd_same
      · have e : decide (((i + 1 : Nat) : Int) < ((c.map V.int).length : Int)) = false := by
          rw [len]
          simp
          omega
        rw [e]
        have ee : rdEnd c i [] = .ok [] := by
          unfold rdEnd
          rw [if_pos ok, if_neg q]
        exact iteF (kOk ee _ b13)
    · have ee : rdEnd c i [] = .error i := by
        unfold rdEnd
        rw [if_neg (by rw [bad]; decide)]
      exact kBad i ee H3 d ((But1.of s12).trans (But1.of s3)) e3
end
end Sh1
set_option Elab.async false
set_option linter.all false
set_option maxRecDepth 100000
/-! One lemma for the loops of all comprehensions. -/
namespace Shg
open PySem L2
theorem loop_any {J : It} {n : Nat} {G : Hp → Prop} {Y : Nat → Hp → V → Hp → Prop} (w : Walk J n G Y) {H0 : Hp} {Qd : Hp → Prop} {B : V → Hp → (Hp → Prop) → Prop} (Pv : Nat → Hp → Prop) (h0 : Pv 0 H0) (hG : ∀ i H, i ≤ n → Pv i H → G H)
    (hs : ∀ i x H H', i < n → Pv i H → Y i H x H' → B x H' (Pv (i + 1))) (hd : ∀ H, Pv n H → Qd H) :
    ∃ W : Nat → Nat → Hp → Prop, (∃ m, W 0 m H0) ∧ ∀ i m H, W i m H →
      (J.stop i H ∧ Qd H) ∨ (J.go i H ∧ ∃ Nx : Hp → Prop, (∀ H', Nx H' → ∃ m', m' < m ∧ W (i + 1) m' H') ∧ ∀ x H', J.yld i H x H' → B x H' Nx) := by
  refine ⟨fun i m H => m = n - i ∧ i ≤ n ∧ Pv i H, ⟨n, (Nat.sub_zero n).symm, Nat.zero_le _, h0⟩, ?_⟩
  rintro i m H ⟨rfl, hi, p⟩
  have q := hG i H hi p
  rcases Nat.lt_or_ge i n with hlt | hge
  · exact .inr ⟨w.goes i H hlt q, Pv (i + 1), fun H' p' => ⟨n - (i + 1), by omega, rfl, hlt, p'⟩, fun x H' y => hs i x H H' hlt p (w.yields i H x H' hlt q y)⟩
  · obtain rfl : i = n := by omega
    exact .inl ⟨w.stops H q, hd H p⟩
end Shg
set_option Elab.async false
set_option linter.all false
set_option maxRecDepth 100000
set_option maxHeartbeats 4000000
/-! _take_name. -/
namespace Sh1
open PySem L2 Sho NdefX Shg
theorem joinL_one {f : Int → Nat} : ∀ ls : List Int, TL.joinL [] (ls.map fun x => [f x]) = ls.map f
  | [] => rfl
  | [x] => rfl
  | x :: y :: r => by
    show [f x] ++ ([] ++ TL.joinL [] ((y :: r).map fun x => [f x])) = _
    rw [joinL_one (y :: r)]
    rfl
theorem join_letters (ls : List Int) : Txt.join Str.empty (ls.map sgn) = lname ls := by
  have h : TL.tl (Txt.join Str.empty (ls.map sgn)) = ls.map fun x => (96 + x).toNat := by
    rw [TL.join_eq, TL.tl_join]
    have e : (ls.map sgn).map TL.tl = ls.map fun x => [(96 + x).toNat] := by
      rw [List.map_map]
      rfl
    have e0 : TL.tl Str.empty = [] := rfl
    rw [e, e0, joinL_one]
  have e : (⟨(TL.tl (Txt.join Str.empty (ls.map sgn))).toArray⟩ : Str) = Txt.join Str.empty (ls.map sgn) := TL.mk_tl _
  rw [← e, h]
  rfl
theorem sgn_at {x : Int} (h1 : 1 ≤ x) (h2 : x ≤ 26) : atI alpha.cps.toList (x - 1) = some (96 + x).toNat := by
  have hk : (x - 1).toNat < 26 := by omega
  have e := alpha_at ⟨(x - 1).toNat, hk⟩
  have e1 : x - 1 = (((x - 1).toNat : Nat) : Int) := by omega
  have e2 : 97 + (x - 1).toNat = (96 + x).toNat := by omega
  rw [e1]
  have := atI_nat e
  rw [e2] at this
  exact this
section
variable {P : Program} {w : World} {K : PySem.W.Frag} {mg : Str → Option Value} {base : Heap}
abbrev NTN : List Str := ["reader", "names", "start", "size", "letters", "name", "_"]
def spTakeName (C CD : Addr) : Sp := fun vs H Q E => ∃ (r a l : Addr) (c : List Int) (i : Nat) (seen : List Str), vs = [.ref r, .ref l] ∧ ReadAt C H r a i ∧ H a = some (.lst (c.map V.int)) ∧ i ≤ c.length ∧ c.length < 1000 ∧ H l = some (.lst (seen.map V.str)) ∧ seen.length ≤ 1000 ∧
  (∀ z q, rdName c i seen = .ok (z, q) → ∀ H', But1 r H H' → ReadAt C H' r a q → Q (.str z) H') ∧ ∀ j, rdName c i seen = .error j → ∀ (H' : Hp) (d : Addr), But1 r H H' → H' d = some (.xd [(("offset" : Str), .int (j : Nat))]) → E (.ref CD) (some d) H'
theorem scTakeName : FnScope NTN ["reader", "names"] (defScope sTakeName) := ⟨rfl, rfl, rfl, by decide +kernel, rfl, by decide +kernel, by decide +kernel⟩
abbrev teLetter (K : PySem.W.Frag) (C CD : Addr) (E : XK) : TE := tOp rIxS (tC (.str alpha)) (tOp (rI0 fun i j => .int (i - j)) (tMeth C "take" (spTake K C CD) [] E (tVar 0) (tCons (tC (.int 1)) (tCons (tCB (fun xs H Q => ∃ z, xs = [.str z] ∧ z.length ≤ sizeLine ∧ Q (.int z.length) H) (tCons (tC (.str alpha)) tNil)) tNil))) (tC (.int 1)))
theorem ok_takeName {f C CD fT : Addr} {fd fdT : FuncData} {tA t8 : Tok} (F : Fun K "_take_name" "_take_name" sTakeName f fd) (B : Shg.Blt mg) (RC : ReadC K mg C) (EC : ErrC P K mg "DecodeError" "offset" nfDec CD) (gA : mg "LETTERS" = some (.str alpha tA)) (g8 : mg "LONGEST_NAME" = some (.int 8 t8))
    (GT : FnOk P w K mg base (L2.CX P w) 3 fT fdT ["self", "low", "high"] (spTake K C CD)) (mT : Meth K C "take" fT) (bT : Binds K fdT ["self", "low", "high"] []) :
    FnOk P w K mg base (L2.CX P w) 4 f fd ["reader", "names"] (spTakeName C CD) := by
  refine F.okX scTakeName (fun vs H Q E h => ?_) (fun cdv A outer s H vs Q E hr h => ?_)
  · obtain ⟨r, a, l, c, i, seen, rfl, _⟩ := h
    rfl
  · obtain ⟨r, a, l, c, i, seen, rfl, ⟨dx, hr0⟩, ha, hi, hc, hl, hsl, kOk, kBad⟩ := h
    have nd := scTakeName.nd
    have pass : Passes (L2.CX P w) (cxOf (L2.CX P w) P w K mg base NTN "_take_name" (defScope sTakeName) f cdv A outer s H E) E := passes_call (takes_of rfl rfl rfl rfl) fun _ _ _ _ z => z
    refine ⟨_, pss_cons (ps_set (i := 2) nd rfl (Or.inl rfl) (pe_fld (pv 0) rfl))
      (pss_cons (ps_set (i := 3) nd rfl (Or.inl rfl) (pe_meth (pv 0) RC.cl mT GT (hr.mono (by decide)) bT .nil pass (pa_cons pe_int (pa_cons (pe_glob (v := .int 8) rfl g8 ⟨_, rfl⟩) pa_nil))))
      (pss_cons (ps_setLcE (i := 4) (E := E) (own := [("_", 6)]) (g := gName 6) (tt := tYes) (te := teLetter K C CD E) rfl nd rfl rfl (takes_of rfl rfl rfl rfl) rfl rfl (sw_true rfl rfl rfl rfl) (pi_range1 (by rfl) B.range (pa_cons (pv 3) pa_nil)) (blkOk_by (own := [("_", 6)]) (N := NTN) (sc := defScope sTakeName) (by decide +kernel))
        (fun _ _ _ _ _ _ _ => pg_name (i := 6) nd rfl (Or.inl rfl)) (fun _ _ _ _ _ _ _ => pts_nil)
        (fun _ _ _ _ _ _ ps => pe_ix ix_str (pe_glob (v := .str alpha) (by rfl) (by exact gA) ⟨_, rfl⟩) (pe_op op_sub (pe_meth (pv 0) RC.cl mT GT (hr.mono (by decide)) bT .nil ps (pa_cons pe_int (pa_cons (pe_callB call_len_str (by rfl) (by exact B.len) PySem.boot_len (pa_cons (pe_glob (v := .str alpha) (by rfl) (by exact gA) ⟨_, rfl⟩) pa_nil)) pa_nil))) pe_int) (fun _ _ => rfl)))
      (pss_cons (ps_set (i := 5) nd rfl (Or.inl rfl) (pe_join pe_str (pv 4)))
      (pss_cons (ps_if (pt_cmpR op_in_seq (pv 5) (pv 1) rfl) (pss_one (ps_raise rfl (takes_of rfl rfl rfl rfl) (pmk_dec (k := 0) EC (hr.mono (by decide)) passL (by rfl) (pk_cons (pv 2) pk_nil) rfl rfl rfl))) pss_nil)
      (pss_one (ps_ret (pv 5))))))), ?_⟩
    have sz : (("" : Str)) = Str.empty := rfl
    refine ⟨_, rfl, r, C, dx, _, .int i, rfl, hr0, RC.cl, RC.nO, lk_off a i, ?_⟩
    refine ⟨_, rfl, r, dx, _, rfl, hr0, no_rd a i (by decide +kernel) (by decide +kernel), r, a, c, i, 1, 8, rfl, ⟨dx, hr0⟩, ha, hi, hc, fun ok H1 b1 rd1 => ?_, fun bad H1 d s1 e1 => kBad i (by unfold rdName; rw [if_neg (by rw [bad]; decide)]) H1 d (But1.of s1) e1⟩
    obtain ⟨lt0, lo0, hi0⟩ := need_lt ok
    generalize hn : (at_ c i).toNat = n
    have hn1 : 1 ≤ n := by omega
    have hn8 : n ≤ 8 := by omega
    have ra : a ≠ r := fun z => by rw [z, hr0] at ha; cases ha
    have rl : l ≠ r := fun z => by rw [z, hr0] at hl; cases hl
    refine ⟨_, rfl, at_ c i, rfl, by omega, by omega, fun D hD => ?_⟩
    have nDr : D ≠ r := fun z => by
      obtain ⟨dx1, hr1⟩ := rd1
      rw [z, hr1] at hD
      cases hD
    refine lc_it walk_range (fun j H2 => But1 r H H2 ∧ ReadAt C H2 r a (i + 1 + j) ∧ H2 D = some (.lst ((lets c (i + 1) j).map fun x => V.str (sgn x))) ∧ ∀ k, k < j → need c (i + 1 + k) 1 26 = true) ⟨b1.trans (But1.of (same_upd hD)), rd1.same (same_upd hD), upd_same, fun k hk => absurd hk (Nat.not_lt_zero k)⟩ (fun _ _ _ _ => trivial) (fun j y H2 H3 hj p yv => ?_) fun H2 p => ?_
    · obtain ⟨rfl, rfl⟩ := yv
      obtain ⟨b2, ⟨dx2, hr2⟩, hD2, all⟩ := p
      have hj' : j < n := by rw [← hn]; exact hj
      have ha2 := b2 _ _ ha ra
      have hi2 : i + 1 + j ≤ c.length := by
        cases j with
        | zero => omega
        | succ j =>
          have := (need_lt (all j (Nat.lt_succ_self j))).1
          omega
      refine ⟨rfl, _, rfl, r, dx2, _, rfl, hr2, no_rd a _ (by decide +kernel) (by decide +kernel), alpha, rfl, by rw [alpha_len]; decide, r, a, c, i + 1 + j, 1, (alpha.length : Int), rfl, ⟨dx2, hr2⟩, ha2, hi2, hc, fun ok2 H4 b4 rd4 => ?_, fun bad2 H4 d s4 e4 => ?_⟩
      · rw [alpha_len] at ok2
        obtain ⟨lt4, lo4, hi4⟩ := need_lt ok2
        refine ⟨_, _, rfl, rfl, alpha, _, _, rfl, rfl, by rw [alpha_len]; decide, sgn_at lo4 hi4, _, b4 _ _ hD2 nDr, ?_, ?_⟩
        · rw [List.length_map, lets_len (by omega)]
          exact Nat.lt_of_lt_of_le hj' (Nat.le_trans hn8 (by decide))
        · have hDn : H1 D = none := hD
          refine ⟨fun b o e nb => ?_, ?_, ?_, fun k hk => ?_⟩
          · rw [upd_ne (fun z => by
              have q := b1 b o e nb
              rw [z, hDn] at q
              cases q)]
            exact b4 b o (b2 b o e nb) nb
          · obtain ⟨dx4, hr4⟩ := rd4
            exact ⟨dx4, by rw [upd_ne (Ne.symm nDr)]; exact hr4⟩
          · rw [upd_same, lets_snoc (by omega), List.map_append]
            rfl
          · by_cases q : k < j
            · exact all k q
            · have : k = j := by omega
              rw [this]
              exact ok2
      · rw [alpha_len] at bad2
        refine kBad (i + 1 + j) ?_ H4 d (b2.trans (But1.of s4)) e4
        unfold rdName
        rw [if_pos ok, hn, badL_some hj' all bad2]
    · obtain ⟨b2, rd2, hD2, all⟩ := p
      have all' : ∀ k, k < n → need c (i + 1 + k) 1 26 = true := by rw [← hn]; exact all
      rw [hn] at hD2 rd2
      have hb : badL c (i + 1) n = none := badL_none all'
      have lt : i + 1 + n ≤ c.length := by
        have := (need_lt (all' (n - 1) (by omega))).1
        omega
      have e1 : (lets c (i + 1) n).map (fun x => V.str (sgn x)) = ((lets c (i + 1) n).map sgn).map V.str := by
        rw [List.map_map]
        rfl
      rw [e1] at hD2
      refine ⟨⟨_, rfl⟩, _, rfl, Str.empty, D, (lets c (i + 1) n).map sgn, rfl, rfl, .inl (SqL.of hD2), ?_, ?_⟩
      · have : ∀ ls : List Int, ((ls.map sgn).map (·.length)).sum = ls.length := fun ls => by
          induction ls with
          | nil => rfl
          | cons x ls ih =>
            simp only [List.map_cons, List.sum_cons, List.length_cons, ih]
            have : (sgn x).length = 1 := rfl
            omega
        rw [this, List.length_map, lets_len lt]
        show n + n * 0 ≤ 16777216
        omega
      · rw [join_letters]
        have hl2 := b2 _ _ hl rl
        obtain ⟨k1, k2, k3⟩ := name_ok hn1 hn8 hb
        refine ⟨_, rfl, _, rfl, l, _, rfl, .inl (SqL.of hl2), rfl, flat_strs seen, _, rfl, ?_⟩
        rw [if_neg Bool.false_ne_true, inV_strs]
        by_cases hs : lname (lets c (i + 1) n) ∈ seen
        · rw [any_mem.mpr hs]
          refine iteT ⟨_, rfl, _, rfl, .inr ⟨_, rfl, log_small (Nat.le_trans hi (Nat.le_trans (Nat.le_of_lt hc) (by decide)))⟩, fun d hd => ?_⟩
          refine kBad i ?_ _ d (b2.trans (But1.of (same_upd hd))) upd_same
          unfold rdName
          rw [if_pos ok, hn, hb]
          exact if_pos hs
        · have : seen.any (fun y => y == lname (lets c (i + 1) n)) = false := Bool.eq_false_iff.mpr fun z => hs (any_mem.mp z)
          rw [this]
          refine iteF ⟨_, rfl, kOk _ _ ?_ H2 b2 rd2⟩
          unfold rdName
          rw [if_pos ok, hn, hb]
          exact if_neg hs
end
end Sh1
set_option Elab.async false
set_option linter.all false
set_option maxRecDepth 100000
set_option maxHeartbeats 2000000
namespace Sh1
open PySem L2 Sho NdefX
theorem cat_one {K : PySem.W.Frag} {H : Hp} {a b : Addr} {xs ys : List V} {Q : VK} (ha : SqT K H a xs) (hb : SqT K H b ys) (hz : xs.length + ys.length ≤ sizeLine) (h : ∀ c H', Same H H' → SqT K H' c (xs ++ ys) → Q (.ref c) H') : rCatA K (.ref a) (.ref b) H Q := by
  refine ⟨a, b, xs, ys, rfl, rfl, ha, hb, hz, fun e => ?_, fun _ e => ?_, fun _ _ p hp => ?_⟩
  · exact h b H (Same.refl _) (by rw [e]; exact hb)
  · exact h a H (Same.refl _) (by rw [e, List.append_nil]; exact ha)
  · refine h p _ (fun c o e => ?_) (SqT.of upd_same)
    rw [upd_ne (ne_of_none e hp)]
    exact e
theorem paired_append {α β : Type} {R : α → β → Prop} : ∀ {a c : List α} {b d : List β}, PySem.Paired R a b → PySem.Paired R c d → PySem.Paired R (a ++ c) (b ++ d)
  | _, _, _, _, .nil, h => h
  | _, _, _, _, .cons x r, h => .cons x (paired_append r h)
theorem Short.append {xs ys : List Stay} (h : Short xs) (k : Short ys) : Short (xs ++ ys) := fun x hx => (List.mem_append.mp hx).elim (h x) (k x)
/-- stays moved -/
def moved (n : Int) (xs : List Stay) : List Stay := xs.map fun x => (x.1, x.2.1 + n, x.2.2 + n)
theorem Short.moved {xs : List Stay} (h : Short xs) (n : Int) : Short (moved n xs) := fun x hx => by
  obtain ⟨y, hy, e⟩ := List.mem_map.mp hx
  subst e
  exact h y hy
theorem stays_of {H : Hp} : ∀ {ys : List V} {xs : List Stay}, ys.length = xs.length → (∀ (i : Nat) (y : V), ys[i]? = some y → ∃ x, xs[i]? = some x ∧ StayV H y x) → StaysV H ys xs
  | [], [], _, _ => .nil
  | [], _ :: _, h, _ => by simp at h
  | _ :: _, [], h, _ => by simp at h
  | y :: ys, x :: xs, h, k => by
    obtain ⟨x', e, r⟩ := k 0 y rfl
    simp at e
    subst e
    exact .cons r (stays_of (by simpa using h) fun i y' e => by
      obtain ⟨x', e2, r2⟩ := k (i + 1) y' (by simpa using e)
      exact ⟨x', by simpa using e2, r2⟩)
section
variable {P : Program} {w : World} {K : PySem.W.Frag} {mg : Str → Option Value} {base : Heap}
/-- what making a Party of xs may end in -/
def Making (C CI : Addr) (H : Hp) (xs : List Stay) (Q : VK) (E : XK) : Prop :=
  (firstBad xs = none → ∀ (p : Addr) (H' : Hp), Same H H' → H p = none → PartyAt C H' p xs → Q (.ref p) H') ∧
  ∀ i, firstBad xs = some i → ∀ (H' : Hp) (d : Addr), Same H H' → H d = none → H' d = some (.xd [(("index" : Str), .int (i : Nat))]) → E (.ref CI) (some d) H'
theorem Making.after {C CI : Addr} {H H1 : Hp} {xs : List Stay} {Q : VK} {E : XK} (m : Making C CI H xs Q E) (s : Same H H1) : Making C CI H1 xs Q E :=
  ⟨fun h p H' s' hp P => m.1 h p H' (s.trans s') (s.free hp) P, fun i h H' d s' hd e => m.2 i h H' d (s.trans s') (s.free hd) e⟩
def spPAdd (C CI : Addr) : Sp := fun vs H Q E => ∃ (p q : Addr) (xs ys : List Stay), vs = [.ref p, .ref q] ∧ PartyAt C H p xs ∧ PartyAt C H q ys ∧ Short xs ∧ Short ys ∧ xs.length + ys.length ≤ 1000 ∧ Making C CI H (xs ++ ys) Q E
theorem scPAdd : FnScope ["self", "other", "stays"] ["self", "other"] (defScope sPAdd) := ⟨rfl, rfl, rfl, by decide +kernel, rfl, by decide +kernel, by decide +kernel⟩
theorem ok_padd {f C CI fI : Addr} {fd : FuncData} (F : Fun K "__add__" "Party.__add__" sPAdd f fd) (PC : PartyC K mg C) (M : Mk K C fI) (GI : FnR P w K mg base (L2.CX P w) 5 fI (spPNew C CI)) :
    FnOk P w K mg base (L2.CX P w) 7 f fd ["self", "other"] (spPAdd C CI) := by
  refine F.okX scPAdd (fun vs H Q E h => ?_) (fun cdv A outer s H vs Q E hr h => ?_)
  · obtain ⟨p, q, xs, ys, rfl, _⟩ := h
    rfl
  · obtain ⟨p, q, xs, ys, rfl, ⟨dx, a, ws, h1, h2, h3⟩, ⟨dy, b, zs, g1, g2, g3⟩, hsx, hsy, hz, k⟩ := h
    have nd := scPAdd.nd
    have pass : Passes (L2.CX P w) (cxOf (L2.CX P w) P w K mg base ["self", "other", "stays"] "Party.__add__" (defScope sPAdd) f cdv A outer s H E) E := passes_call (takes_of rfl rfl rfl rfl) fun _ _ _ _ z => z
    refine ⟨_, pss_cons (ps_set (i := 2) nd rfl (Or.inl rfl) (pe_op op_catA (pe_fld (pv 0) rfl) (pe_fld (pv 1) rfl))) (pss_one (ps_ret (pe_makeS M GI hr rfl PC.gm pass (pv 2)))), ?_⟩
    refine ⟨_, rfl, p, C, dx, _, .ref a, rfl, h1, PC.cl, PC.nS, lk_stays _, _, rfl, q, C, dy, _, .ref b, rfl, g1, PC.cl, PC.nS, lk_stays _, ?_⟩
    have l1 := pair_len h3
    have l2 := pair_len g3
    have l3 : ws.length + zs.length ≤ 1000 := by omega
    refine cat_one (SqT.of h2) (SqT.of g2) (Nat.le_trans l3 (by decide)) fun c H' s' hc => ?_
    have k' := k.after s'
    refine ⟨_, rfl, c, ws ++ zs, rfl, .inl hc, ?_⟩
    exact party_new (paired_append (h3.same s') (g3.same s')) (hsx.append hsy) (by rw [List.length_append]; exact Nat.le_trans l3 (by decide)) k'.1 k'.2
def spPShift (C CI : Addr) : Sp := fun vs H Q E => ∃ (p : Addr) (n : Int) (xs : List Stay), vs = [.ref p, .int n] ∧ PartyAt C H p xs ∧ Short xs ∧ xs.length ≤ 1000 ∧ Making C CI H (moved n xs) Q E
theorem scPShift : FnScope ["self", "ticks", "stays", "name", "come", "go"] ["self", "ticks"] (defScope sPShift) := ⟨rfl, rfl, rfl, by decide +kernel, rfl, by decide +kernel, by decide +kernel⟩
theorem ok_pshift {f C CI fI : Addr} {fd : FuncData} (F : Fun K "__rshift__" "Party.__rshift__" sPShift f fd) (PC : PartyC K mg C) (M : Mk K C fI) (GI : FnR P w K mg base (L2.CX P w) 5 fI (spPNew C CI)) :
    FnOk P w K mg base (L2.CX P w) 7 f fd ["self", "ticks"] (spPShift C CI) := by
  refine F.okX scPShift (fun vs H Q E h => ?_) (fun cdv A outer s H vs Q E hr h => ?_)
  · obtain ⟨p, n, xs, rfl, _⟩ := h
    rfl
  · obtain ⟨p, n, xs, rfl, ⟨dx, a, ws, h1, h2, h3⟩, hsx, hz, k⟩ := h
    have nd := scPShift.nd
    have pass : Passes (L2.CX P w) (cxOf (L2.CX P w) P w K mg base ["self", "ticks", "stays", "name", "come", "go"] "Party.__rshift__" (defScope sPShift) f cdv A outer s H E) E := passes_call (takes_of rfl rfl rfl rfl) fun _ _ _ _ z => z
    refine ⟨_, pss_cons (ps_setLc (i := 2) (own := [("name", 3), ("come", 4), ("go", 5)]) (g := gTup K 3 (gCons (gName 3) (gCons (gName 4) (gCons (gName 5) gNil)))) (tt := tYes) rfl nd rfl rfl (sw_true rfl rfl rfl (by decide +kernel))
        (pi_tup (pe_fld (pv 0) rfl)) (blkOk_by (own := [("name", 3), ("come", 4), ("go", 5)]) (N := ["self", "ticks", "stays", "name", "come", "go"]) (sc := defScope sPShift) (by decide +kernel))
        (fun _ _ _ _ _ => pg_tup rfl (pgs_cons (pg_name (i := 3) nd rfl (Or.inl rfl)) (pgs_cons (pg_name (i := 4) nd rfl (Or.inl rfl)) (pgs_cons (pg_name (i := 5) nd rfl (Or.inl rfl)) pgs_nil))))
        (fun _ _ _ _ _ => pts_nil) (fun _ _ _ _ _ => pe_tup (pa_cons (pv 3) (pa_cons (pe_op op_add (pv 4) (pv 1)) (pa_cons (pe_op op_add (pv 5) (pv 1)) pa_nil)))))
      (pss_one (ps_ret (pe_makeS M GI hr rfl PC.gm pass (pv 2)))), ?_⟩
    have l1 := pair_len h3
    refine ⟨_, rfl, p, C, dx, _, .ref a, rfl, h1, PC.cl, PC.nS, lk_stays _, a, rfl, ⟨_, SqT.of h2⟩, fun D hD => ?_⟩
    refine lc_rel walk_tup (fun i y H => ∃ x, (moved n xs)[i]? = some x ∧ StayV H y x) hD (by rw [l1]; exact Nat.le_trans hz (by decide)) (fun H1 s1 => SqT.of (s1 _ _ h2)) (fun i y H H' st r => ?_) (fun i v H1 H' hi s1 y R k1 => ?_) fun H1 ys s1 e1 e2 e3 => ?_
    · obtain ⟨x, e, t, e2, e3⟩ := r
      exact ⟨x, e, t, e2, st _ _ e3⟩
    · obtain ⟨rfl, e2⟩ := y
      obtain ⟨x, hx, t, rfl, ht⟩ := pair_get h3 e2
      refine ⟨t, _, rfl, SqT.of (s1 _ _ ht), rfl, _, _, rfl, _, _, rfl, _, _, rfl, rfl, rfl, _, rfl, _, rfl, _, rfl, _, _, rfl, rfl, _, rfl, _, rfl, _, _, rfl, rfl, by show 3 ≤ sizeLine; decide, fun q hq => ?_⟩
      refine k1 _ _ (fun b o e => by rw [upd_ne (ne_of_none e hq)]; exact e) ⟨(x.1, x.2.1 + n, x.2.2 + n), ?_, q, rfl, upd_same⟩
      unfold moved
      rw [List.getElem?_map, hx]
      rfl
    · have lm : (moved n xs).length = xs.length := by
        unfold moved
        rw [List.length_map]
      have sv : StaysV H1 ys (moved n xs) := stays_of (by rw [e2, lm, l1]) e3
      have k' := k.after s1
      refine ⟨_, rfl, D, ys, rfl, .inr (SqL.of e1), ?_⟩
      exact party_new sv (hsx.moved n) (by rw [e2, l1]; exact Nat.le_trans hz (by decide)) k'.1 k'.2
end
end Sh1
set_option Elab.async false
set_option linter.all false
set_option maxRecDepth 100000
set_option maxHeartbeats 2000000
/-! Parties without stays and of one. -/
namespace Sh1
open PySem L2 Sho NdefX
theorem Valid.take {xs : List Stay} (h : Valid xs) (n : Nat) : Valid (xs.take n) :=
  ⟨Nat.le_trans (List.length_take_le' ..) h.len, h.nd.sublist (List.Sublist.map _ (List.take_sublist ..)), fun x hx => h.ok x (List.mem_of_mem_take hx)⟩
theorem Valid.one {x : Stay} (h : okStay x.1 x.2.1 x.2.2 = true) : Valid [x] :=
  ⟨by simp, by simp, fun y hy => by rw [List.mem_singleton] at hy; rw [hy]; exact h⟩
theorem Short.take {xs : List Stay} (h : Short xs) (n : Nat) : Short (xs.take n) := fun x hx => h x (List.mem_of_mem_take hx)
theorem new0 {C CI : Addr} {E : XK} {σ : L2.St} {H : Hp} {Q : VK} (h : ∀ (p : Addr) (H' : Hp), Same H H' → H p = none → PartyAt C H' p [] → Q (.ref p) H') : StX.tMakeR C (spPNew C CI) E tNil σ H Q := by
  intro x0 d0 n1 n2 n3
  exact party_new (C := C) (CI := CI) (H := H) (xs := []) (ys := []) .nil (by intro x hx; cases hx) (Nat.zero_le _) (fun _ => h) (fun i hi => nomatch hi) x0 d0 n1 n2 n3
theorem new1 {C CI : Addr} {E : XK} {σ : L2.St} {H : Hp} {Q : VK} {i : Nat} {v : V} {x : Stay} (e : σ[i]? = some (some v)) (hv : StayV H v x) (hs : Short [x]) (h : Making C CI H [x] Q E) : StX.tMakeR C (spPNew C CI) E (tCons (tVar i) tNil) σ H Q :=
  ⟨v, e, party_new (C := C) (CI := CI) (H := H) (xs := [x]) (ys := [v]) (.cons hv .nil) hs (by show 1 ≤ sizeLine; decide) h.1 h.2⟩
end Sh1
set_option Elab.async false
set_option linter.all false
set_option maxRecDepth 100000
set_option maxHeartbeats 4000000
/-! decode_party. -/
namespace Sh1
open PySem L2 Sho NdefX Shg
theorem StaysV.but1 {C r a : Addr} {i : Nat} {H H' : Hp} (hr : ReadAt C H r a i) (b : But1 r H H') : ∀ {ws : List V} {xs : List Stay}, StaysV H ws xs → StaysV H' ws xs
  | _, _, .nil => .nil
  | _, _, .cons h t => by
    obtain ⟨p, e, hp⟩ := h
    refine .cons ⟨p, e, b _ _ hp fun z => ?_⟩ (StaysV.but1 hr b t)
    obtain ⟨dx, q⟩ := hr
    rw [z, q] at hp
    cases hp
theorem StaysV.updL {H : Hp} {L : Addr} {zs : List V} {o : HO} (hL : H L = some (.lst zs)) : ∀ {ws : List V} {xs : List Stay}, StaysV H ws xs → StaysV (upd H L o) ws xs
  | _, _, .nil => .nil
  | _, _, .cons h t => by
    obtain ⟨p, e, hp⟩ := h
    refine .cons ⟨p, e, ?_⟩ (StaysV.updL hL t)
    rw [upd_ne fun z => by rw [z, hL] at hp; cases hp]
    exact hp
theorem same_but1 {H H1 H2 : Hp} {r : Addr} (s : Same H H1) (hr : H r = none) (b : But1 r H1 H2) : Same H H2 := fun x o e => b x o (s x o e) (ne_of_none e hr)
theorem rdEnd_xs {c : List Int} {i : Nat} {xs : List Stay} : rdEnd c i xs = match rdEnd c i [] with
    | .error j => .error j
    | .ok _ => .ok xs := by
  unfold rdEnd
  by_cases h : need c i (csum (c.take i)) (csum (c.take i)) = true
  · rw [if_pos h, if_pos h]
    by_cases q : i + 1 < c.length
    · rw [if_pos q, if_pos q]
    · rw [if_neg q, if_neg q]
  · rw [if_neg h, if_neg h]
theorem rdEnd_cases (c : List Int) (i : Nat) : rdEnd c i [] = .ok [] ∨ ∃ j, rdEnd c i [] = .error j := by
  unfold rdEnd
  by_cases h : need c i (csum (c.take i)) (csum (c.take i)) = true
  · rw [if_pos h]
    by_cases q : i + 1 < c.length
    · rw [if_pos q]
      exact .inr ⟨_, rfl⟩
    · rw [if_neg q]
      exact .inl rfl
  · rw [if_neg h]
    exact .inr ⟨_, rfl⟩
section
variable {P : Program} {w : World} {K : PySem.W.Frag} {mg : Str → Option Value} {base : Heap}
abbrev NDE : List Str := ["code", "reader", "guest_count", "stays", "_", "name", "come", "go", "stay"]
def spDecode (CP CD : Addr) : Sp := fun vs H Q E => ∃ (a : Addr) (c : List Int), vs = [.ref a] ∧ H a = some (.lst (c.map V.int)) ∧ c.length < 1000 ∧
  (∀ xs, rdCode c = .ok xs → ∀ (p : Addr) (H' : Hp), Same H H' → PartyAt CP H' p xs → Q (.ref p) H') ∧ ∀ j, rdCode c = .error j → ∀ (H' : Hp) (d : Addr), Same H H' → H' d = some (.xd [(("offset" : Str), .int (j : Nat))]) → E (.ref CD) (some d) H'
theorem scDecode : FnScope NDE ["code"] (defScope sDecodeParty) := ⟨rfl, rfl, rfl, by decide +kernel, rfl, by decide +kernel, by decide +kernel⟩
/-- within the loop -/
structure Reading (CR : Addr) (H0 : Hp) (c : List Int) (r L a : Addr) (ws : List V) (xs : List Stay) (q : Nat) (H : Hp) : Prop where
  same : Same H0 H
  lst : H L = some (.lst ws)
  st : StaysV H ws xs
  rd : ReadAt CR H r a q
  q : q ≤ c.length
  good : Good xs
theorem Reading.on {CR : Addr} {H0 H H' : Hp} {c : List Int} {r L a : Addr} {ws : List V} {xs : List Stay} {q q' : Nat} (R : Reading CR H0 c r L a ws xs q H) (hr0 : H0 r = none) (nL : L ≠ r) (b : But1 r H H') (rd : ReadAt CR H' r a q') (hq : q' ≤ c.length) : Reading CR H0 c r L a ws xs q' H' :=
  ⟨same_but1 R.same hr0 b, b _ _ R.lst nL, R.st.but1 R.rd b, rd, hq, R.good⟩
theorem ok_decode {f CP CI CD CR fI fR fT fN fE : Addr} {fd fdR fdT fdN fdE : FuncData} {t115 tL : Tok} {mcP : Value} {uP : Value} (F : Fun K "decode_party" "decode_party" sDecodeParty f fd) (B : Shg.Blt mg) (RC : ReadC K mg CR) (PC : PartyC K mg CP) (M : Mk K CP fI) (GI : FnR P w K mg base (L2.CX P w) 5 fI (spPNew CP CI))
    (rdP : ClX.CRead K CP mcP) (cvP : ClX.CVal K CP mcP "MAX_GUESTS" (.int 24) uP) (g115 : mg "FIRST_ITEM" = some (.int 115 t115)) (gL : mg "LAST_TICK" = some (.int 1000000000 tL))
    (MR : Mk K CR fR) (GR : FnOk P w K mg base CX0 1 fR fdR ["self", "code"] (spRdInit CR)) (bR : Binds K fdR ["self", "code"] [])
    (GT : FnOk P w K mg base (L2.CX P w) 3 fT fdT ["self", "low", "high"] (spTake K CR CD)) (mT : Meth K CR "take" fT) (bT : Binds K fdT ["self", "low", "high"] [])
    (GN : FnOk P w K mg base (L2.CX P w) 4 fN fdN ["reader", "names"] (spTakeName CR CD)) (mN : mg "_take_name" = some (.ref fN)) (kN : PySem.W.keepIn K (.ref fN) = true) (bN : Binds K fdN ["reader", "names"] [])
    (GE : FnOk P w K mg base (L2.CX P w) 4 fE fdE ["self"] (spTakeSum CR CD)) (mE : Meth K CR "take_checksum" fE) (bE : Binds K fdE ["self"] []) :
    FnOk P w K mg base (L2.CX P w) 7 f fd ["code"] (spDecode CP CD) := by
  refine F.okX scDecode (fun vs H Q E h => ?_) (fun cdv A outer s H vs Q E hr h => ?_)
  · obtain ⟨a, c, rfl, _⟩ := h
    rfl
  · obtain ⟨a, c, rfl, ha, hc, kOk, kBad⟩ := h
    have nd := scDecode.nd
    have pass : Passes (L2.CX P w) (cxOf (L2.CX P w) P w K mg base NDE "decode_party" (defScope sDecodeParty) f cdv A outer s H E) E := passes_call (takes_of rfl rfl rfl rfl) fun _ _ _ _ z => z
    refine ⟨_, pss_cons (ps_set (i := 1) nd rfl (Or.inl rfl) (pe_make MR GR (hr.mono (by decide)) rfl RC.gm bR .nil pass0 (pa_cons (pv 0) pa_nil)))
      (pss_cons (ps_expr (pe_meth (pv 1) RC.cl mT GT (hr.mono (by decide)) bT .nil pass (pa_cons (pe_glob (v := .int 115) rfl g115 ⟨_, rfl⟩) (pa_cons (pe_glob (v := .int 115) rfl g115 ⟨_, rfl⟩) pa_nil))))
      (pss_cons (ps_set (i := 2) nd rfl (Or.inl rfl) (pe_meth (pv 1) RC.cl mT GT (hr.mono (by decide)) bT .nil pass (pa_cons pe_int (pa_cons (ClX.pe_cval (pe_glob (v := .ref CP) rfl PC.gm rfl)) pa_nil))))
      (pss_cons (ps_set (i := 3) nd rfl (Or.inl rfl) (pe_lst pa_nil))
      (pss_cons (ps_for (passes_of rfl) rfl (pi_range1 (by rfl) B.range (pa_cons (pv 2) pa_nil)) (pg_name (i := 4) nd rfl (Or.inl rfl))
        (pss_cons (ps_set (i := 5) nd rfl (Or.inl rfl) (pe_call GN (hr.mono (by decide)) rfl mN kN bN .nil pass (pa_cons (pv 1) (pa_cons (pe_lc (own := [("stay", 8)]) (g := gName 8) (tt := tYes) (te := tOp (rIxT K) (tVar 8) (tC (.int 0))) rfl nd (pi_list (pv 3)) (blkOk_by (own := [("stay", 8)]) (N := NDE) (sc := defScope sDecodeParty) (by decide +kernel))
            (fun _ _ _ _ _ => pg_name (i := 8) nd rfl (Or.inl rfl)) (fun _ _ _ _ _ => pts_nil) (fun _ _ _ _ _ => pe_ix ix_tup (pv 8) pe_int (fun _ _ => rfl))) pa_nil))))
        (pss_cons (ps_set (i := 6) nd rfl (Or.inl rfl) (pe_meth (pv 1) RC.cl mT GT (hr.mono (by decide)) bT .nil pass (pa_cons pe_int (pa_cons (pe_glob (v := .int 1000000000) rfl gL ⟨_, rfl⟩) pa_nil))))
        (pss_cons (ps_set (i := 7) nd rfl (Or.inl rfl) (pe_meth (pv 1) RC.cl mT GT (hr.mono (by decide)) bT .nil pass (pa_cons (pe_op op_add (pv 6) pe_int) (pa_cons (pe_glob (v := .int 1000000000) rfl gL ⟨_, rfl⟩) pa_nil))))
        (pss_one (ps_expr (pe_bm PySem.F.plainAttrs_list PySem.F.slot_list_append PySem.F.type_list_append mt_append (pv 3) (pa_cons (pe_tup (pa_cons (pv 5) (pa_cons (pv 6) (pa_cons (pv 7) pa_nil)))) pa_nil))))))))
      (pss_cons (ps_expr (pe_meth0 (pv 1) RC.cl mE GE (hr.mono (by decide)) bE .nil pass))
      (pss_one (ps_ret (pe_makeS M GI hr rfl PC.gm pass (pv 3))))))))), ?_⟩
    refine ⟨_, rfl, fun r dx hr0 hdx ne => ⟨r, dx, a, rfl, upd_same, fun H1 e1 b1 => ⟨rfl, ?_⟩⟩⟩
    have s1 : Same H H1 := fun b o e => b1 b o (by rw [upd_ne (ne_of_none e hr0), upd_ne (ne_of_none e hdx)]; exact e) (ne_of_none e hr0)
    have ra : a ≠ r := fun z => by rw [z, hr0] at ha; cases ha
    clear b1 ne hdx
    -- the first item
    refine ⟨_, rfl, r, dx, _, rfl, e1, no_rd a 0 (by decide +kernel) (by decide +kernel), r, a, c, 0, 115, 115, rfl, ⟨dx, e1⟩, s1 _ _ ha, Nat.zero_le _, hc, fun ok2 H2 b2 rd2 => ?_, fun bad2 H2 d s2 e2 => kBad 0 (by unfold rdCode; rw [if_neg (by rw [bad2]; decide)]) H2 d (s1.trans s2) e2⟩
    have s2 := same_but1 s1 hr0 b2
    obtain ⟨dx2, e2⟩ := id rd2
    obtain ⟨lt2, _⟩ := need_lt ok2
    refine ⟨_, rfl, r, dx2, _, rfl, e2, no_rd a _ (by decide +kernel) (by decide +kernel), CP, mcP, .int 24, uP, rfl, rdP, cvP, r, a, c, 1, 0, 24, rfl, rd2, s2 _ _ ha, lt2, hc, fun ok3 H3 b3 rd3 => ?_, fun bad3 H3 d s3 e3 => kBad 1 (by unfold rdCode; rw [if_pos ok2, if_neg (by rw [bad3]; decide)]) H3 d (s2.trans s3) e3⟩
    have s3 := same_but1 s2 hr0 b3
    obtain ⟨lt3, lo3, hi3⟩ := need_lt ok3
    refine ⟨Nat.zero_le _, fun L hL => ?_⟩
    have nL : L ≠ r := fun z => by
      obtain ⟨dx3, e3⟩ := rd3
      rw [z, e3] at hL
      cases hL
    have HL0 : H L = none := s3.free hL
    have s4 : Same H (upd H3 L (.lst [])) := s3.trans (same_upd hL)
    have rest : rdCode c = match rdGuests c (at_ c 1).toNat 2 [] with
        | .error j => .error j
        | .ok (xs, i) => rdEnd c i xs := by
      first
        | (unfold rdCode; rw [if_pos ok2, if_pos ok3]; done)
        | (unfold rdCode; rw [if_pos ok2, if_pos ok3]; cases rdGuests c (at_ c 1).toNat 2 [] <;> rfl)
    generalize hn : (at_ c 1).toNat = n at rest
    have n24 : n ≤ 24 := by omega
    refine ⟨_, rfl, at_ c 1, rfl, by omega, by omega, for_it walk_range (fun i σ H2 => ∃ o4 o5 o6 o7 o8 ws xs q, σ = [some (.ref a), some (.ref r), some (.int (at_ c 1)), some (.ref L), o4, o5, o6, o7, o8] ∧ Reading CR H c r L a ws xs q H2 ∧ xs.length = i ∧ rdGuests c n 2 [] = rdGuests c (n - i) q xs)
      ⟨none, none, none, none, none, [], [], 2, rfl, ⟨s4, upd_same, .nil, rd3.same (same_upd hL), lt3, Good.nil⟩, rfl, rfl⟩ (fun _ _ _ _ _ => trivial) ?_ ?_⟩
    · rintro i y σ H5' H5 hi ⟨o4, o5, o6, o7, o8, ws, xs, q, rfl, R5, hxl, hg⟩ ⟨rfl, ev⟩
      rw [hn] at hi
      have wl := pair_len R5.st
      have step : rdGuests c (n - i) q xs = match rdGuest c q (names xs) with
          | .error j => .error j
          | .ok (x, q') => rdGuests c (n - (i + 1)) q' (xs ++ [x]) := by
        rw [show n - i = (n - (i + 1)) + 1 by omega]
        rfl
      -- the names
      refine ⟨_, rfl, _, rfl, L, rfl, ⟨_, SqL.of R5.lst⟩, fun D hD => ?_⟩
      refine lc_map walk_list (fun j => (xs[j]?).map fun x => V.str x.1) hD (by rw [wl, hxl]; exact Nat.le_trans (Nat.le_of_lt hi) (Nat.le_trans n24 (by decide))) (fun H6 s6 => SqL.of (s6 _ _ R5.lst)) (fun j v H6 H7 hj s6 yy RR k6 => ?_) (fun j hj => ⟨_, by rw [List.getElem?_eq_getElem (by rw [← wl]; exact hj)]; rfl⟩) fun H6 s6 e6 => ?_
      · obtain ⟨rfl, e2⟩ := yy
        obtain ⟨x, hx, t, rfl, ht⟩ := pair_get R5.st e2
        refine ⟨rfl, _, rfl, t, _, _, .str x.1, rfl, rfl, SqT.of (s6 _ _ ht), rfl, ?_⟩
        exact k6 _ _ (Same.refl _) (by rw [hx]; rfl)
      · rw [wl, gather_map xs fun x => V.str x.1] at e6
        have e6' : H6 D = some (.lst ((names xs).map V.str)) := by
          rw [e6]
          unfold names
          rw [List.map_map]
          rfl
        have R6 := R5.on hr0 nL (But1.of s6) (R5.rd.same s6) R5.q
        refine ⟨r, a, D, c, q, names xs, rfl, R6.rd, R6.same _ _ ha, R6.q, hc, e6', ?_, fun z q1 ez H7 b7 rd7 => ?_, fun j ej H7 d b7 e7 => ?_⟩
        · unfold names
          rw [List.length_map, hxl]
          omega
        · obtain ⟨z1, z2, z3, z4, z5, z6⟩ := rdName_ok ez
          have R7 := R6.on hr0 nL b7 rd7 z5
          obtain ⟨dx7, e7⟩ := id rd7
          refine ⟨_, rfl, r, dx7, _, rfl, e7, no_rd a _ (by decide +kernel) (by decide +kernel), r, a, c, q1, 0, 1000000000, rfl, rd7, R7.same _ _ ha, z5, hc, fun ok8 H8 b8 rd8 => ?_, fun bad8 H8 d s8 e8 => ?_⟩
          · obtain ⟨lt8, lo8, hi8⟩ := need_lt ok8
            have R8 := R7.on hr0 nL b8 rd8 lt8
            obtain ⟨dx8, e8⟩ := id rd8
            refine ⟨_, rfl, r, dx8, _, rfl, e8, no_rd a _ (by decide +kernel) (by decide +kernel), _, rfl, _, _, rfl, rfl, r, a, c, q1 + 1, at_ c q1 + 1, 1000000000, rfl, rd8, R8.same _ _ ha, lt8, hc, fun ok9 H9 b9 rd9 => ?_, fun bad9 H9 d s9 e9 => ?_⟩
            · obtain ⟨lt9, lo9, hi9⟩ := need_lt ok9
              have R9 := R8.on hr0 nL b9 rd9 lt9
              have eg : rdGuest c q (names xs) = .ok ((z, at_ c q1, at_ c (q1 + 1)), q1 + 2) := by
                unfold rdGuest
                rw [ez]
                simp only
                rw [if_pos ok8, if_pos ok9]
              refine ⟨_, rfl, .inl ⟨rfl, _, SqL.of R9.lst⟩, _, rfl, _, rfl, _, rfl, by show 3 ≤ sizeLine; decide, fun t ht => ?_⟩
              have st : Same H9 (upd H9 t (.tup [.str z, .int (at_ c q1), .int (at_ c (q1 + 1))])) := same_upd ht
              have nLt : L ≠ t := ne_of_none R9.lst ht
              have hLt := st _ _ R9.lst
              refine ⟨L, ws, .ref t, rfl, rfl, hLt, by rw [wl, hxl]; exact Nat.lt_of_lt_of_le hi (Nat.le_trans n24 (by decide)), ?_⟩
              have R10 := R9.on hr0 nL (But1.of st) (R9.rd.same st) R9.q
              refine ⟨_, _, _, _, _, ws ++ [.ref t], xs ++ [(z, at_ c q1, at_ c (q1 + 1))], q1 + 2, rfl, ⟨fun b o e => ?_, upd_same, ?_, ?_, R9.q, R9.good.snoc eg⟩, by rw [List.length_append, hxl]; rfl, ?_⟩
              · rw [upd_ne (ne_of_none e HL0)]
                exact R10.same b o e
              · refine pair_app (StaysV.updL hLt R10.st) (.cons ⟨t, rfl, ?_⟩ .nil)
                rw [upd_ne (Ne.symm nLt)]
                exact upd_same
              · obtain ⟨dx9, e9⟩ := R10.rd
                exact ⟨dx9, by rw [upd_ne (Ne.symm nL)]; exact e9⟩
              · rw [hg, step, eg]
            · refine kBad (q1 + 1) ?_ H9 d (R8.same.trans s9) e9
              have eg : rdGuest c q (names xs) = .error (q1 + 1) := by
                unfold rdGuest
                rw [ez]
                simp only
                rw [if_pos ok8, if_neg (by rw [bad9]; decide)]
              rw [rest, hg, step, eg]
          · refine kBad q1 ?_ H8 d (R7.same.trans s8) e8
            have eg : rdGuest c q (names xs) = .error q1 := by
              unfold rdGuest
              rw [ez]
              simp only
              rw [if_neg (by rw [bad8]; decide)]
            rw [rest, hg, step, eg]
        · refine kBad j ?_ H7 d (same_but1 R6.same hr0 b7) e7
          have eg : rdGuest c q (names xs) = .error j := by
            unfold rdGuest
            rw [ej]
          rw [rest, hg, step, eg]
    · rintro σ H5 ⟨o4, o5, o6, o7, o8, ws, xs, q, rfl, R5, hxl, hg⟩
      rw [hn] at hxl hg
      have hg : rdGuests c n 2 [] = .ok (xs, q) := by
        rw [hg, Nat.sub_self]
        rfl
      obtain ⟨dx5, e5⟩ := id R5.rd
      refine ⟨_, rfl, r, dx5, _, rfl, e5, no_rd a _ (by decide +kernel) (by decide +kernel), r, a, c, q, rfl, R5.rd, R5.same _ _ ha, R5.q, hc, fun ok6 H6 b6 => ?_, fun j bad6 H6 d b6 e6 => ?_⟩
      · have res : rdCode c = .ok xs := by
          rw [rest, hg]
          simp only
          rw [rdEnd_xs, ok6]
        have s6 := same_but1 R5.same hr0 b6
        have v := R5.good.valid (by omega)
        refine ⟨_, rfl, L, ws, rfl, .inr (SqL.of (b6 _ _ R5.lst nL)), ?_⟩
        refine party_new (C := CP) (CI := CI) (R5.st.but1 R5.rd b6) R5.good.short (by rw [pair_len R5.st, hxl]; exact Nat.le_trans n24 (by decide)) (fun _ p H' s' hp PA => kOk xs res p H' (s6.trans s') PA) fun i hi => ?_
        rw [valid_iff.mpr v] at hi
        cases hi
      · refine kBad j ?_ H6 d (same_but1 R5.same hr0 b6) e6
        rw [rest, hg]
        simp only
        rw [rdEnd_xs, bad6]
end
end Sh1
set_option Elab.async false
set_option linter.all false
set_option maxRecDepth 100000
set_option maxHeartbeats 4000000
/-! encode_party. -/
namespace Sh1
open PySem L2 Sho NdefX Shg
theorem csum_at {c : List Int} {i : Nat} : at_ c i = (c[i]?).getD 0 := rfl
theorem letter_ix {ch : Nat} (h1 : 97 ≤ ch) (h2 : ch ≤ 122) : PySem.Builtin.Str.occurrences alpha ⟨#[ch]⟩ 0 alpha.length 1 = [ch - 97] := by
  have := alpha_ix ⟨ch - 97, by omega⟩
  rw [alpha_len]
  have e : 97 + (ch - 97) = ch := by omega
  simp only [e] at this
  exact this
theorem enc_snoc {xs : List Stay} {x : Stay} : encAll (xs ++ [x]) = encAll xs ++ encG x := by
  unfold encAll
  simp
theorem encG_len {x : Stay} : (encG x).length = x.1.length + 3 := by
  unfold encG encN
  simp
  rfl
theorem enc_len {xs : List Stay} (h : ∀ x ∈ xs, x.1.length ≤ 8) : (encAll xs).length ≤ 11 * xs.length := by
  induction xs with
  | nil => exact Nat.le_refl _
  | cons x xs ih =>
    have e : encAll (x :: xs) = encG x ++ encAll xs := rfl
    rw [e, List.length_append, encG_len, List.length_cons]
    have a := h x List.mem_cons_self
    have b := ih fun y hy => h y (List.mem_cons_of_mem _ hy)
    omega
section
variable {P : Program} {w : World} {K : PySem.W.Frag} {mg : Str → Option Value} {base : Heap}
abbrev NEN : List Str := ["party", "code", "name", "come", "go", "letters", "letter"]
def spEncode (CP : Addr) : Sp := fun vs H Q _ => ∃ (p : Addr) (xs : List Stay), vs = [.ref p] ∧ PartyAt CP H p xs ∧ (∀ x ∈ xs, okName x.1 = true) ∧ xs.length ≤ 24 ∧
  ∀ (L : Addr) (H' : Hp), Same H H' → H L = none → H' L = some (.lst ((plain xs ++ [csum (plain xs)]).map V.int)) → Q (.ref L) H'
theorem scEncode : FnScope NEN ["party"] (defScope sEncodeParty) := ⟨rfl, rfl, rfl, by decide +kernel, rfl, by decide +kernel, by decide +kernel⟩
theorem ok_encode {f CP fS pS fL fM : Addr} {fd fdS fdL fdM : FuncData} {t115 tA : Tok} (F : Fun K "encode_party" "encode_party" sEncodeParty f fd) (B : Shg.Blt mg) (PC : PartyC K mg CP) (g115 : mg "FIRST_ITEM" = some (.int 115 t115)) (gA : mg "LETTERS" = some (.str alpha tA))
    (GS : FnOk P w K mg base CX0 1 fS fdS ["self"] (getSp CP "_stays")) (hS : PropOf K CP "stays" pS fS) (bS : Binds K fdS ["self"] [])
    (GL : FnOk P w K mg base CX0 1 fL fdL ["self"] (spPLen CP)) (bL : Binds K fdL ["self"] []) (iL : PySem.W.findIn K (.ref CP) "__len__" = some (some (.ref fL))) (jL : PySem.W.isFn K (.ref fL) = true)
    (GM : FnOk P w K mg base CX0 1 fM fdM ["code"] (spSum K)) (mM : mg "_checksum" = some (.ref fM)) (kM : PySem.W.keepIn K (.ref fM) = true) (bM : Binds K fdM ["code"] []) :
    FnOk P w K mg base CX0 4 f fd ["party"] (spEncode CP) := by
  refine F.ok scEncode (fun vs H Q E h => ?_) (fun cdv A outer s H vs Q E hr h => ?_)
  · obtain ⟨p, xs, rfl, _⟩ := h
    rfl
  · obtain ⟨p, xs, rfl, PA, hok, hl, k⟩ := h
    have nd := scEncode.nd
    refine ⟨_, pss_cons (ps_set (i := 1) nd rfl (Or.inl rfl) (pe_lst (pa_cons (pe_glob (v := .int 115) rfl g115 ⟨_, rfl⟩) (pa_cons (pe_callB (call_lenO (fnr_of GL bL) (hr.mono (by decide)) pass0 iL jL) (by rfl) B.len PySem.boot_len (pa_cons (pv 0) pa_nil)) pa_nil))))
      (pss_cons (ps_for PassesOwn.never rfl (pi_tup (pe_prop (pv 0) PC.cl hS GS (hr.mono (by decide)) bS .nil pass0 rfl)) (pg_tup rfl (pgs_cons (pg_name (i := 2) nd rfl (Or.inl rfl)) (pgs_cons (pg_name (i := 3) nd rfl (Or.inl rfl)) (pgs_cons (pg_name (i := 4) nd rfl (Or.inl rfl)) pgs_nil))))
        (pss_cons (ps_setLc (i := 5) (own := [("letter", 6)]) (g := gName 6) (tt := tYes) (te := tOp (rI0 fun i j => .int (i + j)) (tBM K "str" (fun x xs H Q => ∃ (a b : Str) (i : Nat) (r : List Nat), x = .str a ∧ xs = [.str b] ∧ PySem.Builtin.Str.occurrences a b 0 a.length 1 = i :: r ∧ Q (.int (i : Nat)) H) (tC (.str alpha)) (tCons (tVar 6) tNil)) (tC (.int 1))) rfl nd rfl rfl (sw_true rfl rfl rfl rfl)
            (pi_str (pv 2)) (blkOk_by (own := [("letter", 6)]) (N := NEN) (sc := defScope sEncodeParty) (by decide +kernel)) (fun _ _ _ _ _ => pg_name (i := 6) nd rfl (Or.inl rfl)) (fun _ _ _ _ _ => pts_nil)
            (fun _ _ _ _ _ => pe_op op_add (pe_bm PySem.F.plainAttrs_str PySem.F.slot_str_index PySem.F.type_str_index mt_sindex (pe_glob (v := .str alpha) (by rfl) (by exact gA) ⟨_, rfl⟩) (pa_cons (pv 6) pa_nil)) pe_int))
        (pss_one (ps_expr (pe_bm PySem.F.plainAttrs_list PySem.F.slot_list_extend PySem.F.type_list_extend mt_extend (pv 1) (pa_cons (pe_lst (pa_cons (pe_callB call_len_str (by rfl) B.len PySem.boot_len (pa_cons (pv 2) pa_nil)) (StX.pa_star (pv 5) (pa_cons (pv 3) (pa_cons (pv 4) pa_nil))))) pa_nil))))))
      (pss_cons (ps_expr (pe_bm PySem.F.plainAttrs_list PySem.F.slot_list_append PySem.F.type_list_append mt_append (pv 1) (pa_cons (pe_call GM (hr.mono (by decide)) rfl mM kM bM .nil pass0 (pa_cons (pv 1) pa_nil)) pa_nil)))
      (pss_one (ps_ret (pv 1))))), ?_⟩
    obtain ⟨dx, a, ws, h1, h2, h3⟩ := id PA
    have wl := pair_len h3
    have short : ∀ x ∈ xs, x.1.length ≤ 8 := fun x hx => (ok_cps (hok x hx)).2.1
    have take_short : ∀ i, ∀ x ∈ xs.take i, x.1.length ≤ 8 := fun i x hx => short x (List.mem_of_mem_take hx)
    have el : ∀ i, (encAll (xs.take i)).length ≤ 264 := fun i => by
      have e := enc_len (take_short i)
      have : (xs.take i).length ≤ 24 := Nat.le_trans (List.length_take_le' ..) hl
      omega
    refine ⟨_, rfl, p, rfl, ⟨dx, _, h1⟩, p, xs, rfl, PA, _, rfl, by omega, by omega, by show 2 ≤ sizeLine; decide, fun L hL => ?_⟩
    have s1 : Same H (upd H L (.lst [.int 115, .int (xs.length : Nat)])) := same_upd hL
    refine ⟨_, rfl, p, dx, _, rfl, s1 _ _ h1, p, dx, _, .ref a, rfl, s1 _ _ h1, lk_stays _, a, rfl, ⟨_, SqT.of (s1 _ _ h2)⟩, for_it walk_tup (fun i σ H2 => ∃ o2 o3 o4 o5 o6, σ = [some (.ref p), some (.ref L), o2, o3, o4, o5, o6] ∧ Same H H2 ∧ H2 L = some (.lst ((115 :: (xs.length : Int) :: encAll (xs.take i)).map V.int)))
      ⟨none, none, none, none, none, rfl, s1, upd_same⟩ (fun i σ H2 _ ⟨_, _, _, _, _, _, s2, _⟩ => SqT.of (s2 _ _ h2)) ?_ ?_⟩
    · rintro i y σ H3 H2 hi ⟨o2, o3, o4, o5, o6, rfl, s2, hL2⟩ ⟨rfl, ey⟩
      obtain ⟨x, hx, t, rfl, ht⟩ := pair_get h3 ey
      have hxm := List.mem_of_getElem? hx
      obtain ⟨n1, n8, nc⟩ := ok_cps (hok x hxm)
      refine ⟨t, _, rfl, SqT.of (s2 _ _ ht), rfl, _, _, rfl, _, _, rfl, _, _, rfl, rfl, ?_⟩
      refine ⟨_, rfl, x.1, rfl, fun D hD => ?_⟩
      refine lc_map (walk_str (z := x.1)) (fun j => (x.1.cps.toList[j]?).map fun ch : Nat => .int ((ch : Int) - 96)) hD (Nat.le_trans n8 (by decide)) (fun _ _ => trivial) (fun j v H4 H5 hj s4 yy R k1 => ?_) (fun j hj => ⟨_, by rw [List.getElem?_eq_getElem (by simpa using hj)]; rfl⟩) fun H4 s4 e4 => ?_
      · obtain ⟨rfl, ch, hc, rfl⟩ := yy
        have hc' : x.1.cps.toList[j]? = some ch := by
          rw [Array.getElem?_toList]
          exact hc
        obtain ⟨c1, c2⟩ := nc ch (List.mem_of_getElem? hc')
        refine ⟨rfl, rfl, _, rfl, alpha, ⟨#[ch]⟩, ch - 97, [], rfl, rfl, letter_ix c1 c2, _, _, rfl, rfl, k1 _ _ (Same.refl _) ?_⟩
        rw [hc']
        show some (V.int ((ch : Int) - 96)) = some (V.int (((ch - 97 : Nat) : Int) + 1))
        congr 2
        omega
      · have e5 : H4 D = some (.lst ((x.1.cps.toList.map fun ch : Nat => (ch : Int) - 96).map V.int)) := by
          rw [e4]
          have := gather_map x.1.cps.toList fun ch : Nat => V.int ((ch : Int) - 96)
          rw [Array.length_toList] at this
          rw [show (fun j => Option.map (fun ch : Nat => V.int ((ch : Int) - 96)) x.1.cps.toList[j]?) = fun j => (x.1.cps.toList[j]?).map fun ch : Nat => V.int ((ch : Int) - 96) from rfl] 
          rw [this, List.map_map]
          rfl
        have s24 := s2.trans s4
        have hL4 := s4 _ _ hL2
        refine ⟨_, rfl, .inl ⟨rfl, _, SqL.of hL4⟩, _, rfl, x.1, rfl, Nat.le_trans n8 (by decide), _, rfl, D, _, rfl, .inr (SqL.of e5), _, rfl, _, rfl, ?_, fun M hM => ?_⟩
        · have eM : (V.int (x.1.length : Nat)) :: (((x.1.cps.toList.map fun ch : Nat => (ch : Int) - 96).map V.int) ++ [V.int x.2.1, V.int x.2.2]) = (encG x).map V.int := by
            unfold encG encN
            simp
          have el : ((encG x).map V.int).length ≤ sizeLine := by
            rw [List.length_map, encG_len, sizeLine_eq]
            omega
          rw [← eM] at el
          exact el
        · have eM : (V.int (x.1.length : Nat)) :: (((x.1.cps.toList.map fun ch : Nat => (ch : Int) - 96).map V.int) ++ [V.int x.2.1, V.int x.2.2]) = (encG x).map V.int := by
            unfold encG encN
            simp
          rw [eM]
          have s5 : Same H4 (upd H4 M (.lst ((encG x).map V.int))) := same_upd hM
          have hL5 := s5 _ _ hL4
          have hM5 : (upd H4 M (.lst ((encG x).map V.int))) M = some (.lst ((encG x).map V.int)) := upd_same
          generalize upd H4 M (.lst ((encG x).map V.int)) = H5 at s5 hL5 hM5
          have take1 : xs.take (i + 1) = xs.take i ++ [x] := by rw [List.take_add_one, hx]; rfl
          refine ⟨L, M, _, _, rfl, rfl, hL5, hM5, ?_, ?_⟩
          · rw [List.length_map, List.length_map, encG_len]
            have := el i
            show (encAll (xs.take i)).length + 1 + 1 + (x.1.length + 3) ≤ sizeLine
            rw [sizeLine_eq]
            omega
          · refine ⟨_, _, _, _, _, rfl, fun b o e => ?_, ?_⟩
            · rw [upd_ne (ne_of_none e hL)]
              exact (s24.trans s5) b o e
            · rw [upd_same, take1, enc_snoc, ← List.map_append]
              rfl
    · rintro σ H2 ⟨o2, o3, o4, o5, o6, rfl, s2, hL2⟩
      rw [wl, List.take_length] at hL2
      have pl : (plain xs).length < 1000 := by
        have := el xs.length
        rw [List.take_length] at this
        rw [plain_len]
        omega
      refine ⟨_, rfl, .inl ⟨rfl, _, SqL.of hL2⟩, _, rfl, L, plain xs, rfl, SqL.of hL2, fun H' s' => SqL.of (s' _ _ hL2), pl, fun H3 s3 => ?_⟩
      refine ⟨L, _, _, rfl, rfl, s3 _ _ hL2, ?_, _, rfl, k L _ (fun b o e => ?_) hL ?_⟩
      · rw [List.length_map]
        exact Nat.lt_trans pl (by decide)
      · rw [upd_ne (ne_of_none e hL)]
        exact s3 _ _ (s2 _ _ e)
      · rw [upd_same, List.map_append]
        rfl
end
end Sh1
set_option Elab.async false
set_option linter.all false
set_option maxRecDepth 100000
set_option maxHeartbeats 2000000
/-! The state of the draws, through what changes beside it. -/
namespace Sh4
open PySem L2 Sho NdefX Shg Sh1
theorem NextSt.fresh {H : Hp} {l S p : Addr} (d : NextSt H l S) (h : H p = none) : p ≠ l ∧ p ≠ S := by
  obtain ⟨⟨m, q, cells, h1, h2, _⟩, _⟩ := d
  exact ⟨fun z => (by rw [z, h1] at h; cases h), fun z => (by rw [z, h2] at h; cases h)⟩
/-- an object that is no list is neither -/
theorem NextSt.other {H : Hp} {l S b : Addr} {o : HO} (d : NextSt H l S) (h : H b = some o) (n : ∀ ys, o ≠ .lst ys) : b ≠ l ∧ b ≠ S := by
  obtain ⟨⟨m, q, cells, h1, h2, _⟩, _⟩ := d
  exact ⟨fun z => (by rw [z, h1] at h; exact n _ (Option.some.inj h).symm), fun z => (by rw [z, h2] at h; exact n _ (Option.some.inj h).symm)⟩
theorem NextSt.keep {H H' : Hp} {l S : Addr} (d : NextSt H l S) (e : LamX.ExtN H H') : NextSt H' l S := by
  obtain ⟨⟨m, p, cells, h1, h2, h3⟩, n⟩ := d
  exact ⟨⟨m, p, cells, e _ _ h1 (fun _ z => nomatch z), e _ _ h2 (fun _ z => nomatch z), h3⟩, n⟩
theorem tabs_but2 {l S : Addr} {H H' : Hp} {T : List (Addr × Str)} (d : NextSt H l S) (e : But2 l S H H') (t : LamX.Tabs T H) : LamX.Tabs T H' := fun p hp => by
  obtain ⟨qs, q1, q2, q3⟩ := t p hp
  obtain ⟨n1, n2⟩ := d.other q1 fun ys z => nomatch z
  refine ⟨qs, e _ _ q1 n1 n2, q2, fun p' cv h => ?_⟩
  obtain ⟨c, e1, e2⟩ := q3 p' cv h
  obtain ⟨n3, n4⟩ := d.other e2 fun ys z => nomatch z
  exact ⟨c, e1, e _ _ e2 n3 n4⟩
theorem NextSt.upd {H : Hp} {l S p : Addr} {o : HO} (d : NextSt H l S) (n1 : p ≠ l) (n2 : p ≠ S) : NextSt (upd H p o) l S := by
  obtain ⟨⟨m, q, cells, h1, h2, h3⟩, n⟩ := d
  exact ⟨⟨m, q, cells, by rw [upd_ne (Ne.symm n1)]; exact h1, by rw [upd_ne (Ne.symm n2)]; exact h2, h3⟩, n⟩
end Sh4
set_option Elab.async false
set_option linter.all false
set_option maxRecDepth 100000
set_option maxHeartbeats 4000000
/-! The law's stays, party, sum and code. -/
namespace Sh1
open PySem L2 Sho NdefX Shg Sh4
def eight : List Str := ["ann", "bob", "cid", "dee", "eva", "fay", "gus", "abcdefgh"]
theorem eight_len : eight.length = 8 := rfl
theorem eight_ok : ∀ z ∈ eight, okName z = true ∧ z.cps.all (· < 0x110000) = true ∧ z.length ≤ 8 := by
  have h : (eight.all fun z => okName z && (z.cps.all (· < 0x110000) && decide (z.length ≤ 8))) = true := by decide +kernel
  intro z hz
  have := List.all_eq_true.mp h z hz
  simp only [Bool.and_eq_true, decide_eq_true_eq] at this
  exact ⟨this.1, this.2.1, this.2.2⟩
theorem eight_nd : eight.Nodup := by decide +kernel
/-- stays as they are drawn -/
structure Drawn (last : Int) (xs : List Stay) : Prop where
  nm : names xs = eight.take xs.length
  tm : ∀ x ∈ xs, 0 ≤ x.2.1 ∧ x.2.1 < x.2.2 ∧ x.2.2 ≤ last
theorem names_len (xs : List Stay) : (names xs).length = xs.length := List.length_map ..
theorem stays_but2 {l S : Addr} {H H' : Hp} (d : NextSt H l S) (b : But2 l S H H') : ∀ {ws : List V} {xs : List Stay}, StaysV H ws xs → StaysV H' ws xs
  | _, _, .nil => .nil
  | _, _, .cons h t => by
    obtain ⟨p, e, hp⟩ := h
    obtain ⟨n1, n2⟩ := d.other hp fun ys z => nomatch z
    exact .cons ⟨p, e, b _ _ hp n1 n2⟩ (stays_but2 d b t)
theorem ins_par {C p : Addr} {H : Hp} {xs : List Stay} (h : PartyAt C H p xs) : InsAt H p C := by
  obtain ⟨dx, a, ws, h1, _⟩ := h
  exact ⟨dx, _, h1⟩
theorem eight_at {k : Nat} (h : k < 8) : ∃ z, eight[k]? = some z := ⟨_, List.getElem?_eq_getElem (by rw [eight_len]; exact h)⟩
section
variable {P : Program} {w : World} {K : PySem.W.Frag} {mg : Str → Option Value} {base : Heap}
abbrev NST : List Str := ["_law_h", "_law_most", "_law_last", "_law_found", "_law_k", "_law_come", "_law_name"]
def spStays (K : PySem.W.Frag) : Sp := fun vs H Q _ => ∃ (l S : Addr) (most last : Int), vs = [.ref l, .int most, .int last] ∧ NextSt H l S ∧ 0 ≤ most ∧ most ≤ 7 ∧ 0 < last ∧ last < 1073741824 ∧
  ∀ (t : Addr) (ws : List V) (xs : List Stay) (H' : Hp), But2 l S H H' → NextSt H' l S → H' t = some (.tup ws) → StaysV H' ws xs → (xs.length : Int) ≤ most → Drawn last xs → Q (.ref t) H'
theorem scStays : FnScope NST ["_law_h", "_law_most", "_law_last"] (defScope sLawStays) := ⟨rfl, rfl, rfl, by decide +kernel, rfl, by decide +kernel, by decide +kernel⟩
theorem ok_lawStays {f f2 : Addr} {fd fd2 : FuncData} (F : Fun K "_law_stays" "_law_stays" sLawStays f fd) (B : Shg.Blt mg)
    (G2 : FnOk P w K mg base CX0 1 f2 fd2 ["_law_h", "_law_limit"] spNext) (m2 : mg "_law_next" = some (.ref f2)) (k2 : PySem.W.keepIn K (.ref f2) = true) (b2 : Binds K fd2 ["_law_h", "_law_limit"] []) :
    FnOk P w K mg base CX0 2 f fd ["_law_h", "_law_most", "_law_last"] (spStays K) := by
  refine F.ok scStays (fun vs H Q E h => ?_) (fun cdv A outer s H vs Q E hr h => ?_)
  · obtain ⟨l, S, most, last, rfl, _⟩ := h
    rfl
  · obtain ⟨l, S, most, last, rfl, D0, m0, m7, l0, l1, k⟩ := h
    have nd := scStays.nd
    refine ⟨_, pss_cons (ps_set (i := 3) nd rfl (Or.inl rfl) (pe_lst pa_nil))
      (pss_cons (ps_for PassesOwn.never rfl (pi_range1 (by rfl) B.range (pa_cons (pe_call G2 (hr.mono (by decide)) rfl m2 k2 b2 .nil pass0 (pa_cons (pv 0) (pa_cons (pe_op op_add (pv 1) pe_int) pa_nil))) pa_nil)) (pg_name (i := 4) nd rfl (Or.inl rfl))
        (pss_cons (ps_set (i := 5) nd rfl (Or.inl rfl) (pe_call G2 (hr.mono (by decide)) rfl m2 k2 b2 .nil pass0 (pa_cons (pv 0) (pa_cons (pv 2) pa_nil))))
        (pss_cons (ps_set (i := 6) nd rfl (Or.inl rfl) (pe_ix ix_list (pe_lst (pa_cons pe_str (pa_cons pe_str (pa_cons pe_str (pa_cons pe_str (pa_cons pe_str (pa_cons pe_str (pa_cons pe_str (pa_cons pe_str pa_nil))))))))) (pv 4) (fun _ _ => rfl)))
        (pss_one (ps_expr (pe_bm PySem.F.plainAttrs_list PySem.F.slot_list_append PySem.F.type_list_append mt_append (pv 3) (pa_cons (pe_tup (pa_cons (pv 6) (pa_cons (pv 5) (pa_cons
          (pe_op op_add (pe_op op_add (pv 5) pe_int) (pe_call G2 (hr.mono (by decide)) rfl m2 k2 b2 .nil pass0 (pa_cons (pv 0) (pa_cons (pe_op op_sub (pv 2) (pv 5)) pa_nil)))) pa_nil)))) pa_nil)))))))
      (pss_one (ps_ret (pe_callTy call_tuple_of (by rfl) B.tuple (by decide +kernel) (pa_cons (pv 3) pa_nil))))), ?_⟩
    refine ⟨Nat.zero_le _, fun L hL => ?_⟩
    obtain ⟨nLl, nLS⟩ := D0.fresh hL
    have D1 := D0.same (same_upd (o := .lst []) hL)
    refine ⟨_, rfl, _, rfl, _, _, rfl, rfl, l, S, most + 1, rfl, D1, by omega, by omega, fun r H1 r0 r1 b1 d1 => ?_⟩
    have e1 : H1 L = some (.lst []) := b1 _ _ upd_same nLl nLS
    have B1 : But2 l S H H1 := (But2.of (same_upd hL)).trans b1
    refine ⟨r, rfl, by omega, by omega, for_it walk_range (fun i σ H2 => ∃ o4 o5 o6 ws xs, σ = [some (.ref l), some (.int most), some (.int last), some (.ref L), o4, o5, o6] ∧ But2 l S H H2 ∧ NextSt H2 l S ∧ H2 L = some (.lst ws) ∧ StaysV H2 ws xs ∧ xs.length = i ∧ Drawn last xs)
      ⟨none, none, none, [], [], rfl, B1, d1, e1, .nil, rfl, rfl, fun _ h => nomatch h⟩ (fun _ _ _ _ _ => trivial) ?_ ?_⟩
    · rintro i y σ H3 H2 hi ⟨o4, o5, o6, ws, xs, rfl, B2, d2, e2, st2, hxl, dr⟩ ⟨rfl, rfl⟩
      have hi7 : i < 7 := by omega
      refine ⟨_, rfl, _, rfl, l, S, last, rfl, d2, l0, l1, fun come H4 c0 c1 b4 d4 => ?_⟩
      have st4 := stays_but2 d2 b4 st2
      have e4 := b4 _ _ e2 nLl nLS
      refine ⟨by show 8 ≤ sizeLine; decide, fun N hN => ?_⟩
      obtain ⟨z, hz⟩ := eight_at (k := i) (by omega)
      have sN : Same H4 (upd H4 N (.lst (eight.map V.str))) := same_upd hN
      refine ⟨_, rfl, N, eight.map V.str, _, .str z, rfl, rfl, SqL.of upd_same, ?_, ?_⟩
      · rw [show (0 : Int) + (i : Nat) = (i : Nat) by omega]
        exact atI_nat (by rw [List.getElem?_map, hz]; rfl)
      have d5 := d4.same sN
      have st5 := st4.same sN
      have e5 := sN _ _ e4
      have B5 := (B2.trans b4).trans (But2.of sN)
      refine ⟨_, rfl, .inl ⟨rfl, _, SqL.of e5⟩, _, rfl, _, rfl, _, rfl, _, _, rfl, rfl, _, rfl, _, rfl, _, rfl, _, _, rfl, rfl, l, S, last - come, rfl, d5, by omega, by omega, fun g H6 g0 g1 b6 d6 => ?_⟩
      have st6 := stays_but2 d5 b6 st5
      have e6 := b6 _ _ e5 nLl nLS
      refine ⟨_, _, rfl, rfl, by show 3 ≤ sizeLine; decide, fun t ht => ?_⟩
      have s7 : Same H6 (upd H6 t (.tup [.str z, .int come, .int (come + 1 + g)])) := same_upd ht
      have e7 := s7 _ _ e6
      have nt : t ≠ L := fun q => by rw [q, e6] at ht; cases ht
      refine ⟨L, ws, .ref t, rfl, rfl, e7, ?_, ?_⟩
      · rw [pair_len st6, hxl]
        exact Nat.lt_trans hi7 (by decide)
      · refine ⟨_, _, _, ws ++ [.ref t], xs ++ [(z, come, come + 1 + g)], rfl, ?_, (d6.same s7).upd nLl nLS, upd_same, ?_, by rw [List.length_append, hxl]; rfl, ?_, ?_⟩
        · intro b o e n1 n2
          rw [upd_ne (ne_of_none e hL)]
          exact ((B5.trans b6).trans (But2.of s7)) b o e n1 n2
        · refine pair_app (StaysV.updL e7 (st6.same s7)) (.cons ⟨t, rfl, ?_⟩ .nil)
          rw [upd_ne nt]
          exact upd_same
        · have en : names (xs ++ [(z, come, come + 1 + g)]) = names xs ++ [z] := by
            unfold names
            rw [List.map_append]
            rfl
          rw [en, dr.nm, List.length_append, hxl, List.length_singleton, List.take_add_one, hz]
          rfl
        · intro x hx
          rcases List.mem_append.mp hx with hx | hx
          · exact dr.tm x hx
          · rw [List.mem_singleton] at hx
            rw [hx]
            show 0 ≤ come ∧ come < come + 1 + g ∧ come + 1 + g ≤ last
            omega
    · rintro σ H2 ⟨o4, o5, o6, ws, xs, rfl, B2, d2, e2, st2, hxl, dr⟩
      refine ⟨_, rfl, L, ws, rfl, .inl ⟨SqL.of e2, fun t ht => ?_⟩⟩
      have s3 : Same H2 (upd H2 t (.tup ws)) := same_upd ht
      exact k t ws xs _ (B2.trans (But2.of s3)) (d2.same s3) upd_same (st2.same s3) (by omega) dr
abbrev NPA : List Str := ["_law_stays_here", "_law_party_here", "_law_stay"]
def spPartyT (K : PySem.W.Frag) (C : Addr) : Sp := fun vs H Q _ => ∃ (a : Addr) (ws : List V) (xs : List Stay), vs = [.ref a] ∧ H a = some (.tup ws) ∧ StaysV H ws xs ∧ Short xs ∧ Valid xs ∧
  ∀ (p : Addr) (H' : Hp), Same H H' → H p = none → PartyAt C H' p xs → Q (.ref p) H'
theorem scPartyT : FnScope NPA ["_law_stays_here"] (defScope sLawParty) := ⟨rfl, rfl, rfl, by decide +kernel, rfl, by decide +kernel, by decide +kernel⟩
theorem ok_partyT {f C CI fI fA : Addr} {fd fdA : FuncData} (F : Fun K "_law_party" "_law_party" sLawParty f fd) (PC : PartyC K mg C) (M : Mk K C fI) (GI : FnR P w K mg base (L2.CX P w) 5 fI (spPNew C CI))
    (hc : PySem.W.selfFirst K C = true) (hA : PySem.W.findIn K (.ref C) "__add__" = some (some (.ref fA))) (iA : PySem.W.isFn K (.ref fA) = true)
    (GA : FnOk P w K mg base (L2.CX P w) 7 fA fdA ["self", "other"] (spPAdd C CI)) (bA : Binds K fdA ["self", "other"] []) :
    FnOk P w K mg base (L2.CX P w) 8 f fd ["_law_stays_here"] (spPartyT K C) := by
  refine F.okX scPartyT (fun vs H Q E h => ?_) (fun cdv A outer s H vs Q E hr h => ?_)
  · obtain ⟨a, ws, xs, rfl, _⟩ := h
    rfl
  · obtain ⟨a, ws, xs, rfl, ha, hxs, hsh, hv, k⟩ := h
    have nd := scPartyT.nd
    have pass : Passes (L2.CX P w) (cxOf (L2.CX P w) P w K mg base NPA "_law_party" (defScope sLawParty) f cdv A outer s H E) E := passes_call (takes_of rfl rfl rfl rfl) fun _ _ _ _ z => z
    refine ⟨_, pss_cons (ps_set (i := 1) nd rfl (Or.inl rfl) (pe_makeR0 M GI (hr.mono (by decide)) rfl PC.gm pass))
      (pss_cons (ps_for (passes_of rfl) rfl (pi_tup (pv 0)) (pg_name (i := 2) nd rfl (Or.inl rfl))
        (pss_one (ps_set (i := 1) nd rfl (Or.inl rfl) (pe_op (op_own2 (fnr_of GA bA) hr pass hc hA iA) (pv 1) (StX.pe_makeR M GI (hr.mono (by decide)) rfl PC.gm pass (pa_cons (pv 2) pa_nil))))))
      (pss_one (ps_ret (pv 1)))), ?_⟩
    have len := pair_len hxs
    refine asg_seq (new0 fun p H1 s1 hp P1 => ?_)
    refine ⟨_, rfl, a, rfl, ⟨_, SqT.of (s1 _ _ ha)⟩, for_it walk_tup (fun i σ H2 => ∃ q o2, σ = [some (.ref a), some (.ref q), o2] ∧ Same H H2 ∧ H q = none ∧ PartyAt C H2 q (xs.take i))
      ⟨p, none, rfl, s1, hp, P1⟩ (fun i σ H2 _ ⟨_, _, _, s2, _⟩ => SqT.of (s2 _ _ ha)) ?_ ?_⟩
    · rintro i y σ H2 H3 hi ⟨q, o2, rfl, s2, hq, P2⟩ ⟨rfl, e2⟩
      obtain ⟨x, hx, hy⟩ := pair_get hxs e2
      have hxm := List.mem_of_getElem? hx
      have take1 : xs.take (i + 1) = xs.take i ++ [x] := by rw [List.take_add_one, hx]; rfl
      have sh1 : Short [x] := fun z hz => by
        rw [List.mem_singleton] at hz
        rw [hz]
        exact hsh x hxm
      refine ⟨_, rfl, new1 rfl (hy.same s2) sh1 ⟨fun _ r H4 s4 hr4 P4 => ?_, fun i hi => ?_⟩⟩
      · refine ⟨q, r, rfl, rfl, ins_par (P2.same s4), ins_par P4, q, r, xs.take i, [x], rfl, P2.same s4, P4, hsh.take i, sh1, ?_, ?_, ?_⟩
        · have := hv.len
          rw [List.length_take]
          simp only [List.length_cons, List.length_nil]
          omega
        · intro _ z H5 s5 hz P5
          exact ⟨_, _, rfl, (s2.trans s4).trans s5, (s2.trans s4).free hz, by rw [take1]; exact P5⟩
        · intro j hj
          rw [← take1, valid_iff.mpr (hv.take _)] at hj
          cases hj
      · rw [valid_iff.mpr (Valid.one (hv.ok x hxm))] at hi
        cases hi
    · rintro σ H2 ⟨q, o2, rfl, s2, hq, P2⟩
      refine ⟨_, rfl, k q H2 s2 hq ?_⟩
      rw [len, List.take_length] at P2
      exact P2
theorem scLSum : FnScope ["_law_values", "_law_k"] ["_law_values"] (defScope sLawSum) := ⟨rfl, rfl, rfl, by decide +kernel, rfl, by decide +kernel, by decide +kernel⟩
theorem ok_lsum {f : Addr} {fd : FuncData} (F : Fun K "_law_sum" "_law_sum" sLawSum f fd) (B : Shg.Blt mg) : FnOk P w K mg base CX0 1 f fd ["_law_values"] (spSum K) := by
  refine F.ok scLSum (fun vs H Q E h => ?_) (fun cdv A outer s H vs Q E hr h => ?_)
  · obtain ⟨a, c, rfl, _⟩ := h
    rfl
  · obtain ⟨a, c, rfl, ha, hst, hc, k⟩ := h
    have nd := scLSum.nd
    refine ⟨_, pss_one (ps_ret (pe_op op_mod (pe_callB (cr_sum rfl) (by rfl) B.sum (by decide +kernel) (pa_cons (pe_lc (own := [("_law_k", 1)]) (g := gName 1) (tt := tYes) (te := tOp (rI CMul fun i j => .int (i * j)) (tOp (rIxL K) (tVar 0) (tVar 1)) (tOp (rI0 fun i j => .int (i + j)) (tVar 1) (tC (.int 3)))) rfl nd
        (pi_range1 (by rfl) B.range (pa_cons (pe_callB call_len_seq (by rfl) B.len PySem.boot_len (pa_cons (pv 0) pa_nil)) pa_nil)) (blkOk_by (own := [("_law_k", 1)]) (N := ["_law_values", "_law_k"]) (sc := defScope sLawSum) (by decide +kernel))
        (fun _ _ _ _ _ => pg_name (i := 1) nd rfl (Or.inl rfl)) (fun _ _ _ _ _ => pts_nil) (fun _ _ _ _ _ => pe_op op_mul (pe_ix ix_list (pv 0) (pv 1) (fun _ _ => rfl)) (pe_op op_add (pv 1) pe_int))) pa_nil)) pe_int)), ?_⟩
    have len : (c.map V.int).length = c.length := List.length_map ..
    have ln : ((c.map V.int).length : Int).toNat = c.length := by rw [len]; simp
    refine ⟨_, rfl, a, c.map V.int, rfl, .inl ha, _, rfl, by omega, by rw [len]; omega, fun D hD => ?_⟩
    refine lc_map walk_range (fun i => some (.int (at_ c i * ((i : Int) + 3)))) hD (by rw [ln]; exact Nat.le_trans (Nat.le_of_lt hc) (by decide)) (fun _ _ => trivial) (fun i x H1 H' hi s1 y R k1 => ?_) (fun i hi => ⟨_, rfl⟩) fun H1 s1 e1 => ?_
    · obtain ⟨rfl, rfl⟩ := y
      rw [ln] at hi
      have zi : (0 : Int) + (i : Nat) = (i : Nat) := by omega
      refine ⟨rfl, _, rfl, _, rfl, a, c.map V.int, _, .int (at_ c i), rfl, rfl, hst _ s1, by rw [zi]; exact atI_nat (ints_at hi), _, rfl, _, _, rfl, rfl, _, _, rfl, rfl, .inr ⟨by omega, by omega⟩, ?_⟩
      exact k1 _ _ (Same.refl _) (by rw [zi])
    · rw [gather_fn, ln] at e1
      have e2 : (List.range c.length).map (fun i => V.int (at_ c i * ((i : Int) + 3))) = ((List.range c.length).map fun i => at_ c i * ((i : Int) + 3)).map V.int := by
        rw [List.map_map]
        rfl
      rw [e2] at e1
      refine ⟨D, _, rfl, SqL.of e1, _, _, rfl, rfl, by show (0 : Int) < 9973; decide, ?_⟩
      exact k _ s1
end
end Sh1
set_option Elab.async false
set_option linter.all false
set_option maxRecDepth 100000
set_option maxHeartbeats 4000000
/-! _law_code. -/
namespace Sh1
open PySem L2 Sho NdefX Shg Sh4
theorem lay_zs : ∀ xs : List Int, PyData.canLayAll0 (xs.map PyData.int) = true
  | [] => rfl
  | x :: xs => by
    show (true && PyData.canLayAll0 (xs.map PyData.int)) = true
    rw [lay_zs xs]
    rfl
theorem deep_zs : ∀ xs : List Int, PyData.depthAll (xs.map PyData.int) = 0
  | [] => rfl
  | x :: xs => by
    show max (PyData.depth (.int x)) (PyData.depthAll (xs.map PyData.int)) = 0
    rw [deep_zs xs]
    rfl
theorem shaped_zs (xs : List Int) : SeqAt.shaped (.list (xs.map PyData.int)) = true := by
  unfold SeqAt.shaped
  have h1 : PyData.canLay0 (.list (xs.map PyData.int)) = true := lay_zs xs
  have h2 : PyData.depth (.list (xs.map PyData.int)) ≤ 64 := by
    show PyData.depthAll (xs.map PyData.int) + 1 ≤ 64
    rw [deep_zs]
    decide
  rw [h1, decide_eq_true h2]
  rfl
theorem dp_zs {K : PySem.W.Frag} {H : Hp} : ∀ xs : List Int, DpAll K H (xs.map V.int) (xs.map PyData.int)
  | [] => .nil
  | x :: xs => .cons (.int x) (dp_zs xs)
theorem eqv_zs0 (xs : List Int) : PyData.eqv (.list (xs.map PyData.int)) (.list []) = xs.isEmpty := by
  cases xs <;> rfl
/-- a op b op c of ints -/
theorem chain_int {f g : Int → Int → Bool} {ta tb tc : TE} {σ : L2.St} {H : Hp} {i j k : Int} {R : Bool → Hp → Prop} (h1 : ∀ Q : VK, Q (.int i) H → ta σ H Q) (h2 : ∀ Q : VK, Q (.int j) H → tb σ H Q) (h3 : ∀ Q : VK, Q (.int k) H → tc σ H Q) (h : R (f i j && g j k) H) :
    tTest (tChain (rI0 fun i j => .bl (f i j)) (rI0 fun i j => .bl (g i j)) ta tb tc) σ H R := by
  refine h1 _ (h2 _ ⟨i, j, rfl, rfl, f i j, rfl, ?_⟩)
  cases e : f i j with
  | false =>
    rw [if_neg Bool.false_ne_true]
    rw [e] at h
    exact ⟨_, rfl, h⟩
  | true =>
    rw [if_pos rfl]
    rw [e] at h
    exact h3 _ ⟨j, k, rfl, rfl, _, rfl, h⟩
theorem chain_not {f g : Int → Int → Bool} {ta tb tc : TE} {σ : L2.St} {H : Hp} {i j k : Int} {R : Bool → Hp → Prop} (h1 : ∀ Q : VK, Q (.int i) H → ta σ H Q) (h2 : ∀ Q : VK, Q (.int j) H → tb σ H Q) (h3 : ∀ Q : VK, Q (.int k) H → tc σ H Q) (h : R (!(f i j && g j k)) H) :
    tNot (tTest (tChain (rI0 fun i j => .bl (f i j)) (rI0 fun i j => .bl (g i j)) ta tb tc)) σ H R := chain_int (R := fun b H' => R (!b) H') h1 h2 h3 h
section
variable {P : Program} {w : World} {K : PySem.W.Frag} {mg : Str → Option Value} {base : Heap}
abbrev NCO : List Str := ["_law_stays_here", "_law_values", "_law_name", "_law_come", "_law_go", "_law_c"]
def spCode : Sp := fun vs H Q _ => ∃ (a : Addr) (ws : List V) (xs : List Stay), vs = [.ref a] ∧ H a = some (.tup ws) ∧ StaysV H ws xs ∧ (∀ x ∈ xs, okName x.1 = true) ∧ xs.length ≤ 24 ∧
  ∀ (L : Addr) (H' : Hp), Same H H' → H L = none → H' L = some (.lst ((plain xs).map V.int)) → Q (.ref L) H'
theorem scCode : FnScope NCO ["_law_stays_here"] (defScope sLawCode) := ⟨rfl, rfl, rfl, by decide +kernel, rfl, by decide +kernel, by decide +kernel⟩
theorem ok_lcode {f : Addr} {fd : FuncData} (F : Fun K "_law_code" "_law_code" sLawCode f fd) (B : Shg.Blt mg) : FnOk P w K mg base CX0 1 f fd ["_law_stays_here"] spCode := by
  refine F.ok scCode (fun vs H Q E h => ?_) (fun cdv A outer s H vs Q E hr h => ?_)
  · obtain ⟨a, ws, xs, rfl, _⟩ := h
    rfl
  · obtain ⟨a, ws, xs, rfl, ha, h3, hok, hl, k⟩ := h
    have nd := scCode.nd
    refine ⟨_, pss_cons (ps_set (i := 1) nd rfl (Or.inl rfl) (pe_lst (pa_cons pe_int (pa_cons (pe_callB call_len_seq (by rfl) B.len PySem.boot_len (pa_cons (pv 0) pa_nil)) pa_nil))))
      (pss_cons (ps_for PassesOwn.never rfl (pi_tup (pv 0)) (pg_tup rfl (pgs_cons (pg_name (i := 2) nd rfl (Or.inl rfl)) (pgs_cons (pg_name (i := 3) nd rfl (Or.inl rfl)) (pgs_cons (pg_name (i := 4) nd rfl (Or.inl rfl)) pgs_nil))))
        (pss_one (ps_set (i := 1) nd rfl (Or.inl rfl) (pe_op op_cat (pe_op op_cat (pe_op op_cat (pv 1) (pe_lst (pa_cons (pe_callB call_len_str (by rfl) B.len PySem.boot_len (pa_cons (pv 2) pa_nil)) pa_nil)))
          (pe_lc (own := [("_law_c", 5)]) (g := gName 5) (tt := tYes) (te := tOp (rI0 fun i j => .int (i + j)) (tBM K "str" (fun x xs H Q => ∃ (a b : Str) (i : Nat) (r : List Nat), x = .str a ∧ xs = [.str b] ∧ PySem.Builtin.Str.occurrences a b 0 a.length 1 = i :: r ∧ Q (.int (i : Nat)) H) (tC (.str alpha)) (tCons (tVar 5) tNil)) (tC (.int 1))) rfl nd
            (pi_str (pv 2)) (blkOk_by (own := [("_law_c", 5)]) (N := NCO) (sc := defScope sLawCode) (by decide +kernel)) (fun _ _ _ _ _ => pg_name (i := 5) nd rfl (Or.inl rfl)) (fun _ _ _ _ _ => pts_nil)
            (fun _ _ _ _ _ => pe_op op_add (pe_bm PySem.F.plainAttrs_str PySem.F.slot_str_index PySem.F.type_str_index mt_sindex pe_str (pa_cons (pv 5) pa_nil)) pe_int)))
          (pe_lst (pa_cons (pv 3) (pa_cons (pv 4) pa_nil)))))))
      (pss_one (ps_ret (pv 1)))), ?_⟩
    have wl := pair_len h3
    have short : ∀ x ∈ xs, x.1.length ≤ 8 := fun x hx => (ok_cps (hok x hx)).2.1
    have el : ∀ i, (encAll (xs.take i)).length ≤ 264 := fun i => by
      have e := enc_len (xs := xs.take i) fun x hx => short x (List.mem_of_mem_take hx)
      have : (xs.take i).length ≤ 24 := Nat.le_trans (List.length_take_le' ..) hl
      omega
    refine ⟨_, rfl, a, ws, rfl, .inr (SqT.of ha), by show 2 ≤ sizeLine; decide, fun L hL => ?_⟩
    have s1 : Same H (upd H L (.lst [.int 115, .int (ws.length : Nat)])) := same_upd hL
    have eL : (upd H L (.lst [.int 115, .int (ws.length : Nat)])) L = some (.lst ((115 :: (xs.length : Int) :: encAll (xs.take 0)).map V.int)) := by
      rw [upd_same, wl]
      rfl
    refine ⟨_, rfl, a, rfl, ⟨_, SqT.of (s1 _ _ ha)⟩, for_it walk_tup (fun i σ H2 => ∃ (v : Addr) (o2 o3 o4 o5 : Option V), σ = [some (.ref a), some (.ref v), o2, o3, o4, o5] ∧ Same H H2 ∧ H v = none ∧ H2 v = some (.lst ((115 :: (xs.length : Int) :: encAll (xs.take i)).map V.int)))
      ⟨L, none, none, none, none, rfl, s1, hL, eL⟩ (fun i σ H2 _ ⟨_, _, _, _, _, _, s2, _⟩ => SqT.of (s2 _ _ ha)) ?_ ?_⟩
    · rintro i y σ H3 H2 hi ⟨v, o2, o3, o4, o5, rfl, s2, hv0, hv⟩ ⟨rfl, ey⟩
      obtain ⟨x, hx, t, rfl, ht⟩ := pair_get h3 ey
      have hxm := List.mem_of_getElem? hx
      obtain ⟨n1, n8, nc⟩ := ok_cps (hok x hxm)
      have el1 := el i
      refine ⟨t, _, rfl, SqT.of (s2 _ _ ht), rfl, _, _, rfl, _, _, rfl, _, _, rfl, rfl, ?_⟩
      refine ⟨_, rfl, _, rfl, x.1, rfl, Nat.le_trans n8 (by decide), by show 1 ≤ sizeLine; decide, fun L1 hL1 => ?_⟩
      have s3 : Same H2 (upd H2 L1 (.lst [.int (x.1.length : Nat)])) := same_upd hL1
      have e1 : (upd H2 L1 (.lst [.int (x.1.length : Nat)])) L1 = some (.lst [.int (x.1.length : Nat)]) := upd_same
      have ev := s3 _ _ hv
      generalize upd H2 L1 (.lst [.int (x.1.length : Nat)]) = H3 at s3 e1 ev
      refine ⟨v, L1, _, _, rfl, rfl, ev, e1, ?_, fun C1 hC1 => ?_⟩
      · rw [List.length_map, List.length_cons, List.length_cons, List.length_singleton, sizeLine_eq]
        omega
      have s4 := same_upd (o := .lst ((115 :: (xs.length : Int) :: encAll (xs.take i)).map V.int ++ [.int (x.1.length : Nat)])) hC1
      have e4 : (upd H3 C1 (.lst ((115 :: (xs.length : Int) :: encAll (xs.take i)).map V.int ++ [.int (x.1.length : Nat)]))) C1 = some (.lst ((115 :: (xs.length : Int) :: encAll (xs.take i)).map V.int ++ [.int (x.1.length : Nat)])) := upd_same
      generalize upd H3 C1 (.lst ((115 :: (xs.length : Int) :: encAll (xs.take i)).map V.int ++ [.int (x.1.length : Nat)])) = H4 at s4 e4
      have s24 := (s2.trans s3).trans s4
      refine ⟨_, rfl, x.1, rfl, fun D hD => ?_⟩
      refine lc_map (walk_str (z := x.1)) (fun j => (x.1.cps.toList[j]?).map fun ch : Nat => .int ((ch : Int) - 96)) hD (Nat.le_trans n8 (by decide)) (fun _ _ => trivial) (fun j v H5 H6 hj s5 yy R k1 => ?_) (fun j hj => ⟨_, by rw [List.getElem?_eq_getElem (by simpa using hj)]; rfl⟩) fun H5 s5 e5 => ?_
      · obtain ⟨rfl, ch, hc, rfl⟩ := yy
        have hc' : x.1.cps.toList[j]? = some ch := by
          rw [Array.getElem?_toList]
          exact hc
        obtain ⟨c1, c2⟩ := nc ch (List.mem_of_getElem? hc')
        refine ⟨rfl, rfl, _, rfl, alpha, ⟨#[ch]⟩, ch - 97, [], rfl, rfl, letter_ix c1 c2, _, _, rfl, rfl, k1 _ _ (Same.refl _) ?_⟩
        rw [hc']
        show some (V.int ((ch : Int) - 96)) = some (V.int (((ch - 97 : Nat) : Int) + 1))
        congr 2
        omega
      · have e6 : H5 D = some (.lst ((x.1.cps.toList.map fun ch : Nat => (ch : Int) - 96).map V.int)) := by
          rw [e5]
          have := gather_map x.1.cps.toList fun ch : Nat => V.int ((ch : Int) - 96)
          rw [Array.length_toList] at this
          rw [this, List.map_map]
          rfl
        have ll : (x.1.cps.toList.map fun ch : Nat => (ch : Int) - 96).length = x.1.length := by
          rw [List.length_map, Array.length_toList]
          rfl
        generalize hls : (x.1.cps.toList.map fun ch : Nat => (ch : Int) - 96) = ls at e6 ll
        refine ⟨C1, D, _, _, rfl, rfl, s5 _ _ e4, e6, ?_, fun C2 hC2 => ?_⟩
        · rw [List.length_append, List.length_map, List.length_map, List.length_cons, List.length_cons, List.length_singleton, sizeLine_eq]
          omega
        have s6 := same_upd (o := .lst ((115 :: (xs.length : Int) :: encAll (xs.take i)).map V.int ++ [.int (x.1.length : Nat)] ++ ls.map V.int)) hC2
        have e7 : (upd H5 C2 (.lst ((115 :: (xs.length : Int) :: encAll (xs.take i)).map V.int ++ [.int (x.1.length : Nat)] ++ ls.map V.int))) C2 = some (.lst ((115 :: (xs.length : Int) :: encAll (xs.take i)).map V.int ++ [.int (x.1.length : Nat)] ++ ls.map V.int)) := upd_same
        generalize upd H5 C2 (.lst ((115 :: (xs.length : Int) :: encAll (xs.take i)).map V.int ++ [.int (x.1.length : Nat)] ++ ls.map V.int)) = H6 at s6 e7
        refine ⟨_, rfl, _, rfl, by show 2 ≤ sizeLine; decide, fun L3 hL3 => ?_⟩
        have s7 : Same H6 (upd H6 L3 (.lst [.int x.2.1, .int x.2.2])) := same_upd hL3
        have e8 : (upd H6 L3 (.lst [.int x.2.1, .int x.2.2])) L3 = some (.lst [.int x.2.1, .int x.2.2]) := upd_same
        have e9 := s7 _ _ e7
        generalize upd H6 L3 (.lst [.int x.2.1, .int x.2.2]) = H7 at s7 e8 e9
        have s27 := ((s24.trans s5).trans s6).trans s7
        have take1 : xs.take (i + 1) = xs.take i ++ [x] := by rw [List.take_add_one, hx]; rfl
        have whole : (115 :: (xs.length : Int) :: encAll (xs.take i)).map V.int ++ [V.int (x.1.length : Nat)] ++ ls.map V.int ++ [V.int x.2.1, V.int x.2.2] = (115 :: (xs.length : Int) :: encAll (xs.take (i + 1))).map V.int := by
          rw [take1, enc_snoc]
          unfold encG encN
          rw [hls]
          simp
        refine ⟨C2, L3, _, _, rfl, rfl, e9, e8, ?_, fun C3 hC3 => ?_⟩
        · rw [List.length_append, List.length_append, List.length_map, List.length_map, List.length_cons, List.length_cons, List.length_singleton, sizeLine_eq]
          show _ + 2 ≤ _
          omega
        rw [whole]
        exact ⟨C3, _, _, _, _, rfl, s27.trans (same_upd hC3), s27.free hC3, upd_same⟩
    · rintro σ H2 ⟨v, o2, o3, o4, o5, rfl, s2, hv0, hv⟩
      rw [wl, List.take_length] at hv
      exact ⟨_, rfl, k v H2 s2 hv0 hv⟩
end
end Sh1
set_option Elab.async false
set_option linter.all false
set_option maxRecDepth 100000
set_option maxHeartbeats 8000000
/-! _law_read. -/
namespace Sh1
open PySem L2 Sho NdefX Shg Sh4
theorem filterMap_if {α β : Type} (p : α → Bool) (g : α → β) : ∀ l : List α, l.filterMap (fun i => if p i = true then some (g i) else none) = (l.filter p).map g
  | [] => rfl
  | x :: l => by
    rw [List.filterMap_cons, List.filter_cons]
    by_cases h : p x = true
    · simp only [if_pos h]
      rw [filterMap_if p g l]
      rfl
    · simp only [if_neg h]
      exact filterMap_if p g l
theorem gather_bad (p : Nat → Bool) (n : Nat) : gather (fun i => if p i = true then some (V.int (i : Nat)) else none) n = (((List.range n).filter p).map fun i : Nat => (i : Int)).map V.int := by
  unfold gather
  rw [filterMap_if p (fun i : Nat => V.int (i : Nat)), List.map_map]
  rfl
theorem first_bad {p : Nat → Bool} {n j : Nat} {r : List Nat} (h : (List.range n).filter p = j :: r) : j < n ∧ p j = true ∧ ∀ k, k < j → p k = false := by
  have e : (List.range n).find? p = some j := by
    rw [← List.head?_filter, h]
    rfl
  rw [List.find?_range_eq_some] at e
  obtain ⟨a, b, c⟩ := e
  refine ⟨List.mem_range.mp b, a, fun k hk => ?_⟩
  have := c k hk
  simpa using this
theorem no_bad {p : Nat → Bool} {n : Nat} (h : (List.range n).filter p = []) : ∀ k, k < n → p k = false := fun k hk => by
  cases e : p k with
  | false => rfl
  | true =>
    have : k ∈ (List.range n).filter p := List.mem_filter.mpr ⟨List.mem_range.mpr hk, e⟩
    rw [h] at this
    cases this
theorem cut_lets {c : List Int} {q m : Nat} (h : q < c.length) : cutV (c.map V.int) (some ((q : Int) + 1)) (some ((q : Int) + 1 + (m : Int))) = (lets c (q + 1) m).map V.int := by
  unfold cutV lets
  rw [show (q : Int) + 1 = ((q + 1 : Nat) : Int) by omega, show ((q + 1 : Nat) : Int) + (m : Int) = ((q + 1 + m : Nat) : Int) by omega, HT.sIx_nat, HT.sIx_nat, List.length_map, Nat.min_eq_left (show q + 1 ≤ c.length by omega), ← List.map_drop, ← List.map_take]
  congr 1
  by_cases g : q + 1 + m ≤ c.length
  · rw [Nat.min_eq_left g]
    congr 1
    omega
  · rw [Nat.min_eq_right (by omega), List.take_of_length_le (by rw [List.length_drop]; omega), List.take_of_length_le (by rw [List.length_drop]; omega)]
theorem need_or {c : List Int} {i : Nat} {lo hi : Int} : (decide (c.length ≤ i) || !(decide (lo ≤ at_ c i) && decide (at_ c i ≤ hi))) = !need c i lo hi := by
  unfold need
  by_cases h : c.length ≤ i
  · have : ¬ i < c.length := by omega
    simp [h, this]
  · have : i < c.length := by omega
    simp [h, this]
theorem at_lets {c : List Int} {i m k : Nat} (h : k < (lets c i m).length) : at_ (lets c i m) k = at_ c (i + k) ∧ i + k < c.length ∧ k < m := by
  have e : (lets c i m).length = min m (c.length - i) := by
    unfold lets
    rw [List.length_take, List.length_drop]
  rw [e] at h
  have a : k < m := by omega
  have b : i + k < c.length := by omega
  refine ⟨?_, b, a⟩
  show ((lets c i m)[k]?).getD 0 = _
  rw [lets_at a b]
  rfl
def Told (H : Hp) (p : Addr) : Except Nat (List Stay) → Prop
  | .error j => H p = some (.tup [.str "code", .int (j : Nat)])
  | .ok xs => ∃ t ws, H p = some (.tup [.str "value", .ref t]) ∧ H t = some (.tup ws) ∧ StaysV H ws xs
section
variable {P : Program} {w : World} {K : PySem.W.Frag} {mg : Str → Option Value} {base : Heap}
abbrev NRE : List Str := ["_law_code_here", "_law_at", "_law_stays_here", "_law_turn", "_law_begin", "_law_letters", "_law_bad", "_law_name", "_law_k", "_law_one"]
def spRead : Sp := fun vs H Q _ => ∃ (a : Addr) (c : List Int), vs = [.ref a] ∧ H a = some (.lst (c.map V.int)) ∧ c.length < 1000 ∧ ∀ (p : Addr) (H' : Hp), Same H H' → Told H' p (rdCode c) → Q (.ref p) H'
theorem scRead : FnScope NRE ["_law_code_here"] (defScope sLawRead) := ⟨rfl, rfl, rfl, by decide +kernel, rfl, by decide +kernel, by decide +kernel⟩
/-- within the loop -/
structure Reads (H0 : Hp) (L : Addr) (ws : List V) (xs : List Stay) (H : Hp) : Prop where
  same : Same H0 H
  lst : H L = some (.lst ws)
  st : StaysV H ws xs
  good : Good xs
theorem Reads.on {H0 H H' : Hp} {L : Addr} {ws : List V} {xs : List Stay} (R : Reads H0 L ws xs H) (s : Same H H') : Reads H0 L ws xs H' := ⟨R.same.trans s, s _ _ R.lst, R.st.same s, R.good⟩
theorem ok_read {f f3 : Addr} {fd fd3 : FuncData} (F : Fun K "_law_read" "_law_read" sLawRead f fd) (B : Shg.Blt mg) (G3 : FnOk P w K mg base CX0 1 f3 fd3 ["_law_values"] (spSum K)) (m3 : mg "_law_sum" = some (.ref f3)) (k3 : PySem.W.keepIn K (.ref f3) = true) (b3 : Binds K fd3 ["_law_values"] []) :
    FnOk P w K mg base CX0 2 f fd ["_law_code_here"] spRead := by
  refine F.ok scRead (fun vs H Q E h => ?_) (fun cdv A outer s H vs Q E hr h => ?_)
  · obtain ⟨a, c, rfl, _⟩ := h
    rfl
  · obtain ⟨a, c, rfl, ha, hc, k⟩ := h
    have nd := scRead.nd
    refine ⟨_, pss_cons (ps_if (PW.pt (pw_or (pt_cmpR op_eq (pe_callB call_len_seq (by rfl) B.len PySem.boot_len (pa_cons (pv 0) pa_nil)) pe_int (nomark _)) (pw_or1 (pt_cmpR op_ne (pe_ix ix_list (pv 0) pe_int (fun _ _ => rfl)) pe_int (nomark _)))))
        (pss_one (ps_ret (pe_tup (pa_cons pe_str (pa_cons pe_int pa_nil))))) pss_nil)
      (pss_cons (ps_if (PW.pt (pw_or (pt_cmpR op_eq (pe_callB call_len_seq (by rfl) B.len PySem.boot_len (pa_cons (pv 0) pa_nil)) pe_int (nomark _)) (pw_or1 (pt_not (pt_chain op_le op_le pe_int (pe_ix ix_list (pv 0) pe_int (fun _ _ => rfl)) pe_int)))))
        (pss_one (ps_ret (pe_tup (pa_cons pe_str (pa_cons pe_int pa_nil))))) pss_nil)
      (pss_cons (ps_par (i := 1) (j := 2) rfl nd rfl rfl (by decide) rfl rfl (pa_cons pe_int (pa_cons (pe_lst pa_nil) pa_nil)) (by rfl))
      (pss_cons (ps_for PassesOwn.never rfl (pi_range1 (by rfl) B.range (pa_cons (pe_ix ix_list (pv 0) pe_int (fun _ _ => rfl)) pa_nil)) (pg_name (i := 3) nd rfl (Or.inl rfl))
        (pss_cons (ps_set (i := 4) nd rfl (Or.inl rfl) (pv 1))
        (pss_cons (ps_if (PW.pt (pw_or (pt_cmpR op_ge (pv 1) (pe_callB call_len_seq (by rfl) B.len PySem.boot_len (pa_cons (pv 0) pa_nil)) (nomark _)) (pw_or1 (pt_not (pt_chain op_le op_le pe_int (pe_ix ix_list (pv 0) (pv 1) (fun _ _ => rfl)) pe_int)))))
          (pss_one (ps_ret (pe_tup (pa_cons pe_str (pa_cons (pv 1) pa_nil))))) pss_nil)
        (pss_cons (ps_set (i := 5) nd rfl (Or.inr rfl) (pe_slice sl_list (pv 0) (po_some (pe_op op_add (pv 1) pe_int)) (po_some (pe_op op_add (pe_op op_add (pv 1) pe_int) (pe_ix ix_list (pv 0) (pv 1) (fun _ _ => rfl))))))
        (pss_cons (ps_setLc (i := 6) (own := [("_law_k", 8)]) (g := gName 8) (tt := tNot (tTest (tChain (rI0 fun i j => .bl (decide (i ≤ j))) (rI0 fun i j => .bl (decide (i ≤ j))) (tC (.int 1)) (tOp (rIxL K) (tVar 5) (tVar 8)) (tC (.int 26))))) (te := tVar 8) rfl nd rfl rfl (sw_true rfl rfl rfl rfl)
            (pi_range1 (by rfl) B.range (pa_cons (pe_callB call_len_seq (by rfl) B.len PySem.boot_len (pa_cons (pv 5) pa_nil)) pa_nil)) (blkOk_by (own := [("_law_k", 8)]) (N := NRE) (sc := defScope sLawRead) (by decide +kernel))
            (fun _ _ _ _ _ => pg_name (i := 8) nd rfl (Or.inl rfl)) (fun _ _ _ _ _ => pts_one (pt_not (pt_chain op_le op_le pe_int (pe_ix ix_list (pv 5) (pv 8) (fun _ _ => rfl)) pe_int))) (fun _ _ _ _ _ => pv 8))
        (pss_cons (ps_if (pt_cmpR (op_neD (hr.mono (Nat.zero_le _)).units) (pv 6) (pe_lst pa_nil) (nomark _)) (pss_one (ps_ret (pe_tup (pa_cons pe_str (pa_cons (pe_op op_add (pe_op op_add (pv 1) pe_int) (pe_ix ix_list (pv 6) pe_int (fun _ _ => rfl))) pa_nil))))) pss_nil)
        (pss_cons (ps_if (pt_cmpR op_lt (pe_callB call_len_seq (by rfl) B.len PySem.boot_len (pa_cons (pv 5) pa_nil)) (pe_ix ix_list (pv 0) (pv 1) (fun _ _ => rfl)) (nomark _)) (pss_one (ps_ret (pe_tup (pa_cons pe_str (pa_cons (pe_callB call_len_seq (by rfl) B.len PySem.boot_len (pa_cons (pv 0) pa_nil)) pa_nil))))) pss_nil)
        (pss_cons (ps_set (i := 7) nd rfl (Or.inl rfl) (pe_join pe_str (pe_lc (own := [("_law_one", 9)]) (g := gName 9) (tt := tYes) (te := tOp rIxS (tC (.str alpha)) (tOp (rI0 fun i j => .int (i - j)) (tVar 9) (tC (.int 1)))) rfl nd (pi_list (pv 5)) (blkOk_by (own := [("_law_one", 9)]) (N := NRE) (sc := defScope sLawRead) (by decide +kernel))
            (fun _ _ _ _ _ => pg_name (i := 9) nd rfl (Or.inl rfl)) (fun _ _ _ _ _ => pts_nil) (fun _ _ _ _ _ => pe_ix ix_str pe_str (pe_op op_sub (pv 9) pe_int) (fun _ _ => rfl)))))
        (pss_cons (ps_set (i := 1) nd rfl (Or.inl rfl) (pe_op op_add (pe_op op_add (pv 1) pe_int) (pe_callB call_len_seq (by rfl) B.len PySem.boot_len (pa_cons (pv 5) pa_nil))))
        (pss_cons (ps_if (pt_cmpR op_in_seq (pv 7) (pe_lc (own := [("_law_one", 9)]) (g := gName 9) (tt := tYes) (te := tOp (rIxT K) (tVar 9) (tC (.int 0))) rfl nd (pi_list (pv 2)) (blkOk_by (own := [("_law_one", 9)]) (N := NRE) (sc := defScope sLawRead) (by decide +kernel))
            (fun _ _ _ _ _ => pg_name (i := 9) nd rfl (Or.inl rfl)) (fun _ _ _ _ _ => pts_nil) (fun _ _ _ _ _ => pe_ix ix_tup (pv 9) pe_int (fun _ _ => rfl))) rfl) (pss_one (ps_ret (pe_tup (pa_cons pe_str (pa_cons (pv 4) pa_nil))))) pss_nil)
        (pss_cons (ps_if (PW.pt (pw_or (pt_cmpR op_ge (pv 1) (pe_callB call_len_seq (by rfl) B.len PySem.boot_len (pa_cons (pv 0) pa_nil)) (nomark _)) (pw_or1 (pt_not (pt_chain op_le op_le pe_int (pe_ix ix_list (pv 0) (pv 1) (fun _ _ => rfl)) (pe_op op_pow pe_int pe_int))))))
          (pss_one (ps_ret (pe_tup (pa_cons pe_str (pa_cons (pv 1) pa_nil))))) pss_nil)
        (pss_cons (ps_if (PW.pt (pw_or (pt_cmpR op_ge (pe_op op_add (pv 1) pe_int) (pe_callB call_len_seq (by rfl) B.len PySem.boot_len (pa_cons (pv 0) pa_nil)) (nomark _)) (pw_or1 (pt_not (pt_chain op_lt op_le (pe_ix ix_list (pv 0) (pv 1) (fun _ _ => rfl)) (pe_ix ix_list (pv 0) (pe_op op_add (pv 1) pe_int) (fun _ _ => rfl)) (pe_op op_pow pe_int pe_int))))))
          (pss_one (ps_ret (pe_tup (pa_cons pe_str (pa_cons (pe_op op_add (pv 1) pe_int) pa_nil))))) pss_nil)
        (pss_cons (ps_expr (pe_bm PySem.F.plainAttrs_list PySem.F.slot_list_append PySem.F.type_list_append mt_append (pv 2) (pa_cons (pe_tup (pa_cons (pv 7) (pa_cons (pe_ix ix_list (pv 0) (pv 1) (fun _ _ => rfl)) (pa_cons (pe_ix ix_list (pv 0) (pe_op op_add (pv 1) pe_int) (fun _ _ => rfl)) pa_nil)))) pa_nil)))
        (pss_one (ps_set (i := 1) nd rfl (Or.inl rfl) (pe_op op_add (pv 1) pe_int))))))))))))))))
      (pss_cons (ps_if (PW.pt (pw_or (pt_cmpR op_ge (pv 1) (pe_callB call_len_seq (by rfl) B.len PySem.boot_len (pa_cons (pv 0) pa_nil)) (nomark _)) (pw_or1 (pt_cmpR op_ne (pe_ix ix_list (pv 0) (pv 1) (fun _ _ => rfl)) (pe_call G3 (hr.mono (by decide)) rfl m3 k3 b3 .nil pass0 (pa_cons (pe_slice sl_list (pv 0) po_none (po_some (pv 1))) pa_nil)) (nomark _)))))
        (pss_one (ps_ret (pe_tup (pa_cons pe_str (pa_cons (pv 1) pa_nil))))) pss_nil)
      (pss_one (ps_ret (pe_ifExp (pt_cmpR op_lt (pe_op op_add (pv 1) pe_int) (pe_callB call_len_seq (by rfl) B.len PySem.boot_len (pa_cons (pv 0) pa_nil)) (nomark _)) (pe_tup (pa_cons pe_str (pa_cons (pe_op op_add (pv 1) pe_int) pa_nil)))
        (pe_tup (pa_cons pe_str (pa_cons (pe_callTy call_tuple_of (by rfl) B.tuple (by decide +kernel) (pa_cons (pv 2) pa_nil)) pa_nil)))))))))), ?_⟩
    have len : (c.map V.int).length = c.length := List.length_map ..
    have tell : ∀ {H1 : Hp} {p : Addr} {j : Nat} {z : Int}, Same H H1 → H1 p = none → z = (j : Nat) → rdCode c = .error j → Q (.ref p) (upd H1 p (.tup [.str "code", .int z])) := fun {H1 p j z} s hp ez e => k p _ (s.trans (same_upd hp)) (by
      rw [e, ez]
      exact upd_same)
    have two : 2 ≤ sizeLine := by decide
    have ge_b : ∀ {i : Nat}, decide (((c.map V.int).length : Int) ≤ (i : Int)) = decide (c.length ≤ i) := fun {i} => by
      rw [len]
      exact decide_eq_decide.mpr (by omega)
    -- the first item
    refine ans_or (decide (c.length ≤ 0)) (!(decide ((115 : Int) ≤ at_ c 0) && decide (at_ c 0 ≤ 115))) (fun R h => ⟨_, rfl, a, _, rfl, .inl (SqL.of ha), rfl, _, rfl, ?_⟩) (fun H1 s1 e R h => ⟨_, rfl, a, _, 0, .int (at_ c 0), rfl, rfl, SqL.of (s1 _ _ ha), atI_nat (j := 0) (ints_at (by have := of_decide_eq_false e; omega)), rfl, _, rfl, ?_⟩) fun H1 s1 => ?_
    · have e : decide (V.int ((c.map V.int).length : Int) = V.int 0) = decide (c.length ≤ 0) := by
        rw [len]
        refine decide_eq_decide.mpr ⟨fun q => ?_, fun q => ?_⟩
        · injection q with q
          omega
        · have : c.length = 0 := by omega
          rw [this]
          rfl
      rw [e]
      exact h _ (Same.refl _)
    · have e : (!decide (V.int (at_ c 0) = V.int 115)) = !(decide ((115 : Int) ≤ at_ c 0) && decide (at_ c 0 ≤ 115)) := by
        congr 1
        by_cases q : at_ c 0 = 115
        · rw [q]
          rfl
        · have q1 : ¬ V.int (at_ c 0) = V.int 115 := fun z => by injection z with z; exact q z
          rw [decide_eq_false q1]
          symm
          by_cases q2 : 115 ≤ at_ c 0
          · have q3 : ¬ at_ c 0 ≤ 115 := by omega
            simp [q3]
          · simp [q2]
      rw [e]
      exact h _ (Same.refl _)
    rw [need_or]
    cases ok0 : need c 0 115 115 with
    | false => exact iteT ⟨two, fun p hp => tell (j := 0) s1 hp rfl (by unfold rdCode; rw [ok0]; rfl)⟩
    | true =>
    obtain ⟨lt0, _⟩ := need_lt ok0
    refine iteF (nx_of ?_)
    -- the number of guests
    have ha1 := s1 _ _ ha
    refine ans_or (decide (c.length ≤ 1)) (!(decide ((0 : Int) ≤ at_ c 1) && decide (at_ c 1 ≤ 24))) (fun R h => ⟨_, rfl, a, _, rfl, .inl (SqL.of ha1), rfl, _, rfl, ?_⟩) (fun H2 s2 e R h => chain_not (i := 0) (j := at_ c 1) (k := 24) (fun Q q => q) (fun Q q => ⟨_, rfl, a, _, 1, .int (at_ c 1), rfl, rfl, SqL.of (s2 _ _ ha1), atI_nat (j := 1) (ints_at (by have := of_decide_eq_false e; omega)), q⟩) (fun Q q => q) (h _ (Same.refl _))) fun H2 s2 => ?_
    · have e : decide (V.int ((c.map V.int).length : Int) = V.int 1) = decide (c.length ≤ 1) := by
        rw [len]
        refine decide_eq_decide.mpr ⟨fun q => ?_, fun q => ?_⟩
        · injection q with q
          omega
        · have : c.length = 1 := by omega
          rw [this]
          rfl
      rw [e]
      exact h _ (Same.refl _)
    have s12 := s1.trans s2
    rw [need_or]
    cases ok1 : need c 1 0 24 with
    | false => exact iteT ⟨two, fun p hp => tell (j := 1) s12 hp rfl (by unfold rdCode; rw [ok0, ok1]; rfl)⟩
    | true =>
    obtain ⟨lt1, lo1, hi1⟩ := need_lt ok1
    refine iteF ⟨Nat.zero_le _, fun L hL => ⟨_, _, rfl, ?_⟩⟩
    have HL0 : H L = none := s12.free hL
    have s3 : Same H (upd H2 L (.lst [])) := s12.trans (same_upd hL)
    have rest : rdCode c = match rdGuests c (at_ c 1).toNat 2 [] with
        | .error j => .error j
        | .ok (xs, i) => rdEnd c i xs := by
      first
        | (unfold rdCode; rw [if_pos ok0, if_pos ok1]; done)
        | (unfold rdCode; rw [if_pos ok0, if_pos ok1]; cases rdGuests c (at_ c 1).toNat 2 [] <;> rfl)
    generalize hn : (at_ c 1).toNat = n at rest
    have n24 : n ≤ 24 := by omega
    refine ⟨_, rfl, a, _, 1, .int (at_ c 1), rfl, rfl, SqL.of (s3 _ _ ha), atI_nat (j := 1) (ints_at lt1), at_ c 1, rfl, by omega, by omega, for_it walk_range (fun i σ H2 => ∃ (o3 o4 o5 o6 o7 o8 o9 : Option V) (q : Nat) (ws : List V) (xs : List Stay), σ = [some (.ref a), some (.int (q : Nat)), some (.ref L), o3, o4, o5, o6, o7, o8, o9] ∧ Reads H L ws xs H2 ∧ xs.length = i ∧ q ≤ c.length ∧ rdGuests c n 2 [] = rdGuests c (n - i) q xs)
      ⟨none, none, none, none, none, none, none, 2, [], [], rfl, ⟨s3, upd_same, .nil, Good.nil⟩, rfl, lt1, rfl⟩ (fun _ _ _ _ _ => trivial) ?_ ?_⟩
    · rintro i y σ H5' H5 hi ⟨o3, o4, o5, o6, o7, o8, o9, q, ws, xs, rfl, R5, hxl, hq, hg⟩ ⟨rfl, rfl⟩
      rw [hn] at hi
      have wl := pair_len R5.st
      have step : rdGuests c (n - i) q xs = match rdGuest c q (names xs) with
          | .error j => .error j
          | .ok (x, q') => rdGuests c (n - (i + 1)) q' (xs ++ [x]) := by
        rw [show n - i = (n - (i + 1)) + 1 by omega]
        rfl
      have badN : ∀ {j}, rdName c q (names xs) = .error j → rdCode c = .error j := fun {j} e => by
        have eg : rdGuest c q (names xs) = .error j := by
          unfold rdGuest
          rw [e]
        rw [rest, hg, step, eg]
      have ha5 := R5.same _ _ ha
      refine ⟨_, rfl, name_of ?_⟩
      refine ans_or (decide (c.length ≤ q)) (!(decide ((1 : Int) ≤ at_ c q) && decide (at_ c q ≤ 8))) (fun R h => ⟨_, rfl, _, rfl, a, _, rfl, .inl (SqL.of ha5), _, _, rfl, rfl, _, rfl, by rw [ge_b]; exact h _ (Same.refl _)⟩) (fun H6 s6 e R h => chain_not (i := 1) (j := at_ c q) (k := 8) (fun Q z => z) (fun Q z => ⟨_, rfl, _, rfl, a, _, _, .int (at_ c q), rfl, rfl, SqL.of (s6 _ _ ha5), atI_nat (ints_at (by have := of_decide_eq_false e; omega)), z⟩) (fun Q z => z) (h _ (Same.refl _))) fun H6 s6 => ?_
      have R6 := R5.on s6
      rw [need_or]
      cases ok2 : need c q 1 8 with
      | false => exact iteT ⟨_, rfl, two, fun p hp => tell (j := q) R6.same hp rfl (badN (by unfold rdName; rw [ok2]; rfl))⟩
      | true =>
      obtain ⟨ltq, loq, hiq⟩ := need_lt ok2
      have rdN : rdName c q (names xs) = match badL c (q + 1) (at_ c q).toNat with
          | some j => .error j
          | none => if lname (lets c (q + 1) (at_ c q).toNat) ∈ names xs then .error q else .ok (lname (lets c (q + 1) (at_ c q).toNat), q + 1 + (at_ c q).toNat) := by
        first
          | (unfold rdName; rw [if_pos ok2]; done)
          | (unfold rdName; rw [if_pos ok2]; cases badL c (q + 1) (at_ c q).toNat <;> rfl)
      obtain ⟨m, em⟩ : ∃ m : Nat, at_ c q = (m : Int) := ⟨(at_ c q).toNat, by omega⟩
      rw [em] at rdN
      rw [show ((m : Int)).toNat = m by simp] at rdN
      have m1 : 1 ≤ m := by omega
      have m8 : m ≤ 8 := by omega
      have ha6 := R6.same _ _ ha
      have iq : (c.map V.int)[q]? = some (.int (m : Int)) := by
        rw [ints_at ltq, em]
      -- the letters
      refine iteF ⟨_, rfl, _, rfl, _, _, rfl, rfl, _, rfl, _, rfl, _, _, rfl, rfl, _, rfl, _, rfl, a, _, _, .int (m : Int), rfl, rfl, SqL.of ha6, atI_nat iq, _, _, rfl, rfl, _, rfl, a, c.map V.int, rfl, SqL.of ha6, fun Lt hLt => ?_⟩
      have cut := cut_lets (m := m) ltq
      rw [cut]
      have R7 := R6.on (same_upd (o := .lst ((lets c (q + 1) m).map V.int)) hLt)
      have eLt : (upd H6 Lt (.lst ((lets c (q + 1) m).map V.int))) Lt = some (.lst ((lets c (q + 1) m).map V.int)) := upd_same
      generalize upd H6 Lt (.lst ((lets c (q + 1) m).map V.int)) = H7 at R7 eLt
      have al : ∀ {k}, k < (lets c (q + 1) m).length → at_ (lets c (q + 1) m) k = at_ c (q + 1 + k) ∧ q + 1 + k < c.length ∧ k < m := fun h => at_lets h
      have lle : (lets c (q + 1) m).length = min m (c.length - (q + 1)) := by
        unfold lets
        rw [List.length_take, List.length_drop]
      generalize hls : lets c (q + 1) m = ls at eLt al lle rdN
      have lm : (ls.map V.int).length = ls.length := List.length_map ..
      have ln : ((ls.map V.int).length : Int).toNat = ls.length := by rw [lm]; simp
      let p : Nat → Bool := fun k => !(decide ((1 : Int) ≤ at_ ls k) && decide (at_ ls k ≤ 26))
      have pn : ∀ k, k < ls.length → need c (q + 1 + k) 1 26 = !p k := fun k hk => by
        obtain ⟨a1, a2, _⟩ := al hk
        unfold need
        rw [← a1, decide_eq_true a2]
        simp [p]
      refine ⟨_, rfl, Lt, _, rfl, .inl (SqL.of eLt), _, rfl, by omega, by rw [lm, lle]; omega, fun D hD => ?_⟩
      refine lc_gather walk_range (fun i => if p i = true then some (.int (i : Nat)) else none) hD (by rw [ln, lle]; exact Nat.le_trans (Nat.min_le_left ..) (Nat.le_trans m8 (by decide))) (fun _ _ => trivial) (fun k x H8 H9 hk s8 yy R k8 => ?_) fun H8 s8 e8 => ?_
      · obtain ⟨rfl, rfl⟩ := yy
        rw [ln] at hk
        have zi : (0 : Int) + (k : Nat) = (k : Nat) := by omega
        refine ⟨rfl, chain_not (i := 1) (j := at_ ls k) (k := 26) (fun Q z => z) (fun Q z => ⟨_, rfl, _, rfl, Lt, _, _, .int (at_ ls k), rfl, rfl, SqL.of (s8 _ _ eLt), by rw [zi]; exact atI_nat (ints_at hk), z⟩) (fun Q z => z) ?_⟩
        have kk := k8 _ (Same.refl _)
        show if p k = true then _ else _
        cases hp : p k with
        | false =>
          rw [hp] at kk
          exact kk
        | true =>
          rw [hp] at kk
          refine ⟨_, rfl, ?_⟩
          show R (some (V.int ((0 : Int) + (k : Nat)))) _
          rw [zi]
          exact kk
      · rw [ln, gather_bad p] at e8
        have R8 := R7.on s8
        have eLt8 := s8 _ _ eLt
        refine ⟨_, rfl, Nat.zero_le _, fun L0 hL0 => ?_⟩
        have sL0 : Same H8 (upd H8 L0 (.lst [])) := same_upd hL0
        refine ⟨.list ((((List.range ls.length).filter p).map fun i : Nat => (i : Int)).map PyData.int), .list [], .lst (SqL.of (sL0 _ _ e8)) (dp_zs _), .lst (SqL.of upd_same) .nil, shaped_zs _, rfl, _, rfl, ?_⟩
        rw [eqv_zs0]
        have R9 := R8.on sL0
        have e9 := sL0 _ _ e8
        have eLt9 := sL0 _ _ eLt8
        generalize upd H8 L0 (.lst []) = H9 at R9 e9 eLt9
        cases hb : (List.range ls.length).filter p with
        | cons j r =>
          obtain ⟨b1, b2, b3⟩ := first_bad hb
          rw [hb] at e9
          have bl : badL c (q + 1) m = some (q + 1 + j) := badL_some (al b1).2.2 (fun k hk => by rw [pn k (by omega), b3 k hk]; rfl) (by rw [pn j b1, b2]; rfl)
          refine iteT ⟨_, rfl, _, _, rfl, rfl, _, rfl, D, _, 0, .int (j : Nat), rfl, rfl, SqL.of e9, atI_nat (j := 0) rfl, _, _, rfl, rfl, two, fun p hp => ?_⟩
          exact tell (j := q + 1 + j) R9.same hp (by omega) (badN (by rw [rdN, bl]))
        | nil =>
          have good := no_bad hb
          refine iteF ⟨_, rfl, Lt, _, rfl, .inl (SqL.of eLt9), _, rfl, _, rfl, a, _, _, .int (m : Int), rfl, rfl, SqL.of (R9.same _ _ ha), atI_nat iq, _, _, rfl, rfl, _, rfl, ?_⟩
          by_cases g : ls.length < m
          · have e : decide (((ls.map V.int).length : Int) < (m : Int)) = true := by
              rw [lm]
              simpa using g
            rw [e]
            have cl : q + 1 + ls.length = c.length := by omega
            have bl : badL c (q + 1) m = some (q + 1 + ls.length) := badL_some g (fun k hk => by rw [pn k hk, good k hk]; rfl) (by
              unfold need
              have : ¬ q + 1 + ls.length < c.length := by omega
              simp [this])
            refine iteT ⟨_, rfl, a, _, rfl, .inl (SqL.of (R9.same _ _ ha)), two, fun p hp => ?_⟩
            exact tell (j := q + 1 + ls.length) R9.same hp (by rw [len, cl]) (badN (by rw [rdN, bl]))
          · have e : decide (((ls.map V.int).length : Int) < (m : Int)) = false := by
              rw [lm]
              simpa using g
            rw [e]
            have lsm : ls.length = m := by omega
            have bn : badL c (q + 1) m = none := badL_none fun k hk => by rw [pn k (by omega), good k (by omega)]; rfl
            rw [bn] at rdN
            simp only at rdN
            have inr : ∀ k, k < m → 1 ≤ at_ ls k ∧ at_ ls k ≤ 26 := fun k hk => by
              have := good k (by omega)
              simpa [p] using this
            -- the name
            refine iteF ⟨⟨_, rfl⟩, _, rfl, Lt, rfl, ⟨_, SqL.of eLt9⟩, fun D2 hD2 => ?_⟩
            refine lc_map walk_list (fun i => (ls[i]?).map fun x => V.str (sgn x)) hD2 (by rw [lm, lsm]; exact Nat.le_trans m8 (by decide)) (fun H10 s10 => SqL.of (s10 _ _ eLt9)) (fun k v H10 H11 hk s10 yy R k10 => ?_) (fun k hk => ⟨_, by rw [List.getElem?_eq_getElem (by rw [← lm]; exact hk)]; rfl⟩) fun H10 s10 e10 => ?_
            · obtain ⟨rfl, e2⟩ := yy
              rw [lm] at hk
              rw [ints_at hk] at e2
              cases e2
              obtain ⟨h1, h2⟩ := inr k (by omega)
              refine ⟨rfl, _, rfl, _, _, rfl, rfl, alpha, _, _, rfl, rfl, by rw [alpha_len]; decide, sgn_at h1 h2, k10 _ _ (Same.refl _) ?_⟩
              rw [at_of hk]
              rfl
            · rw [lm, gather_map ls fun x => V.str (sgn x)] at e10
              have e10' : H10 D2 = some (.lst ((ls.map sgn).map V.str)) := by
                rw [e10, List.map_map]
                rfl
              have R10 := R9.on s10
              have eLt10 := s10 _ _ eLt9
              refine ⟨Str.empty, D2, ls.map sgn, rfl, rfl, .inl (SqL.of e10'), ?_, ?_⟩
              · have : ∀ zs : List Int, ((zs.map sgn).map (·.length)).sum = zs.length := fun zs => by
                  induction zs with
                  | nil => rfl
                  | cons x zs ih =>
                    simp only [List.map_cons, List.sum_cons, List.length_cons, ih]
                    have : (sgn x).length = 1 := rfl
                    omega
                rw [this, List.length_map, lsm]
                show m + m * 0 ≤ 16777216
                omega
              rw [join_letters]
              generalize hz : lname ls = z at rdN
              refine name_of ?_
              refine asg_val (.int ((q + 1 + m : Nat) : Int)) (fun R h => ⟨_, rfl, _, _, rfl, rfl, _, rfl, Lt, _, rfl, .inl (SqL.of eLt10), _, _, rfl, rfl, ?_⟩) fun H11 s11 => name_at ?_
              · have e : (q : Int) + 1 + ((ls.map V.int).length : Int) = ((q + 1 + m : Nat) : Int) := by
                  rw [lm, lsm]
                  omega
                show R (V.int ((q : Int) + 1 + ((ls.map V.int).length : Int))) _
                rw [e]
                exact h _ (Same.refl _)
              have R11 := R10.on s11
              refine ⟨_, rfl, _, rfl, L, rfl, ⟨_, SqL.of R11.lst⟩, fun D3 hD3 => ?_⟩
              refine lc_map walk_list (fun j => (xs[j]?).map fun x => V.str x.1) hD3 (by rw [wl, hxl]; exact Nat.le_trans (Nat.le_of_lt hi) (Nat.le_trans n24 (by decide))) (fun H12 s12 => SqL.of (s12 _ _ R11.lst)) (fun j v H12 H13 hj s12 yy RR k12 => ?_) (fun j hj => ⟨_, by rw [List.getElem?_eq_getElem (by rw [← wl]; exact hj)]; rfl⟩) fun H12 s12 e12 => ?_
              · obtain ⟨rfl, e2⟩ := yy
                obtain ⟨x, hx, t, rfl, ht⟩ := pair_get R11.st e2
                refine ⟨rfl, _, rfl, t, _, _, .str x.1, rfl, rfl, SqT.of (s12 _ _ ht), rfl, ?_⟩
                exact k12 _ _ (Same.refl _) (by rw [hx]; rfl)
              · rw [wl, gather_map xs fun x => V.str x.1] at e12
                have e12' : H12 D3 = some (.lst ((names xs).map V.str)) := by
                  rw [e12]
                  unfold names
                  rw [List.map_map]
                  rfl
                have R12 := R11.on s12
                refine ⟨D3, _, rfl, .inl (SqL.of e12'), rfl, flat_strs _, _, rfl, ?_⟩
                rw [if_neg Bool.false_ne_true, inV_strs]
                by_cases hs : z ∈ names xs
                · rw [any_mem.mpr hs]
                  rw [if_pos hs] at rdN
                  exact iteT ⟨_, rfl, two, fun p hp => tell (j := q) R12.same hp rfl (badN rdN)⟩
                · have : (names xs).any (fun y => y == z) = false := Bool.eq_false_iff.mpr fun w => hs (any_mem.mp w)
                  rw [this]
                  rw [if_neg hs] at rdN
                  refine iteF (nx_of ?_)
                  generalize hq1 : q + 1 + m = q1 at rdN
                  have q1le : q1 ≤ c.length := by
                    have := al (k := m - 1) (by omega)
                    omega
                  have ha12 := R12.same _ _ ha
                  have badG : ∀ {j}, rdGuest c q (names xs) = .error j → rdCode c = .error j := fun {j} e => by rw [rest, hg, step, e]
                  -- the coming
                  refine ans_or (decide (c.length ≤ q1)) (!(decide ((0 : Int) ≤ at_ c q1) && decide (at_ c q1 ≤ 1000000000))) (fun R h => ⟨_, rfl, _, rfl, a, _, rfl, .inl (SqL.of ha12), _, _, rfl, rfl, _, rfl, by rw [ge_b]; exact h _ (Same.refl _)⟩) (fun H13 s13 e R h => chain_not (i := 0) (j := at_ c q1) (k := 1000000000) (fun Q z => z) (fun Q z => ⟨_, rfl, _, rfl, a, _, _, .int (at_ c q1), rfl, rfl, SqL.of (s13 _ _ ha12), atI_nat (ints_at (by have := of_decide_eq_false e; omega)), z⟩) (fun Q z => ⟨_, _, rfl, rfl, ⟨by decide, by decide, by decide⟩, z⟩) (h _ (Same.refl _))) fun H13 s13 => ?_
                  have R13 := R12.on s13
                  have ha13 := R13.same _ _ ha
                  rw [need_or]
                  cases ok3 : need c q1 0 1000000000 with
                  | false => exact iteT ⟨_, rfl, two, fun p hp => tell (j := q1) R13.same hp rfl (badG (by unfold rdGuest; rw [rdN]; simp only; rw [if_neg (by rw [ok3]; decide)]))⟩
                  | true =>
                  obtain ⟨lt3, lo3, hi3⟩ := need_lt ok3
                  refine iteF (nx_of ?_)
                  have plus : (q1 : Int) + 1 = ((q1 + 1 : Nat) : Int) := by omega
                  have lts : decide (at_ c q1 < at_ c (q1 + 1)) = decide (at_ c q1 + 1 ≤ at_ c (q1 + 1)) := decide_eq_decide.mpr (by omega)
                  -- the going
                  refine ans_or (decide (c.length ≤ q1 + 1)) (!(decide (at_ c q1 < at_ c (q1 + 1)) && decide (at_ c (q1 + 1) ≤ 1000000000))) (fun R h => ⟨_, rfl, _, _, rfl, rfl, _, rfl, a, _, rfl, .inl (SqL.of ha13), _, _, rfl, rfl, _, rfl, by rw [plus, ge_b]; exact h _ (Same.refl _)⟩) (fun H14 s14 e R h => chain_not (i := at_ c q1) (j := at_ c (q1 + 1)) (k := 1000000000) (fun Q z => ⟨_, rfl, _, rfl, a, _, _, .int (at_ c q1), rfl, rfl, SqL.of (s14 _ _ ha13), atI_nat (ints_at lt3), z⟩)
                    (fun Q z => ⟨_, rfl, _, rfl, _, _, rfl, rfl, a, _, _, .int (at_ c (q1 + 1)), rfl, rfl, SqL.of (s14 _ _ ha13), by rw [plus]; exact atI_nat (ints_at (by have := of_decide_eq_false e; omega)), z⟩) (fun Q z => ⟨_, _, rfl, rfl, ⟨by decide, by decide, by decide⟩, z⟩) (h _ (Same.refl _))) fun H14 s14 => ?_
                  have R14 := R13.on s14
                  have ha14 := R14.same _ _ ha
                  rw [lts, need_or]
                  cases ok4 : need c (q1 + 1) (at_ c q1 + 1) 1000000000 with
                  | false => exact iteT ⟨_, rfl, _, _, rfl, rfl, two, fun p hp => tell (j := q1 + 1) R14.same hp plus (badG (by unfold rdGuest; rw [rdN]; simp only; rw [if_pos ok3, if_neg (by rw [ok4]; decide)]))⟩
                  | true =>
                  obtain ⟨lt4, lo4, hi4⟩ := need_lt ok4
                  have eg : rdGuest c q (names xs) = .ok ((z, at_ c q1, at_ c (q1 + 1)), q1 + 2) := by
                    unfold rdGuest
                    rw [rdN]
                    simp only
                    rw [if_pos ok3, if_pos ok4]
                  refine iteF ⟨_, rfl, .inl ⟨rfl, _, SqL.of R14.lst⟩, _, rfl, _, rfl, _, rfl, a, _, _, .int (at_ c q1), rfl, rfl, SqL.of ha14, atI_nat (ints_at lt3), _, rfl, _, rfl, _, _, rfl, rfl, a, _, _, .int (at_ c (q1 + 1)), rfl, rfl, SqL.of ha14, by rw [plus]; exact atI_nat (ints_at lt4), by show 3 ≤ sizeLine; decide, fun t ht => ?_⟩
                  have st : Same H14 (upd H14 t (.tup [.str z, .int (at_ c q1), .int (at_ c (q1 + 1))])) := same_upd ht
                  have hLt := st _ _ R14.lst
                  have nLt : t ≠ L := fun w => by
                    rw [w, R14.lst] at ht
                    cases ht
                  refine ⟨L, ws, .ref t, rfl, rfl, hLt, by rw [wl, hxl]; exact Nat.lt_of_lt_of_le hi (Nat.le_trans n24 (by decide)), ?_⟩
                  refine ⟨_, rfl, _, _, rfl, rfl, _, _, _, _, _, _, _, q1 + 2, ws ++ [.ref t], xs ++ [(z, at_ c q1, at_ c (q1 + 1))], rfl, ⟨fun b o e => ?_, upd_same, ?_, R14.good.snoc eg⟩, by rw [List.length_append, hxl]; rfl, by omega, ?_⟩
                  · rw [upd_ne (ne_of_none e HL0)]
                    exact (R14.on st).same b o e
                  · refine pair_app (StaysV.updL hLt (R14.on st).st) (.cons ⟨t, rfl, ?_⟩ .nil)
                    rw [upd_ne nLt]
                    exact upd_same
                  · rw [hg, step, eg]
    · rintro σ H5 ⟨o3, o4, o5, o6, o7, o8, o9, q, ws, xs, rfl, R5, hxl, hq, hg⟩
      rw [hn] at hxl hg
      have hg : rdGuests c n 2 [] = .ok (xs, q) := by
        rw [hg, Nat.sub_self]
        rfl
      have ha5 := R5.same _ _ ha
      have res : rdCode c = rdEnd c q xs := by
        rw [rest, hg]
      refine nx_of ?_
      refine ans_or (decide (c.length ≤ q)) (!(decide (csum (c.take q) ≤ at_ c q) && decide (at_ c q ≤ csum (c.take q)))) (fun R h => ⟨_, rfl, _, rfl, a, _, rfl, .inl (SqL.of ha5), _, _, rfl, rfl, _, rfl, by rw [ge_b]; exact h _ (Same.refl _)⟩) (fun H6 s6 e R h => ⟨_, rfl, _, rfl, a, _, _, .int (at_ c q), rfl, rfl, SqL.of (s6 _ _ ha5), atI_nat (ints_at (by have := of_decide_eq_false e; omega)), _, rfl, _, rfl, _, rfl, a, c.map V.int, rfl, SqL.of (s6 _ _ ha5), fun p hp => ?_⟩) fun H6 s6 => ?_
      · rw [cut_to (α := Int) hq]
        have sp : Same H6 (upd H6 p (.lst ((c.take q).map V.int))) := same_upd hp
        have ep : (upd H6 p (.lst ((c.take q).map V.int))) p = some (.lst ((c.take q).map V.int)) := upd_same
        generalize upd H6 p (.lst ((c.take q).map V.int)) = H7 at sp ep
        refine ⟨p, c.take q, rfl, SqL.of ep, fun H' s' => SqL.of (s' _ _ ep), by rw [List.length_take]; omega, fun H8 s8 => ⟨rfl, _, rfl, ?_⟩⟩
        have e : (!decide (V.int (at_ c q) = V.int (csum (c.take q)))) = !(decide (csum (c.take q) ≤ at_ c q) && decide (at_ c q ≤ csum (c.take q))) := by
          congr 1
          by_cases w : at_ c q = csum (c.take q)
          · rw [w]
            simp
          · have q1 : ¬ V.int (at_ c q) = V.int (csum (c.take q)) := fun z => by injection z with z; exact w z
            rw [decide_eq_false q1]
            symm
            by_cases q2 : csum (c.take q) ≤ at_ c q
            · have q3 : ¬ at_ c q ≤ csum (c.take q) := by omega
              simp [q3]
            · simp [q2]
        rw [e]
        exact h _ (sp.trans s8)
      have R6 := R5.on s6
      have ha6 := R6.same _ _ ha
      rw [need_or]
      cases ok6 : need c q (csum (c.take q)) (csum (c.take q)) with
      | false => exact iteT ⟨_, rfl, two, fun p hp => tell (j := q) R6.same hp rfl (by rw [res]; unfold rdEnd; rw [if_neg (by rw [ok6]; decide)])⟩
      | true =>
      have plus : (q : Int) + 1 = ((q + 1 : Nat) : Int) := by omega
      refine iteF ⟨_, rfl, _, _, rfl, rfl, _, rfl, a, _, rfl, .inl (SqL.of ha6), _, _, rfl, rfl, _, rfl, ?_⟩
      by_cases g : q + 1 < c.length
      · have e : decide ((q : Int) + 1 < ((c.map V.int).length : Int)) = true := by
          rw [len]
          simp
          omega
        rw [e]
        exact iteT ⟨_, rfl, _, _, rfl, rfl, two, fun p hp => tell (j := q + 1) R6.same hp plus (by rw [res]; unfold rdEnd; rw [if_pos ok6, if_pos g])⟩
      · have e : decide ((q : Int) + 1 < ((c.map V.int).length : Int)) = false := by
          rw [len]
          simp
          omega
        rw [e]
        refine iteF ⟨_, rfl, L, ws, rfl, .inl ⟨SqL.of R6.lst, fun t ht => ⟨two, fun p hp => ?_⟩⟩⟩
        have st : Same H6 (upd H6 t (.tup ws)) := same_upd ht
        have R7 := R6.on st
        have sp : Same (upd H6 t (.tup ws)) (upd (upd H6 t (.tup ws)) p (.tup [.str "value", .ref t])) := same_upd hp
        have R8 := R7.on sp
        refine k p _ R8.same ?_
        have e2 : rdCode c = .ok xs := by
          rw [res]
          unfold rdEnd
          rw [if_pos ok6, if_neg g]
        rw [e2]
        exact ⟨t, ws, upd_same, sp _ _ upd_same, R8.st⟩
end
end Sh1
set_option Elab.async false
set_option linter.all false
set_option maxRecDepth 100000
set_option maxHeartbeats 8000000
/-! What the law of codes rests on. -/
namespace Sh1
open PySem L2 Sho NdefX Shg Sh4
theorem set_same {α : Type} {σ : List α} {i : Nat} {v : α} (h : σ[i]? = some v) : σ.set i v = σ := by
  apply List.ext_getElem?
  intro j
  by_cases e : i = j
  · subst e
    have lt := (List.getElem?_eq_some_iff.mp h).1
    rw [List.getElem?_set_self lt, h]
  · rw [List.getElem?_set_ne e]
theorem if_set {i : Nat} {c : TT} {te : TE} {u : TS} {D : Ends} {σ : L2.St} {H : Hp} {v0 : V} (Pc : Bool → Hp → Prop) (Pv : V → Hp → Prop) (hv : σ[i]? = some (some v0)) (hc : ∀ R : Bool → Hp → Prop, (∀ b H', Pc b H' → R b H') → c σ H R)
    (h1 : ∀ H', Pc true H' → ∀ R : VK, (∀ v H2, Pv v H2 → R v H2) → te σ H' R) (h0 : ∀ H', Pc false H' → Pv v0 H') (k : ∀ v H', Pv v H' → u D (σ.set i (some v)) H') : tSeq (tIfS c (tAsg te (gName i)) tNext) u D σ H := by
  refine hc _ fun b H' p => ?_
  cases b with
  | true =>
    rw [if_pos rfl]
    exact h1 H' p _ fun v H2 q => k v H2 q
  | false =>
    rw [if_neg Bool.false_ne_true]
    have := k v0 H' (h0 H' p)
    rw [set_same hv] at this
    exact this
/-! ### stays -/
def extra : List Stay := [("lmnopqrs", 0, 5), ("tuvwxyza", 1, 9), ("zyxwvuts", 2, 3), ("bcdefghi", 0, 1)]
theorem extra_ok : ∀ x ∈ extra, okStay x.1 x.2.1 x.2.2 = true ∧ x.1.cps.all (· < 0x110000) = true ∧ x.1.length ≤ 8 := by
  have h : (extra.all fun x => okStay x.1 x.2.1 x.2.2 && (x.1.cps.all (· < 0x110000) && decide (x.1.length ≤ 8))) = true := by decide +kernel
  intro x hx
  have := List.all_eq_true.mp h x hx
  simp only [Bool.and_eq_true, decide_eq_true_eq] at this
  exact ⟨this.1, this.2.1, this.2.2⟩
theorem all_nd : (eight ++ names extra).Nodup := by decide +kernel
theorem Drawn.good {last : Int} {xs : List Stay} (d : Drawn last xs) (hl : last ≤ 1000000000) : Good xs := by
  refine ⟨?_, fun x hx => ?_⟩
  · rw [d.nm]
    exact eight_nd.sublist (List.take_sublist ..)
  · have hm : x.1 ∈ names xs := List.mem_map.mpr ⟨x, hx, rfl⟩
    rw [d.nm] at hm
    obtain ⟨e1, e2, e3⟩ := eight_ok _ (List.mem_of_mem_take hm)
    refine ⟨?_, e2, e3⟩
    have t := d.tm x hx
    unfold okStay okTick
    rw [e1]
    simp
    omega
theorem Drawn.more {last : Int} {xs : List Stay} (d : Drawn last xs) (hl : last ≤ 1000000000) : Good (xs ++ extra) := by
  have g := d.good hl
  refine ⟨?_, fun x hx => ?_⟩
  · have e : names (xs ++ extra) = names xs ++ names extra := by
      unfold names
      rw [List.map_append]
    rw [e, d.nm]
    exact all_nd.sublist ((List.take_sublist ..).append (List.Sublist.refl _))
  · rcases List.mem_append.mp hx with hx | hx
    · exact g.ok x hx
    · exact extra_ok x hx
theorem Good.nm {xs : List Stay} (g : Good xs) : ∀ x ∈ xs, okName x.1 = true := fun x hx => by
  have := (g.ok x hx).1
  unfold okStay at this
  simp only [Bool.and_eq_true] at this
  exact this.1
theorem rdGuests_len {c : List Int} : ∀ {k i : Nat} {acc xs : List Stay} {q : Nat}, rdGuests c k i acc = .ok (xs, q) → xs.length = acc.length + k
  | 0, _, _, _, _, h => by
    cases h
    rfl
  | k + 1, i, acc, xs, q, h => by
    unfold rdGuests at h
    cases e : rdGuest c i (names acc) with
    | error j =>
      rw [e] at h
      cases h
    | ok p =>
      obtain ⟨x, q'⟩ := p
      rw [e] at h
      have := rdGuests_len h
      rw [List.length_append] at this
      rw [this]
      show acc.length + 1 + k = _
      omega
theorem rdCode_len {c : List Int} {xs : List Stay} (h : rdCode c = .ok xs) : xs.length ≤ 24 := by
  unfold rdCode at h
  by_cases h0 : need c 0 115 115 = true
  · rw [if_pos h0] at h
    by_cases h1 : need c 1 0 24 = true
    · rw [if_pos h1] at h
      obtain ⟨_, lo, hi⟩ := need_lt h1
      cases e : rdGuests c (at_ c 1).toNat 2 [] with
      | error j =>
        rw [e] at h
        cases h
      | ok p =>
        obtain ⟨ys, q⟩ := p
        rw [e] at h
        have l := rdGuests_len e
        simp only at h
        rw [rdEnd_xs] at h
        have : ys = xs := by
          rcases rdEnd_cases c q with w | ⟨j, w⟩
          · rw [w] at h
            cases h
            rfl
          · rw [w] at h
            cases h
        rw [← this, l]
        show 0 + (at_ c 1).toNat ≤ 24
        omega
    · rw [if_neg h1] at h
      cases h
  · rw [if_neg h0] at h
    cases h
/-! ### alike -/
theorem alike_zs {H : Hp} {n : Nat} : ∀ zs : List Int, PySem.Paired (fun u v => Alike H n u v) (zs.map V.int) (zs.map V.int)
  | [] => .nil
  | z :: zs => .cons (by cases n with
    | zero => exact ⟨trivial, rfl⟩
    | succ n => exact .inl ⟨trivial, rfl⟩) (alike_zs zs)
theorem alike_stays {H : Hp} : ∀ {ws vs : List V} {xs : List Stay}, StaysV H ws xs → StaysV H vs xs → PySem.Paired (fun u v => Alike H 1 u v) ws vs
  | _, _, _, .nil, .nil => .nil
  | _, _, _, .cons h t, .cons k r => by
    obtain ⟨a, rfl, ha⟩ := h
    obtain ⟨b, rfl, hb⟩ := k
    exact .cons (.inr ⟨a, b, _, _, rfl, rfl, .inr ⟨ha, hb⟩, by show 3 ≤ 1000; decide, .cons ⟨trivial, rfl⟩ (.cons ⟨trivial, rfl⟩ (.cons ⟨trivial, rfl⟩ .nil))⟩) (alike_stays t r)
/-- two results that tell the same -/
theorem alike_told {H : Hp} {p q : Addr} {r : Except Nat (List Stay)} (hl : ∀ xs, r = .ok xs → xs.length ≤ 1000) (h : Told H p r) (k : Told H q r) : Alike H 3 (.ref p) (.ref q) := by
  cases r with
  | error j => exact .inr ⟨p, q, _, _, rfl, rfl, .inr ⟨h, k⟩, by show 2 ≤ 1000; decide, .cons (.inl ⟨trivial, rfl⟩) (.cons (.inl ⟨trivial, rfl⟩) .nil)⟩
  | ok xs =>
    obtain ⟨t, ws, h1, h2, h3⟩ := h
    obtain ⟨u, vs, k1, k2, k3⟩ := k
    exact .inr ⟨p, q, _, _, rfl, rfl, .inr ⟨h1, k1⟩, by show 2 ≤ 1000; decide, .cons (.inl ⟨trivial, rfl⟩) (.cons (.inr ⟨t, u, ws, vs, rfl, rfl, .inr ⟨h2, k2⟩, by rw [pair_len h3]; exact hl xs rfl, alike_stays h3 k3⟩) .nil)⟩
theorem Told.same {H H' : Hp} {p : Addr} {r : Except Nat (List Stay)} (h : Told H p r) (s : Same H H') : Told H' p r := by
  cases r with
  | error j => exact s _ _ h
  | ok xs =>
    obtain ⟨t, ws, h1, h2, h3⟩ := h
    exact ⟨t, ws, s _ _ h1, s _ _ h2, h3.same s⟩
theorem cat_tup {K : PySem.W.Frag} {H : Hp} {a b : Addr} {xs ys : List V} {Q : VK} (ha : H a = some (.tup xs)) (hb : H b = some (.tup ys)) (hz : xs.length + ys.length ≤ sizeLine) (h : ∀ c H', Same H H' → H' c = some (.tup (xs ++ ys)) → Q (.ref c) H') : rCatA K (.ref a) (.ref b) H Q := by
  refine ⟨a, b, xs, ys, rfl, rfl, SqT.of ha, SqT.of hb, hz, fun e => ?_, fun _ e => ?_, fun _ _ p hp => ?_⟩
  · exact h b H (Same.refl _) (by rw [e]; exact hb)
  · exact h a H (Same.refl _) (by rw [e, List.append_nil]; exact ha)
  · exact h p _ (same_upd hp) upd_same
/-! ### lists of ints -/
abbrev IntsN (n : Nat) (H : Hp) (p : Addr) : Prop := ∃ z : List Int, H p = some (.lst (z.map V.int)) ∧ z.length ≤ n
theorem IntsN.same {n : Nat} {H H' : Hp} {p : Addr} (h : IntsN n H p) (s : Same H H') : IntsN n H' p := by
  obtain ⟨z, e, l⟩ := h
  exact ⟨z, s _ _ e, l⟩
theorem IntsN.but {n : Nat} {l S : Addr} {H H' : Hp} {p : Addr} (h : IntsN n H p) (b : But2 l S H H') (n1 : p ≠ l) (n2 : p ≠ S) : IntsN n H' p := by
  obtain ⟨z, e, k⟩ := h
  exact ⟨z, b _ _ e n1 n2, k⟩
theorem IntsN.up {n m : Nat} {H : Hp} {p : Addr} (h : IntsN n H p) (k : n ≤ m) : IntsN m H p := by
  obtain ⟨z, e, l⟩ := h
  exact ⟨z, e, Nat.le_trans l k⟩
def Gives (l S : Addr) (te : TE) (σ : L2.St) (H : Hp) (n : Nat) : Prop := ∀ Q : VK, (∀ p H', Same H H' → IntsN n H' p → p ≠ l → p ≠ S → Q (.ref p) H') → te σ H Q
theorem cut_ints (z : List Int) (lo hi : Option Int) : ∃ y : List Int, cutV (z.map V.int) lo hi = y.map V.int ∧ y.length ≤ z.length := by
  unfold cutV
  rw [List.length_map, ← List.map_drop, ← List.map_take]
  refine ⟨_, rfl, ?_⟩
  rw [List.length_take, List.length_drop]
  omega
section
variable {l S : Addr} {σ : L2.St} {H : Hp} {n m : Nat}
theorem g_slot {i : Nat} {p : Addr} (e : σ[i]? = some (some (.ref p))) (h : IntsN n H p) (n1 : p ≠ l) (n2 : p ≠ S) : Gives l S (tVar i) σ H n := fun Q q => ⟨_, e, q p H (Same.refl _) h n1 n2⟩
theorem g_lst {i : Nat} {z : Int} (d : NextSt H l S) (e : σ[i]? = some (some (.int z))) : Gives l S (tLst (tCons (tVar i) tNil)) σ H 1 := fun Q q => ⟨_, e, by show 1 ≤ sizeLine; decide, fun p hp => q p _ (same_upd hp) ⟨[z], upd_same, Nat.le_refl _⟩ (d.fresh hp).1 (d.fresh hp).2⟩
theorem g_slice {K : PySem.W.Frag} {te : TE} {tl th : TO} (d : NextSt H l S) (g : Gives l S te σ H n) (h1 : ∀ H', ∃ lo, ∀ R : Option Int → Hp → Prop, R lo H' → tl σ H' R) (h2 : ∀ H', ∃ hi, ∀ R : Option Int → Hp → Prop, R hi H' → th σ H' R) : Gives l S (tSl (rSlL K) te tl th) σ H n := fun Q q => by
  refine g _ fun p H' s i _ _ => ?_
  obtain ⟨lo, k1⟩ := h1 H'
  obtain ⟨hi, k2⟩ := h2 H'
  obtain ⟨z, ez, zn⟩ := i
  refine k1 _ (k2 _ ⟨p, _, rfl, SqL.of ez, fun p' hp' => ?_⟩)
  obtain ⟨y, ey, yn⟩ := cut_ints z lo hi
  have f := (d.same s).fresh hp'
  rw [ey]
  exact q p' _ (s.trans (same_upd hp')) ⟨y, upd_same, by omega⟩ f.1 f.2
theorem g_cat {ta tb : TE} (d : NextSt H l S) (g : Gives l S ta σ H n) (k : ∀ H', Same H H' → Gives l S tb σ H' m) (hz : n + m ≤ 1000) : Gives l S (tOp rCat ta tb) σ H (n + m) := fun Q q => by
  refine g _ fun p H1 s1 i1 _ _ => k H1 s1 _ fun r H2 s2 i2 _ _ => ?_
  obtain ⟨y, ey, yn⟩ := i1
  obtain ⟨z, ez, zn⟩ := i2
  refine ⟨p, r, _, _, rfl, rfl, s2 _ _ ey, ez, ?_, fun c hc => ?_⟩
  · rw [List.length_map, List.length_map, sizeLine_eq]
    omega
  · have f := (d.same (s1.trans s2)).fresh hc
    refine q c _ ((s1.trans s2).trans (same_upd hc)) ⟨y ++ z, by rw [upd_same, List.map_append], by rw [List.length_append]; omega⟩ f.1 f.2
end
/-! ### within a turn -/
theorem stays_keep2 {l S : Addr} {H H' : Hp} (d : NextSt H l S) (b : Keep2 l S H H') : ∀ {ws : List V} {xs : List Stay}, StaysV H ws xs → StaysV H' ws xs
  | _, _, .nil => .nil
  | _, _, .cons h t => by
    obtain ⟨p, e, hp⟩ := h
    obtain ⟨n1, n2⟩ := d.other hp fun ys z => nomatch z
    exact .cons ⟨p, e, b _ _ hp n1 n2 fun _ z => nomatch z⟩ (stays_keep2 d b t)
structure T8 (T : List (Addr × Str)) (l S t C : Addr) (ws : List V) (xs : List Stay) (c : List Int) (H : Hp) : Prop where
  d : NextSt H l S
  tb : LamX.Tabs T H
  st : H t = some (.tup ws)
  sv : StaysV H ws xs
  cd : H C = some (.lst (c.map V.int))
  nl : C ≠ l
  nS : C ≠ S
section
variable {T : List (Addr × Str)} {l S t C : Addr} {ws : List V} {xs : List Stay} {c : List Int} {H H' : Hp}
theorem T8.fwd (u : T8 T l S t C ws xs c H) (e : Keep2 l S H H') (d : NextSt H' l S) (b : LamX.Tabs T H') : T8 T l S t C ws xs c H' := by
  obtain ⟨n1, n2⟩ := u.d.other u.st fun ys z => nomatch z
  exact ⟨d, b, e _ _ u.st n1 n2 (fun _ z => nomatch z), stays_keep2 u.d e u.sv, e _ _ u.cd u.nl u.nS (fun _ z => nomatch z), u.nl, u.nS⟩
theorem T8.same (u : T8 T l S t C ws xs c H) (e : Same H H') : T8 T l S t C ws xs c H' := u.fwd (.of e) (u.d.same e) (LamX.Tabs.ext u.tb e)
theorem T8.but (u : T8 T l S t C ws xs c H) (e : But2 l S H H') (d : NextSt H' l S) : T8 T l S t C ws xs c H' := u.fwd (.but e) d (tabs_but2 u.d e u.tb)
theorem T8.grows (u : T8 T l S t C ws xs c H) (e : Grows T H H') : T8 T l S t C ws xs c H' := u.fwd (.ext e.ext) (u.d.keep e.ext) (e.tab u.tb)
end
theorem ints_pick (zs : List Int) {r : Int} (h0 : 0 ≤ r) (h1 : r < zs.length) : ∃ z, z ∈ zs ∧ atI (zs.map V.int) r = some (.int z) := by
  obtain ⟨k, rfl⟩ : ∃ k : Nat, r = (k : Int) := ⟨r.toNat, by omega⟩
  have hk : k < zs.length := by omega
  exact ⟨zs[k], List.getElem_mem hk, atI_nat (by rw [List.getElem?_map, List.getElem?_eq_getElem hk]; rfl)⟩
def oddsL : List Int := [0, 1, 2, 8, 9, 24, 25, 26, 27, 1000000000, 1000000001, -1]
theorem shaped_code (j : Int) : SeqAt.shaped (.tuple [.str "code", .int j]) = true := by
  unfold SeqAt.shaped
  have h1 : PyData.canLay0 (.tuple [.str "code", .int j]) = true := by
    show (PyData.canLay0 (.str "code") && (true && true)) = true
    decide +kernel
  rw [h1]
  rfl
theorem eqv_code (j : Int) : PyData.eqv (.tuple [.str "code", .int j]) (.tuple [.str "code", .int j]) = true := by
  show ((("code" : Str) == "code") && ((j == j) && true)) = true
  simp
end Sh1
set_option Elab.async false
set_option linter.all false
set_option maxRecDepth 100000
set_option maxHeartbeats 8000000
/-! The law of codes. -/
namespace Sh1
open PySem L2 Sho NdefX Shg Sh4
abbrev qLam : Str := "law.<locals>.<lambda>"
abbrev NL48 : List Str := ["_law_script", "_law_h", "_law_turn", "_law_stays_here", "_law_plain", "_law_code_here", "_law_change", "_law_at", "_law_odd", "_law_some", "_law_bent", "_law_twice"]
abbrev clF (x : Str) (sc : Scope) (n : Nat) : List (Str × Addr) := cloFrom (cellsFrom (n + 1) sc.names []) [(x, .free)] []
/-- what the first lambda asks and gives -/
def spLam1 (CD : Addr) : SpL := fun ws H Q E => ∃ (b : Addr) (z : List Int), ws = [some (.ref b)] ∧ H b = some (.lst (z.map V.int)) ∧ z.length < 1000 ∧
  (∀ xs, rdCode z = .ok xs → ∀ (H' : Hp) (t : Addr) (vs : List V), Same H H' → H' t = some (.tup vs) → StaysV H' vs xs → Q (.ref t) H') ∧ ∀ j, rdCode z = .error j → ∀ (H' : Hp) (d : Addr), Same H H' → H' d = some (.xd [(("offset" : Str), .int (j : Nat))]) → E (.ref CD) (some d) H'
def spLam2 (CD : Addr) : SpL := fun ws H _ E => ∃ (b : Addr) (z : List Int) (j : Nat), ws = [some (.ref b)] ∧ H b = some (.lst (z.map V.int)) ∧ z.length < 999 ∧ rdCode (z ++ [csum z]) = .error j ∧
  ∀ (H' : Hp) (d : Addr), Same H H' → H' d = some (.xd [(("offset" : Str), .int (j : Nat))]) → E (.ref CD) (some d) H'
section
variable {P : Program} {w : World} {K : PySem.W.Frag} {mg : Str → Option Value} {base : Heap}
def spLaw48 (K : PySem.W.Frag) (T : List (Addr × Str)) : Sp := fun vs H Q _ => ∃ (a : Addr) (ns : List Int), vs = [.ref a] ∧ SqL K H a (ns.map V.int) ∧ ns.length ≤ 63 ∧ LamX.Tabs T H ∧ ∀ H', Q (.bl true) H'
theorem scLaw48 : FnScope NL48 ["_law_script"] (defScope sLaw) := ⟨rfl, rfl, rfl, by decide +kernel, rfl, by decide +kernel, by decide +kernel⟩
structure Defs48 (P : Program) (w : World) (K : PySem.W.Frag) (mg : Str → Option Value) (base : Heap) (CP P0 : Addr) (E10 : Fin 10 → Addr) : Prop where
  B : Shg.Blt mg
  EE : Ten K mg P0 E10
  PC : PartyC K mg CP
  mix : ∃ f fd, FnOk P w K mg base CX0 1 f fd ["_law_script", "_law_seed"] (spMix K) ∧ mg "_law_mix" = some (.ref f) ∧ PySem.W.keepIn K (.ref f) = true ∧ Binds K fd ["_law_script", "_law_seed"] []
  next : ∃ f fd, FnOk P w K mg base CX0 1 f fd ["_law_h", "_law_limit"] spNext ∧ mg "_law_next" = some (.ref f) ∧ PySem.W.keepIn K (.ref f) = true ∧ Binds K fd ["_law_h", "_law_limit"] []
  alike : ∃ f fd, (∀ n, FnOk P w K mg base CX0 (n + 1) f fd ["_law_found", "_law_due"] (spAlike n)) ∧ mg "_law_alike" = some (.ref f) ∧ PySem.W.keepIn K (.ref f) = true ∧ Binds K fd ["_law_found", "_law_due"] []
  outcome : ∃ f fd, Fun K "_law_outcome" "_law_outcome" sOut f fd ∧ mg "_law_outcome" = some (.ref f) ∧ PySem.W.keepIn K (.ref f) = true ∧ Binds K fd ["_law_call"] []
  stays : ∃ f fd, FnOk P w K mg base CX0 2 f fd ["_law_h", "_law_most", "_law_last"] (spStays K) ∧ mg "_law_stays" = some (.ref f) ∧ PySem.W.keepIn K (.ref f) = true ∧ Binds K fd ["_law_h", "_law_most", "_law_last"] []
  party : ∃ f fd, FnOk P w K mg base (L2.CX P w) 8 f fd ["_law_stays_here"] (spPartyT K CP) ∧ mg "_law_party" = some (.ref f) ∧ PySem.W.keepIn K (.ref f) = true ∧ Binds K fd ["_law_stays_here"] []
  sum : ∃ f fd, FnOk P w K mg base CX0 1 f fd ["_law_values"] (spSum K) ∧ mg "_law_sum" = some (.ref f) ∧ PySem.W.keepIn K (.ref f) = true ∧ Binds K fd ["_law_values"] []
  code : ∃ f fd, FnOk P w K mg base CX0 1 f fd ["_law_stays_here"] spCode ∧ mg "_law_code" = some (.ref f) ∧ PySem.W.keepIn K (.ref f) = true ∧ Binds K fd ["_law_stays_here"] []
  read : ∃ f fd, FnOk P w K mg base CX0 2 f fd ["_law_code_here"] spRead ∧ mg "_law_read" = some (.ref f) ∧ PySem.W.keepIn K (.ref f) = true ∧ Binds K fd ["_law_code_here"] []
  enc : ∃ f fd, FnOk P w K mg base CX0 4 f fd ["party"] (spEncode CP) ∧ mg "encode_party" = some (.ref f) ∧ PySem.W.keepIn K (.ref f) = true ∧ Binds K fd ["party"] []
  dec : ∃ f fd, FnOk P w K mg base (L2.CX P w) 7 f fd ["code"] (spDecode CP (E10 1)) ∧ mg "decode_party" = some (.ref f) ∧ PySem.W.keepIn K (.ref f) = true ∧ Binds K fd ["code"] []
  prop : ∃ p f fd, FnOk P w K mg base CX0 1 f fd ["self"] (getSp CP "_stays") ∧ PropOf K CP "stays" p f ∧ Binds K fd ["self"] []
theorem ok_law48 {f c TP P0 CP : Addr} {E10 : Fin 10 → Addr} {fd : FuncData} {T : List (Addr × Str)} (F : FunL K "law" "law" sLaw f c fd) (D : Defs48 P w K mg base CP P0 E10) (TB : LamX.TabB base mg c TP) (hm : (TP, qLam) ∈ T) (hu : ∀ p ∈ T, p.1 = TP → p.2 = qLam) :
    FnOk P w K mg base (L2.CX P w) 10 f fd ["_law_script"] (spLaw48 K T) := by
  obtain ⟨B, EE, PC, ⟨f1, fd1, G1, m1, k1, b1⟩, ⟨f2, fd2, G2, m2, k2, b2⟩, ⟨f3, fd3, G3, m3, k3, b3⟩, ⟨f4, fd4, F4, m4, k4, b4⟩, ⟨f5, fd5, G5, m5, k5, b5⟩, ⟨f6, fd6, G6, m6, k6, b6⟩, ⟨f7, fd7, G7, m7, k7, b7⟩, ⟨f8, fd8, G8, m8, k8, b8⟩, ⟨f9, fd9, G9, m9, k9, b9⟩, ⟨fE, fdE, GE, mE, kE, bE⟩, ⟨fD, fdD, GD, mD, kD, bD⟩, ⟨pS, fS, fdS, GS, hS, bS⟩⟩ := D
  refine F.okX scLaw48 (fun vs H Q E h => ?_) (fun A outer s H vs Q E hr h => ?_)
  · obtain ⟨a, ns, rfl, _⟩ := h
    rfl
  · obtain ⟨a, ns, rfl, ha, hl, hT, k⟩ := h
    have nd := scLaw48.nd
    have pass : Passes (L2.CX P w) (cxOf (L2.CX P w) P w K mg base NL48 "law" (defScope sLaw) f (.ref c) A outer s H E) E := passes_call (takes_of rfl rfl rfl rfl) fun _ _ _ _ z => z
    have un := (hr.mono (Nat.zero_le _)).units
    refine ⟨_, pss_cons (ps_set (i := 1) nd rfl (Or.inl rfl) (pe_call G1 (hr.mono (by decide)) rfl m1 k1 b1 .nil pass0 (pa_cons (pv 0) (pa_cons pe_int pa_nil))))
      (pss_cons (ps_for (passes_of rfl) rfl (pi_range1 (by rfl) B.range (pa_cons pe_int pa_nil)) (pg_name (i := 2) nd rfl (Or.inl rfl))
        (pss_cons (ps_set (i := 3) nd rfl (Or.inl rfl) (pe_call G5 (hr.mono (by decide)) rfl m5 k5 b5 .nil pass0 (pa_cons (pv 1) (pa_cons pe_int (pa_cons (pe_ix ix_list (pe_lst (pa_cons pe_int (pa_cons (pe_op op_pow pe_int pe_int) pa_nil))) (pe_call G2 (hr.mono (by decide)) rfl m2 k2 b2 .nil pass0 (pa_cons (pv 1) (pa_cons pe_int pa_nil))) (fun _ _ => rfl)) pa_nil)))))
        (pss_cons (ps_if (pt_cmpR op_eq (pv 2) pe_int (nomark _)) (pss_one (ps_set (i := 3) nd rfl (Or.inl rfl) (pe_op op_catA (pv 3) (pe_tup (pa_cons (pe_tup (pa_cons pe_str (pa_cons pe_int (pa_cons pe_int pa_nil)))) (pa_cons (pe_tup (pa_cons pe_str (pa_cons pe_int (pa_cons pe_int pa_nil)))) (pa_cons (pe_tup (pa_cons pe_str (pa_cons pe_int (pa_cons pe_int pa_nil)))) (pa_cons (pe_tup (pa_cons pe_str (pa_cons pe_int (pa_cons pe_int pa_nil)))) pa_nil)))))))) pss_nil)
        (pss_cons (ps_set (i := 4) nd rfl (Or.inl rfl) (pe_call G8 (hr.mono (by decide)) rfl m8 k8 b8 .nil pass0 (pa_cons (pv 3) pa_nil)))
        (pss_cons (ps_set (i := 5) nd rfl (Or.inl rfl) (pe_op op_cat (pv 4) (pe_lst (pa_cons (pe_call G7 (hr.mono (by decide)) rfl m7 k7 b7 .nil pass0 (pa_cons (pv 4) pa_nil)) pa_nil))))
        (pss_cons (ps_if (PW.pt (pw_or (pt_not (pt_val (pe_call (G3 3) (hr.mono (by decide)) rfl m3 k3 b3 .nil pass0 (pa_cons (pe_call GE (hr.mono (by decide)) rfl mE kE bE .nil pass0 (pa_cons (pe_call G6 (hr.mono (by decide)) rfl m6 k6 b6 .nil pass (pa_cons (pv 3) pa_nil)) pa_nil)) (pa_cons (pv 5) pa_nil)))))
            (pw_or1 (pt_cmpR (op_neD un) (pe_prop (pe_call GD (hr.mono (by decide)) rfl mD kD bD .nil pass (pa_cons (pv 5) pa_nil)) PC.cl hS GS (hr.mono (by decide)) bS .nil pass0 rfl) (pv 3) (nomark _)))))
          (pss_one (ps_ret pe_bl)) pss_nil)
        (pss_cons (ps_for (passes_of rfl) rfl (pi_range1 (by rfl) B.range (pa_cons pe_int pa_nil)) (pg_name (i := 6) nd rfl (Or.inl rfl))
          (pss_cons (ps_par (i := 7) (j := 8) rfl nd rfl rfl (by decide) rfl rfl (pa_cons (pe_call G2 (hr.mono (by decide)) rfl m2 k2 b2 .nil pass0 (pa_cons (pv 1) (pa_cons (pe_callB call_len_seq (by rfl) B.len PySem.boot_len (pa_cons (pv 5) pa_nil)) pa_nil)))
              (pa_cons (pe_ix ix_list (pe_lst (pa_cons pe_int (pa_cons pe_int (pa_cons pe_int (pa_cons pe_int (pa_cons pe_int (pa_cons pe_int (pa_cons pe_int (pa_cons pe_int (pa_cons pe_int (pa_cons (pe_op op_pow pe_int pe_int) (pa_cons (pe_op op_add (pe_op op_pow pe_int pe_int) pe_int) (pa_cons (pe_un un_neg pe_int) pa_nil)))))))))))))
                (pe_call G2 (hr.mono (by decide)) rfl m2 k2 b2 .nil pass0 (pa_cons (pv 1) (pa_cons pe_int pa_nil))) (fun _ _ => rfl)) pa_nil)) (by rfl))
          (pss_cons (ps_set (i := 9) nd rfl (Or.inl rfl) (pe_lst (pa_cons (pe_op op_cat (pe_op op_cat (pe_slice sl_list (pv 5) po_none (po_some (pv 7))) (pe_lst (pa_cons (pv 8) pa_nil))) (pe_slice sl_list (pv 5) (po_some (pe_op op_add (pv 7) pe_int)) po_none))
            (pa_cons (pe_slice sl_list (pv 5) po_none (po_some (pv 7))) (pa_cons (pe_op op_cat (pe_slice sl_list (pv 5) po_none (po_some (pv 7))) (pe_slice sl_list (pv 5) (po_some (pe_op op_add (pv 7) pe_int)) po_none)) (pa_cons (pe_op op_cat (pv 5) (pe_lst (pa_cons (pv 8) pa_nil))) pa_nil))))))
          (pss_cons (ps_set (i := 10) nd rfl (Or.inr rfl) (pe_ix ix_list (pv 9) (pe_call G2 (hr.mono (by decide)) rfl m2 k2 b2 .nil pass0 (pa_cons (pv 1) (pa_cons pe_int pa_nil))) (fun _ _ => rfl)))
          (pss_cons (ps_if (PW.pt (pw_and (pt_cmpR op_eq (pe_call G2 (hr.mono (by decide)) rfl m2 k2 b2 .nil pass0 (pa_cons (pv 1) (pa_cons pe_int pa_nil))) pe_int (nomark _)) (pw_and1 (pt_cmpR op_gt (pe_callB call_len_seq (by rfl) B.len PySem.boot_len (pa_cons (pv 10) pa_nil)) pe_int (nomark _)))))
            (pss_one (ps_set (i := 10) nd rfl (Or.inr rfl) (pe_op op_cat (pe_slice sl_list (pv 10) po_none (po_some (pe_un un_neg pe_int))) (pe_lst (pa_cons (pe_call G7 (hr.mono (by decide)) rfl m7 k7 b7 .nil pass0 (pa_cons (pe_slice sl_list (pv 10) po_none (po_some (pe_un un_neg pe_int))) pa_nil)) pa_nil))))) pss_nil)
          (pss_one (ps_if (pt_not (pt_val (pe_call (G3 3) (hr.mono (by decide)) rfl m3 k3 b3 .nil pass0 (pa_cons
              (pe_callAt (CX := L2.CX P w) (E := fun _ _ _ => False) (know := fun σ s2 H2 => CellsAt (clF "_law_bent" (defScope sLaw) s.heap.objs.size) ["_law_bent"] [slotAt σ 10] s2.heap H2)
                (sp := fun σ v H1 Q' => ∃ f sp, v = .ref f ∧ Sho.Act P w K mg base (L2.CX P w) 8 (clF "_law_bent" (defScope sLaw) s.heap.objs.size) ["_law_bent"] sp f H1 ∧ ∀ (R : VK) (E' : XK), (∀ v H2, OutV Q' v H2 → R v H2) → (∀ cls d H2, Out10 E10 Q' cls d H2 → E' cls d H2) → sp [slotAt σ 10] H1 R E')
                (by rfl) m4 k4 passL (fun pins σ H' s' I => cells_of (js := [10]) (fr := ["_law_bent"]) I (Caps.made (scope := scL [("_law_bent", .free)]) I.ok (free_by (os := (defScope sLaw).names) (by decide +kernel)) (by decide +kernel) rfl))
                (pa_cons (pe_lam TB rfl hm hu (free_by (os := (defScope sLaw).names) (by decide +kernel))) pa_nil) (fun σ2 s2 H2 u v Q2 e0 kn rv h => by
                  obtain ⟨f2', sp2, rfl, ac, q⟩ := h
                  cases rv
                  exact outcome_run F4 b4 B EE (hr.mono (by decide)) e0 kn ac q))
              (pa_cons (pe_call G9 (hr.mono (by decide)) rfl m9 k9 b9 .nil pass0 (pa_cons (pv 10) pa_nil)) pa_nil))))) (pss_one (ps_ret pe_bl)) pss_nil)))))))
        (pss_one (ps_if (pt_cmpR op_gt (pe_callB call_len_seq (by rfl) B.len PySem.boot_len (pa_cons (pv 3) pa_nil)) pe_int (nomark _))
          (pss_cons (ps_set (i := 11) nd rfl (Or.inr rfl) (pe_op op_cat (pe_lst (pa_cons pe_int (pa_cons pe_int pa_nil))) (pe_op op_rep (pe_slice sl_list (pe_call G8 (hr.mono (by decide)) rfl m8 k8 b8 .nil pass0 (pa_cons (pe_slice sl_tup (pv 3) po_none (po_some pe_int)) pa_nil)) (po_some pe_int) po_none) pe_int)))
          (pss_one (ps_if (pt_cmpR (op_neD un)
              (pe_callAt (CX := L2.CX P w) (E := fun _ _ _ => False) (know := fun σ s2 H2 => CellsAt (clF "_law_twice" (defScope sLaw) s.heap.objs.size) ["_law_twice"] [slotAt σ 11] s2.heap H2)
                (sp := fun σ v H1 Q' => ∃ f sp, v = .ref f ∧ Sho.Act P w K mg base (L2.CX P w) 8 (clF "_law_twice" (defScope sLaw) s.heap.objs.size) ["_law_twice"] sp f H1 ∧ ∀ (R : VK) (E' : XK), (∀ v H2, OutV Q' v H2 → R v H2) → (∀ cls d H2, Out10 E10 Q' cls d H2 → E' cls d H2) → sp [slotAt σ 11] H1 R E')
                (by rfl) m4 k4 passL (fun pins σ H' s' I => cells_of (js := [11]) (fr := ["_law_twice"]) I (Caps.made (scope := scL [("_law_twice", .free)]) I.ok (free_by (os := (defScope sLaw).names) (by decide +kernel)) (by decide +kernel) rfl))
                (pa_cons (pe_lam TB rfl hm hu (free_by (os := (defScope sLaw).names) (by decide +kernel))) pa_nil) (fun σ2 s2 H2 u v Q2 e0 kn rv h => by
                  obtain ⟨f2', sp2, rfl, ac, q⟩ := h
                  cases rv
                  exact outcome_run F4 b4 B EE (hr.mono (by decide)) e0 kn ac q))
              (pe_tup (pa_cons pe_str (pa_cons (pe_op op_add pe_int (pe_op op_fdiv (pe_op op_sub (pe_callB call_len_seq (by rfl) B.len PySem.boot_len (pa_cons (pv 11) pa_nil)) pe_int) pe_int)) pa_nil))) (nomark _)) (pss_one (ps_ret pe_bl)) pss_nil))) pss_nil)))))))))
      (pss_one (ps_ret pe_bl))), ?_⟩
    refine ⟨_, rfl, a, ns, 48, rfl, ha, hl, fun H1 l S s1 _ _ D1 => ?_⟩
    refine ⟨3, rfl, by decide, by decide, for_it walk_range (fun i σ H2 => ∃ o2 o3 o4 o5 o6 o7 o8 o9 oa ob : Option V, σ = [some (.ref a), some (.ref l), o2, o3, o4, o5, o6, o7, o8, o9, oa, ob] ∧ NextSt H2 l S ∧ LamX.Tabs T H2)
      ⟨none, none, none, none, none, none, none, none, none, none, rfl, D1, LamX.Tabs.ext hT s1⟩ (fun _ _ _ _ _ => trivial) ?_ ?_⟩
    · rintro turn v σ H3 H2 hi ⟨o2, o3, o4, o5, o6, o7, o8, o9, oa, ob, rfl, D2, T2⟩ ⟨rfl, rfl⟩
      -- the stays
      refine ⟨_, rfl, _, _, rfl, rfl, ⟨by decide, by decide, by decide⟩, by show 2 ≤ sizeLine; decide, fun La hLa => ⟨_, rfl, l, S, 2, rfl, D2.same (same_upd hLa), by decide, by decide, fun r H4 r0 r1 b4 d4 => ?_⟩⟩
      obtain ⟨nLal, nLaS⟩ := D2.fresh hLa
      have T4 : LamX.Tabs T H4 := tabs_but2 (D2.same (same_upd hLa)) b4 (LamX.Tabs.ext T2 (same_upd hLa))
      have eLa : H4 La = some (.lst (([9, 1000000000] : List Int).map V.int)) := b4 _ _ upd_same nLal nLaS
      obtain ⟨last, lm, hlast⟩ := ints_pick [9, 1000000000] r0 (by show r < 2; omega)
      have lb : 0 < last ∧ last ≤ 1000000000 := by
        rcases List.mem_cons.mp lm with e | e
        · omega
        · have := List.mem_singleton.mp e
          omega
      refine ⟨La, _, r, .int last, rfl, rfl, SqL.of eLa, hlast, l, S, 4, last, rfl, d4, by decide, by decide, lb.1, by omega, fun t ws xs H5 b5 d5 et sv lx dr => name_of ?_⟩
      have T5 : LamX.Tabs T H5 := tabs_but2 d4 b5 T4
      clear b4 d4 T4 eLa hLa D2 T2
      refine if_set (i := 3) (v0 := .ref t) (fun _ H' => H' = H5) (fun v H' => ∃ (t : Addr) (ws : List V) (xs : List Stay), v = .ref t ∧ NextSt H' l S ∧ LamX.Tabs T H' ∧ H' t = some (.tup ws) ∧ StaysV H' ws xs ∧ Good xs ∧ xs.length ≤ 8) rfl
        (fun R hR => ⟨_, rfl, rfl, _, rfl, hR _ _ rfl⟩) (fun H' e R hR => ?_) (fun H' e => ?_) fun v H6 ⟨t, ws, xs, ev, d6, T6, et, sv, gd, l8⟩ => ?_
      · subst e
        refine ⟨_, rfl, by show 3 ≤ sizeLine; decide, fun t1 h1 => ⟨by show 3 ≤ sizeLine; decide, fun t2 h2 => ⟨by show 3 ≤ sizeLine; decide, fun t3 h3 => ⟨by show 3 ≤ sizeLine; decide, fun t4 h4 => ⟨by show 4 ≤ sizeLine; decide, fun t5 h5 => ?_⟩⟩⟩⟩⟩
        have q1 := same_upd (o := .tup [.str "lmnopqrs", .int 0, .int 5]) h1
        have q2 := same_upd (o := .tup [.str "tuvwxyza", .int 1, .int 9]) h2
        have q3 := same_upd (o := .tup [.str "zyxwvuts", .int 2, .int 3]) h3
        have q4 := same_upd (o := .tup [.str "bcdefghi", .int 0, .int 1]) h4
        have q5 := same_upd (o := .tup [.ref t1, .ref t2, .ref t3, .ref t4]) h5
        have q25 := ((q2.trans q3).trans q4).trans q5
        have q35 := (q3.trans q4).trans q5
        have q45 := q4.trans q5
        have all := q1.trans q25
        have sx : StaysV (upd (upd (upd (upd (upd H' t1 (.tup [.str "lmnopqrs", .int 0, .int 5])) t2 (.tup [.str "tuvwxyza", .int 1, .int 9])) t3 (.tup [.str "zyxwvuts", .int 2, .int 3])) t4 (.tup [.str "bcdefghi", .int 0, .int 1])) t5 (.tup [.ref t1, .ref t2, .ref t3, .ref t4])) [.ref t1, .ref t2, .ref t3, .ref t4] extra :=
          .cons ⟨t1, rfl, q25 _ _ upd_same⟩ (.cons ⟨t2, rfl, q35 _ _ upd_same⟩ (.cons ⟨t3, rfl, q45 _ _ upd_same⟩ (.cons ⟨t4, rfl, q5 _ _ upd_same⟩ .nil)))
        have e5 : (upd (upd (upd (upd (upd H' t1 (.tup [.str "lmnopqrs", .int 0, .int 5])) t2 (.tup [.str "tuvwxyza", .int 1, .int 9])) t3 (.tup [.str "zyxwvuts", .int 2, .int 3])) t4 (.tup [.str "bcdefghi", .int 0, .int 1])) t5 (.tup [.ref t1, .ref t2, .ref t3, .ref t4])) t5 = some (.tup [.ref t1, .ref t2, .ref t3, .ref t4]) := upd_same
        refine cat_tup (all _ _ et) e5 ?_ fun cc H7 s7 hc => ?_
        · rw [pair_len sv]
          show xs.length + 4 ≤ sizeLine
          rw [sizeLine_eq]
          omega
        · exact hR _ _ ⟨cc, _, _, rfl, d5.same (all.trans s7), LamX.Tabs.ext T5 (all.trans s7), hc, pair_app (sv.same (all.trans s7)) (sx.same s7), dr.more lb.2, by rw [List.length_append]; show xs.length + 4 ≤ 8; omega⟩
      · subst e
        exact ⟨t, ws, xs, rfl, d5, T5, et, sv, dr.good lb.2, by omega⟩
      subst ev
      have short := gd.short
      have valid : Valid xs := gd.valid (by omega)
      have wl := pair_len sv
      have res : rdCode (plain xs ++ [csum (plain xs)]) = .ok xs := read_plain (fun x hx => (gd.ok x hx).1) gd.nd (by omega)
      have pl : (plain xs).length ≤ 90 := by
        have := enc_len (xs := xs) fun x hx => (gd.ok x hx).2.2
        rw [plain_len]
        omega
      -- the code
      refine ⟨_, rfl, t, ws, xs, rfl, et, sv, gd.nm, by omega, fun Lp H7 s7 _ eLp => ?_⟩
      refine ⟨_, rfl, _, rfl, Lp, plain xs, rfl, SqL.of eLp, fun H' s' => SqL.of (s' _ _ eLp), by omega, fun H8 s8 => ⟨by show 1 ≤ sizeLine; decide, fun L1 hL1 => ?_⟩⟩
      have s9 : Same H8 (upd H8 L1 (.lst [.int (csum (plain xs))])) := same_upd hL1
      have e1 : (upd H8 L1 (.lst [.int (csum (plain xs))])) L1 = some (.lst [.int (csum (plain xs))]) := upd_same
      generalize upd H8 L1 (.lst [.int (csum (plain xs))]) = H9 at s9 e1
      refine ⟨Lp, L1, _, _, rfl, rfl, s9 _ _ (s8 _ _ eLp), e1, ?_, fun C hC => ?_⟩
      · rw [List.length_map, sizeLine_eq]
        show (plain xs).length + 1 ≤ _
        omega
      have sA := ((s7.trans s8).trans s9).trans (same_upd (o := .lst ((plain xs).map V.int ++ [.int (csum (plain xs))])) hC)
      have eC : (upd H9 C (.lst ((plain xs).map V.int ++ [.int (csum (plain xs))]))) C = some (.lst ((plain xs ++ [csum (plain xs)]).map V.int)) := by
        rw [upd_same, List.map_append]
        rfl
      have fC := (d6.same ((s7.trans s8).trans s9)).fresh hC
      generalize upd H9 C (.lst ((plain xs).map V.int ++ [.int (csum (plain xs))])) = HA at sA eC
      generalize hc : plain xs ++ [csum (plain xs)] = cs at eC res
      have cl : cs.length ≤ 91 ∧ 0 < cs.length := by
        rw [← hc, List.length_append]
        show _ + 1 ≤ 91 ∧ 0 < _ + 1
        omega
      have U : T8 T l S t C ws xs cs HA := ⟨d6.same sA, LamX.Tabs.ext T6 sA, sA _ _ et, sv.same sA, eC, fC.1, fC.2⟩
      clear s7 s8 s9 sA e1 eLp hL1 hC
      -- it is written and read alike
      refine ⟨_, rfl, t, ws, xs, rfl, U.st, U.sv, short, valid, fun p HB sB hp PA => ⟨p, xs, rfl, PA, gd.nm, by omega, fun L2 HC' sC hL2 eL2 => ⟨_, rfl, .ref L2, .ref C, rfl, ?_, fun HD sD => ⟨_, rfl, iteF ?_⟩⟩⟩⟩
      · rw [hc] at eL2
        exact .inr ⟨L2, C, _, _, rfl, rfl, .inl ⟨eL2, (U.same (sB.trans sC)).cd⟩, by rw [List.length_map]; omega, alike_zs cs⟩
      have UD := U.same ((sB.trans sC).trans sD)
      refine ⟨_, rfl, C, cs, rfl, UD.cd, by omega, fun xs' res' p' HE sE PA' => ?_, fun j bad => by rw [res] at bad; cases bad⟩
      rw [res] at res'
      cases res'
      have UE := UD.same sE
      obtain ⟨dx', a', vs', g1, g2, g3⟩ := PA'
      refine ⟨p', dx', _, rfl, g1, p', dx', _, .ref a', rfl, g1, lk_stays _, _, rfl, .tuple (xs.map stayD), .tuple (xs.map stayD), .tup (SqT.of g2) (dp_stays g3), .tup (SqT.of UE.st) (dp_stays UE.sv), shaped_tup short, shaped_tup short, _, rfl, ?_⟩
      have eqv1 : PyData.eqv (.tuple (xs.map stayD)) (.tuple (xs.map stayD)) = true := by
        show PyData.eqvAll _ _ = true
        rw [eqv_stays]
        simp
      rw [eqv1]
      refine iteF ⟨6, rfl, by decide, by decide, for_it walk_range (fun i σ H2 => ∃ o6 o7 o8 o9 oa ob : Option V, σ = [some (.ref a), some (.ref l), some (.int (0 + (turn : Nat))), some (.ref t), some (.ref Lp), some (.ref C), o6, o7, o8, o9, oa, ob] ∧ T8 T l S t C ws xs cs H2)
        ⟨o6, o7, o8, o9, oa, ob, rfl, UE⟩ (fun _ _ _ _ _ => trivial) ?_ ?_⟩
      · rintro ch v σ H2' H2 hch ⟨o6, o7, o8, o9, oa, ob, rfl, U2⟩ ⟨rfl, rfl⟩
        have cm : (cs.map V.int).length = cs.length := List.length_map ..
        -- where, and what else
        refine ⟨_, rfl, _, rfl, C, _, rfl, .inl (SqL.of U2.cd), l, S, ((cs.map V.int).length : Nat), rfl, U2.d, by rw [cm]; omega, by rw [cm]; omega, fun at0 H3 p0 p1 b3 d3 => ?_⟩
        have U3 := U2.but b3 d3
        refine ⟨_, _, rfl, rfl, ⟨by decide, by decide, by decide⟩, _, _, rfl, rfl, ⟨by decide, by decide, by decide⟩, _, _, rfl, rfl, _, rfl, by show 12 ≤ sizeLine; decide, fun Lo hLo => ⟨_, rfl, l, S, 12, rfl, d3.same (same_upd hLo), by decide, by decide, fun r4 H4 r40 r41 b4 d4 => ?_⟩⟩
        obtain ⟨no1, no2⟩ := d3.fresh hLo
        have U4 := (U3.same (same_upd hLo)).but b4 d4
        have eLo : H4 Lo = some (.lst (oddsL.map V.int)) := b4 _ _ upd_same no1 no2
        obtain ⟨odd, _, hodd⟩ := ints_pick oddsL r40 (by show r4 < 12; omega)
        refine ⟨Lo, _, r4, .int odd, rfl, rfl, SqL.of eLo, hodd, _, _, rfl, ?_⟩
        clear eLo b4 b3 d3
        -- the four
        have c91 : IntsN 91 H4 C := ⟨cs, U4.cd, cl.1⟩
        have lo0 : ∀ (σ : List (Option V)) (H' : Hp), ∃ lo, ∀ R : Option Int → Hp → Prop, R lo H' → tNoPart σ H' R := fun σ H' => ⟨none, fun R q => q⟩
        refine (g_cat U4.d (g_cat U4.d (g_slice (K := K) U4.d (g_slot rfl c91 U4.nl U4.nS) (lo0 _) (fun H' => ⟨some at0, fun R q => ⟨_, rfl, at0, rfl, q⟩⟩)) (fun H' s' => g_lst (U4.d.same s') rfl) (by decide)) (fun H' s' => g_slice (K := K) (U4.d.same s') (g_slot rfl (c91.same s') U4.nl U4.nS) (fun H' => ⟨some (at0 + 1), fun R q => ⟨_, rfl, _, _, rfl, rfl, at0 + 1, rfl, q⟩⟩) (lo0 _)) (by decide)) _ fun pA HA' sA iA nA1 nA2 => ?_
        have UA := U4.same sA
        have cA := c91.same sA
        refine (g_slice (K := K) UA.d (g_slot rfl cA UA.nl UA.nS) (lo0 _) (fun H' => ⟨some at0, fun R q => ⟨_, rfl, at0, rfl, q⟩⟩)) _ fun pB HB' sB iB nB1 nB2 => ?_
        have UB := UA.same sB
        have cB := cA.same sB
        refine (g_cat UB.d (g_slice (K := K) UB.d (g_slot rfl cB UB.nl UB.nS) (lo0 _) (fun H' => ⟨some at0, fun R q => ⟨_, rfl, at0, rfl, q⟩⟩)) (fun H' s' => g_slice (K := K) (UB.d.same s') (g_slot rfl (cB.same s') UB.nl UB.nS) (fun H' => ⟨some (at0 + 1), fun R q => ⟨_, rfl, _, _, rfl, rfl, at0 + 1, rfl, q⟩⟩) (lo0 _)) (by decide)) _ fun pC HC' sC iC nC1 nC2 => ?_
        have UC := UB.same sC
        have cC := cB.same sC
        refine (g_cat UC.d (g_slot rfl cC UC.nl UC.nS) (fun H' s' => g_lst (UC.d.same s') rfl) (by decide)) _ fun pD HD' sD iD nD1 nD2 => ?_
        have UD' := UC.same sD
        refine ⟨by show 4 ≤ sizeLine; decide, fun Ls hLs => ?_⟩
        have sL := same_upd (o := .lst [.ref pA, .ref pB, .ref pC, .ref pD]) hLs
        obtain ⟨ns1, ns2⟩ := UD'.d.fresh hLs
        refine ⟨_, rfl, _, rfl, l, S, 4, rfl, UD'.d.same sL, by decide, by decide, fun r5 H5 q0 q1 b5 d5 => ?_⟩
        have U5 := (UD'.same sL).but b5 d5
        have eLs : H5 Ls = some (.lst [.ref pA, .ref pB, .ref pC, .ref pD]) := b5 _ _ upd_same ns1 ns2
        obtain ⟨pb, hat, ib, nb1, nb2⟩ : ∃ pb, atI [V.ref pA, V.ref pB, V.ref pC, V.ref pD] r5 = some (.ref pb) ∧ IntsN 300 H5 pb ∧ pb ≠ l ∧ pb ≠ S := by
          have : r5 = 0 ∨ r5 = 1 ∨ r5 = 2 ∨ r5 = 3 := by omega
          rcases this with rfl | rfl | rfl | rfl
          · exact ⟨pA, atI_nat (j := 0) rfl, ((((iA.same sB).same sC).same sD).same sL |>.but b5 nA1 nA2).up (by decide), nA1, nA2⟩
          · exact ⟨pB, atI_nat (j := 1) rfl, (((iB.same sC).same sD).same sL |>.but b5 nB1 nB2).up (by decide), nB1, nB2⟩
          · exact ⟨pC, atI_nat (j := 2) rfl, ((iC.same sD).same sL |>.but b5 nC1 nC2).up (by decide), nC1, nC2⟩
          · exact ⟨pD, atI_nat (j := 3) rfl, (iD.same sL |>.but b5 nD1 nD2).up (by decide), nD1, nD2⟩
        refine ⟨Ls, _, r5, .ref pb, rfl, rfl, SqL.of eLs, hat, name_of ?_⟩
        clear eLs b5 hat sL hLs
        refine if_set (i := 10) (v0 := .ref pb) (fun _ H' => T8 T l S t C ws xs cs H' ∧ IntsN 300 H' pb) (fun v H' => ∃ b : Addr, v = .ref b ∧ T8 T l S t C ws xs cs H' ∧ IntsN 301 H' b ∧ b ≠ l ∧ b ≠ S) rfl (fun R hR => ?_) (fun H' ⟨U6, i6⟩ R hR => ?_) (fun H' ⟨U6, i6⟩ => ⟨pb, rfl, U6, i6.up (by decide), nb1, nb2⟩) fun v H7 ⟨Lb, ev, U7, ⟨z, ez, zl⟩, nL1, nL2⟩ => ?_
        · refine ⟨_, rfl, l, S, 2, rfl, U5.d, by decide, by decide, fun r6 H6 z0 z1 b6 d6 => ⟨rfl, _, rfl, ?_⟩⟩
          have U6 := U5.but b6 d6
          have i6 := ib.but b6 nb1 nb2
          refine ite2 (fun _ => ?_) (fun _ => hR _ _ ⟨U6, i6⟩)
          obtain ⟨z6, e6, l6⟩ := id i6
          exact ⟨_, rfl, pb, _, rfl, .inl (SqL.of e6), _, _, rfl, rfl, _, rfl, hR _ _ ⟨U6, i6⟩⟩
        · refine (g_slice (K := K) U6.d (g_slot rfl i6 nb1 nb2) (lo0 _) (fun H' => ⟨some (-1), fun R q => ⟨_, rfl, -1, rfl, q⟩⟩)) _ fun p1 HB sB iB m1 m2 => ?_
          refine (g_slice (K := K) (U6.d.same sB) (g_slot rfl (i6.same sB) nb1 nb2) (lo0 _) (fun H' => ⟨some (-1), fun R q => ⟨_, rfl, -1, rfl, q⟩⟩)) _ fun p2 HC sC iC _ _ => ?_
          obtain ⟨y1, f1, g1⟩ := iB
          obtain ⟨y2, f2, g2⟩ := iC
          refine ⟨p2, y2, rfl, SqL.of f2, fun H' s' => SqL.of (s' _ _ f2), by omega, fun HD sD => ⟨by show 1 ≤ sizeLine; decide, fun L1 hL1 => ?_⟩⟩
          have s1' : Same HD (upd HD L1 (.lst [.int (csum y2)])) := same_upd hL1
          refine ⟨p1, L1, _, _, rfl, rfl, s1' _ _ (sD _ _ (sC _ _ f1)), upd_same, ?_, fun Cc hCc => ?_⟩
          · rw [List.length_map, sizeLine_eq]
            show y1.length + 1 ≤ _
            omega
          · have sall := ((sB.trans sC).trans sD).trans s1'
            have fr := (U6.d.same sall).fresh hCc
            exact hR _ _ ⟨Cc, rfl, U6.same (sall.trans (same_upd hCc)), ⟨y1 ++ [csum y2], by rw [upd_same, List.map_append]; rfl, by rw [List.length_append]; show y1.length + 1 ≤ 301; omega⟩, fr.1, fr.2⟩
        subst ev
        -- read by both
        refine ⟨U7.tb, fun f0 c0 Hh Gh nh lh => ⟨_, rfl, f0, spLam1 (E10 1), rfl, ?_, fun R E' hR hE => ?_⟩⟩
        · refine act0 (k := 7) (N := ["_law_bent"]) (fr := ["_law_bent"]) (sp := spLam1 (E10 1)) lh (nscope_by (sc := scL [("_law_bent", .free), ("decode_party", .globalImplicit)]) (by decide +kernel)) (fun _ _ => rfl) fun A outer s H ws Q E hr hw h => ?_
          obtain ⟨b', z', rfl, hb', hz', kO, kE'⟩ := h
          refine ⟨_, pe_prop (pe_call GD (hr.mono (by decide)) rfl mD kD bD .nil (passes_call (takes_of rfl rfl rfl rfl) fun _ _ _ _ z => z) (pa_cons (pv 0) pa_nil)) PC.cl hS GS (hr.mono (by decide)) bS .nil pass0 rfl, ?_⟩
          refine ⟨_, rfl, b', z', rfl, hb', hz', fun ys ry p' H' s' PA => ?_, kE'⟩
          obtain ⟨dy, ay, vy, y1, y2, y3⟩ := PA
          exact ⟨p', dy, _, rfl, y1, p', dy, _, .ref ay, rfl, y1, lk_stays _, kO ys ry H' ay vy s' y2 y3⟩
        · have U8 := U7.grows Gh
          have ez8 : Hh Lb = some (.lst (z.map V.int)) := Gh.ext _ _ ez fun _ w => nomatch w
          refine ⟨Lb, z, rfl, ez8, by omega, fun ys res' HF t2 vs2 sF eF svF => hR _ _ fun p HG sG eG => ?_, fun j bad HF d2 sF eF => hE _ _ _ ⟨1, rfl, .inr ⟨"offset", d2, .int (j : Nat), rfl, rfl, eF, fun p HG sG eG => ?_⟩⟩⟩
          · have UG := (U8.same sF).same sG
            refine ⟨_, rfl, Lb, z, rfl, sG _ _ (sF _ _ ez8), by omega, fun p2 HI sI told2 => ⟨.ref p, .ref p2, rfl, alike_told (r := rdCode z) (fun xs h => Nat.le_trans (rdCode_len h) (by decide)) (Told.same ?_ sI) told2, fun HJ sJ => ⟨_, rfl, iteF ⟨_, _, _, _, _, _, rfl, (UG.same sI).same sJ⟩⟩⟩⟩
            rw [res']
            exact ⟨t2, vs2, eG, sG _ _ eF, svF.same sG⟩
          · have UG := (U8.same sF).same sG
            refine ⟨_, rfl, Lb, z, rfl, sG _ _ (sF _ _ ez8), by omega, fun p2 HI sI told2 => ⟨.ref p, .ref p2, rfl, alike_told (r := rdCode z) (fun xs h => Nat.le_trans (rdCode_len h) (by decide)) (Told.same ?_ sI) told2, fun HJ sJ => ⟨_, rfl, iteF ⟨_, _, _, _, _, _, rfl, (UG.same sI).same sJ⟩⟩⟩⟩
            rw [bad]
            exact eG
      · rintro σ H3 ⟨o6, o7, o8, o9, oa, ob, rfl, U3⟩
        refine ⟨_, rfl, t, ws, rfl, .inr (SqT.of U3.st), _, _, rfl, rfl, _, rfl, ite2 (fun h => ?_) (fun _ => ⟨_, _, _, _, _, _, _, _, _, _, rfl, U3.d, U3.tb⟩)⟩
        have h1 : 1 < ws.length := by
          have := of_decide_eq_true h
          omega
        obtain ⟨x, xr, exs⟩ : ∃ x xr, xs = x :: xr := by
          cases xs with
          | nil =>
            rw [wl] at h1
            exact absurd h1 (by decide)
          | cons x xr => exact ⟨x, xr, rfl⟩
        obtain ⟨w1, wr, ews⟩ : ∃ w1 wr, ws = w1 :: wr := by
          cases ws with
          | nil => exact absurd h1 (by decide)
          | cons w1 wr => exact ⟨w1, wr, rfl⟩
        have hx : x ∈ xs := by
          rw [exs]
          exact List.mem_cons_self
        have okx := (gd.ok x hx).1
        have x8 := (gd.ok x hx).2.2
        have cut1 : cutV ws none (some (1 : Int)) = [w1] := by
          unfold cutV
          rw [show (some (1 : Int)) = some ((1 : Nat) : Int) from rfl, HT.sIx_nat, HT.sIx_none, List.drop_zero, Nat.sub_zero, Nat.min_eq_left (by omega), ews]
          rfl
        have sv1 : ∀ {H' : Hp}, StaysV H' ws xs → StaysV H' [w1] [x] := fun q => by
          rw [ews, exs] at q
          cases q with
          | cons q _ => exact .cons q .nil
        -- told twice
        refine ⟨by show 2 ≤ sizeLine; decide, fun La hLa => ⟨_, rfl, _, rfl, t, ws, rfl, SqT.of ((same_upd hLa) _ _ U3.st), ?_, fun q hq => ?_⟩⟩
        · rintro ⟨_, z2⟩
          rw [show (some (1 : Int)) = some ((1 : Nat) : Int) from rfl, HT.sIx_nat] at z2
          omega
        rw [cut1]
        have sa : Same H3 (upd H3 La (.lst [.int 115, .int 2])) := same_upd hLa
        have ea : (upd H3 La (.lst [.int 115, .int 2])) La = some (.lst [.int 115, .int 2]) := upd_same
        generalize upd H3 La (.lst [.int 115, .int 2]) = H4 at sa ea hq
        have sq : Same H4 (upd H4 q (.tup [w1])) := same_upd hq
        have eq1 : (upd H4 q (.tup [w1])) q = some (.tup [w1]) := upd_same
        have ea2 := sq _ _ ea
        have svq := sv1 ((U3.sv.same sa).same sq)
        have s35 := sa.trans sq
        generalize upd H4 q (.tup [w1]) = H5 at sq eq1 ea2 svq s35
        refine ⟨q, [w1], [x], rfl, eq1, svq, fun y hy => ?_, by show 1 ≤ 24; decide, fun Lc H6 s6 _ eLc => ⟨_, rfl, Lc, _, rfl, SqL.of eLc, fun Ld hLd => ?_⟩⟩
        · rw [List.mem_singleton] at hy
          rw [hy]
          exact gd.nm x hx
        have pe : plain [x] = 115 :: 1 :: encG x := by
          unfold plain encAll
          simp
        have cut2 : cutV ((plain [x]).map V.int) (some (2 : Int)) none = (encG x).map V.int := by
          unfold cutV
          rw [show (some (2 : Int)) = some ((2 : Nat) : Int) from rfl, HT.sIx_nat, HT.sIx_none, pe]
          have : min 2 ((115 :: 1 :: encG x).map V.int).length = 2 := by simp
          rw [this]
          show ((encG x).map V.int).take (((encG x).map V.int).length + 1 + 1 - 2) = _
          exact List.take_of_length_le (by omega)
        rw [cut2]
        have sd : Same H6 (upd H6 Ld (.lst ((encG x).map V.int))) := same_upd hLd
        have ed : (upd H6 Ld (.lst ((encG x).map V.int))) Ld = some (.lst ((encG x).map V.int)) := upd_same
        have ea3 := sd _ _ (s6 _ _ ea2)
        have s37 := (s35.trans s6).trans sd
        generalize upd H6 Ld (.lst ((encG x).map V.int)) = H7 at sd ed ea3 s37
        have lx := encG_len (x := x)
        refine ⟨Ld, 2, _, rfl, rfl, ed, by decide, by decide, ?_, fun Le hLe => ?_⟩
        · rw [List.length_map, sizeLine_eq]
          show _ * 2 ≤ _
          omega
        have rp : (List.replicate (2 : Int).toNat ((encG x).map V.int)).flatten = (encG x ++ encG x).map V.int := by
          show ((encG x).map V.int) ++ (((encG x).map V.int) ++ []) = _
          rw [List.append_nil, List.map_append]
        rw [rp]
        have se : Same H7 (upd H7 Le (.lst ((encG x ++ encG x).map V.int))) := same_upd hLe
        have ee : (upd H7 Le (.lst ((encG x ++ encG x).map V.int))) Le = some (.lst ((encG x ++ encG x).map V.int)) := upd_same
        have ea4 := se _ _ ea3
        have s38 := s37.trans se
        generalize upd H7 Le (.lst ((encG x ++ encG x).map V.int)) = H8 at se ee ea4 s38
        refine ⟨La, Le, _, _, rfl, rfl, ea4, ee, ?_, fun Lw hLw => ?_⟩
        · rw [List.length_map, List.length_append, sizeLine_eq]
          show 2 + _ ≤ _
          omega
        have tw : [V.int 115, V.int 2] ++ (encG x ++ encG x).map V.int = ([115, 2] ++ (encG x ++ encG x)).map V.int := by
          simp
        rw [tw]
        have U9 := U3.same (s38.trans (same_upd (o := .lst (([115, 2] ++ (encG x ++ encG x)).map V.int)) hLw))
        have ew : (upd H8 Lw (.lst (([115, 2] ++ (encG x ++ encG x)).map V.int))) Lw = some (.lst (([115, 2] ++ (encG x ++ encG x)).map V.int)) := upd_same
        generalize upd H8 Lw (.lst (([115, 2] ++ (encG x ++ encG x)).map V.int)) = H9 at U9 ew
        have tl : ([115, 2] ++ (encG x ++ encG x) : List Int).length = 2 + 2 * (encG x).length := by
          rw [List.length_append, List.length_append]
          show 2 + _ = _
          omega
        have rt := read_twice (x := x) (s := csum ([115, 2] ++ (encG x ++ encG x))) okx
        generalize hz : ([115, 2] ++ (encG x ++ encG x) : List Int) = z at ew tl rt
        refine ⟨U9.tb, fun f0 c0 Hh Gh nh lh => ⟨_, rfl, f0, spLam2 (E10 1), rfl, ?_, fun R E' hR hE => ?_⟩⟩
        · refine act0 (k := 7) (N := ["_law_twice"]) (fr := ["_law_twice"]) (sp := spLam2 (E10 1)) lh (nscope_by (sc := scL [("_law_twice", .free), ("decode_party", .globalImplicit), ("_law_sum", .globalImplicit)]) (by decide +kernel)) (fun _ _ => rfl) fun A outer s H ws Q E hr hw h => ?_
          obtain ⟨b', z', j', rfl, hb', hz', rb', kE'⟩ := h
          refine ⟨_, pe_call GD (hr.mono (by decide)) rfl mD kD bD .nil (passes_call (takes_of rfl rfl rfl rfl) fun _ _ _ _ z => z) (pa_cons (pe_op op_cat (pv 0) (pe_lst (pa_cons (pe_call G7 (hr.mono (by decide)) rfl m7 k7 b7 .nil pass0 (pa_cons (pv 0) pa_nil)) pa_nil))) pa_nil), ?_⟩
          refine ⟨_, rfl, _, rfl, b', z', rfl, SqL.of hb', fun H' s' => SqL.of (s' _ _ hb'), by omega, fun H2 s2 => ⟨by show 1 ≤ sizeLine; decide, fun L1 hL1 => ?_⟩⟩
          have s1' : Same H2 (upd H2 L1 (.lst [.int (csum z')])) := same_upd hL1
          refine ⟨b', L1, _, _, rfl, rfl, s1' _ _ (s2 _ _ hb'), upd_same, ?_, fun Lq hLq => ?_⟩
          · rw [List.length_map, sizeLine_eq]
            show z'.length + 1 ≤ _
            omega
          have s3' := (s2.trans s1').trans (same_upd (o := .lst (z'.map V.int ++ [.int (csum z')])) hLq)
          refine ⟨Lq, z' ++ [csum z'], rfl, ?_, ?_, fun ys ry => ?_, fun j bad H' d s' e' => ?_⟩
          · rw [upd_same, List.map_append]
            rfl
          · rw [List.length_append]
            show z'.length + 1 < 1000
            omega
          · rw [rb'] at ry
            cases ry
          · rw [rb'] at bad
            cases bad
            exact kE' H' d (s3'.trans s') e'
        · have UA := U9.grows Gh
          have ewA : Hh Lw = some (.lst (z.map V.int)) := Gh.ext _ _ ew fun _ w => nomatch w
          refine ⟨Lw, z, 2 + (encG x).length, rfl, ewA, by omega, rt, fun HB d2 sB eB => hE _ _ _ ⟨1, rfl, .inr ⟨"offset", d2, .int ((2 + (encG x).length : Nat) : Int), rfl, rfl, eB, fun p HC sC eC' => ?_⟩⟩⟩
          have UC := (UA.same sB).same sC
          have ewC := sC _ _ (sB _ _ ewA)
          refine ⟨_, rfl, Lw, _, rfl, .inl (SqL.of ewC), _, _, rfl, rfl, _, _, rfl, rfl, ⟨by decide, by decide⟩, _, _, rfl, rfl, by show 2 ≤ sizeLine; decide, fun t2 ht2 => ?_⟩
          have num : (2 : Int) + (((z.map V.int).length : Int) - 2) / 2 = ((2 + (encG x).length : Nat) : Int) := by
            rw [List.length_map, tl]
            omega
          have st2 : Same HC (upd HC t2 (.tup [.str "code", .int ((2 : Int) + (((z.map V.int).length : Int) - 2) / 2)])) := same_upd ht2
          have et2 : (upd HC t2 (.tup [.str "code", .int ((2 : Int) + (((z.map V.int).length : Int) - 2) / 2)])) t2 = some (.tup [.str "code", .int ((2 : Int) + (((z.map V.int).length : Int) - 2) / 2)]) := upd_same
          refine ⟨.tuple [.str "code", .int ((2 + (encG x).length : Nat) : Int)], .tuple [.str "code", .int ((2 : Int) + (((z.map V.int).length : Int) - 2) / 2)], .tup (SqT.of (st2 _ _ eC')) (.cons (.str _) (.cons (.int _) .nil)), .tup (SqT.of et2) (.cons (.str _) (.cons (.int _) .nil)), shaped_code _, shaped_code _, _, rfl, ?_⟩
          rw [num, eqv_code]
          exact iteF ⟨_, _, _, _, _, _, _, _, _, _, rfl, (UC.same st2).d, (UC.same st2).tb⟩
    · rintro σ H2 ⟨o2, o3, o4, o5, o6, o7, o8, o9, oa, ob, rfl, D2, T2⟩
      exact k _
end
end Sh1
set_option Elab.async false
set_option linter.all false
set_option maxRecDepth 100000
set_option maxHeartbeats 4000000
namespace Sh1
open PySem L2 Sho NdefX He Shh Sh4
/-! The head's facts of k48. -/
abbrev dm8 (m qual : Str) (st : Stmt) : Dn := ⟨fun K => ma K (ga K "Party") m, m, qual, st, fun _ => []⟩
abbrev dp8 (m qual : Str) (st : Stmt) : Dn := ⟨fun K => getA K (ga K "Party") m, m, qual, st, fun _ => []⟩
abbrev dr8 (m qual : Str) (st : Stmt) : Dn := ⟨fun K => ma K (ga K "Reader") m, m, qual, st, fun _ => []⟩
theorem blt_both {K : Shh.Fr} {h : Heap} {mg : Str → Option Value} (X : K.In h) (G : h.Ns mainGlobals mg) (c : freeB K bltNames = true) : Shg.Blt mg ∧ Blt mg := by
  have k : ∀ x, x ∈ bltNames → mg x = none := fun x hx => freeB_ok X G c hx
  exact ⟨blt_ok X G c, ⟨k _ (by simp), k _ (by simp), k _ (by simp), k _ (by simp), k _ (by simp), k _ (by simp), k _ (by simp), k _ (by simp), k _ (by simp), k _ (by simp), k _ (by simp)⟩⟩
theorem funS8 {K : Shh.Fr} {x qual : Str} {st : Stmt} {f : Addr} (F : FunF K x qual st [] f) : FunS K x qual st f := by
  obtain ⟨oc, od, doc, pm, an, ct, osl, lk, hcd⟩ := F.ex
  exact ⟨oc, od, doc, pm, an, _, ct, osl, lk, hcd⟩
theorem errC_dec {K : Shh.Fr} {mg : Str → Option Value} {P : Program} (E : ErrF "/claim/cut.py" K "DecodeError" "offset") (D : FunF K "__init__" "DecodeError.__init__" sDecodeError_Init [(("__class__" : Str), cellA K (eInit K "DecodeError"))] (eInit K "DecodeError")) (hf : P.main.file = "/claim/cut.py") (sup : mg "super" = none)
    (h2 : (P.main.scope.names.lookup ("super" : Str)).isSome = false) (gm : mg "DecodeError" = some (.ref (ga K "DecodeError"))) : ErrC P K mg "DecodeError" "offset" nfDec (ga K "DecodeError") :=
  ⟨⟨_, _, _, err_txt E D hf sup ⟨_, rfl, rfl⟩ h2 (by decide +kernel) (by decide +kernel) (by decide +kernel), E.ini, E.ity⟩, E.sup, E.xf, E.no, gm, E.exm⟩
abbrev glo48 : List Str := ["PartyError", "DaybookError", "DecodeError", "InvalidName", "InvalidNumber", "InvalidOperation", "InvalidStay", "InvalidText", "TooEarly", "TooWide", "UnknownGuest", "Party", "Reader", "is_name", "is_within", "is_tick", "is_stay", "_check_stays", "_checksum", "encode_party", "_take_name", "decode_party", "_law_mix", "_law_next", "_law_alike", "_law_outcome", "_law_stays", "_law_party", "_law_sum", "_law_code", "_law_read", "law"]
abbrev keep48 : List Str := ["is_name", "is_within", "is_tick", "is_stay", "_check_stays", "_checksum", "encode_party", "_take_name", "decode_party", "_law_mix", "_law_next", "_law_alike", "_law_outcome", "_law_stays", "_law_party", "_law_sum", "_law_code", "_law_read", "law"]
abbrev read48 : List Str := ["__init__", "take", "take_checksum"]
def fn48 : List Dn := [Sh4.dn "is_name" sIsName, Sh4.dn "is_within" sIsWithin, Sh4.dn "is_tick" sIsTick, Sh4.dn "is_stay" sIsStay, Sh4.dn "_check_stays" sCheck, Sh4.dn "_checksum" sChecksum, Sh4.dn "encode_party" sEncodeParty, Sh4.dn "_take_name" sTakeName, Sh4.dn "decode_party" sDecodeParty, Sh4.dn "_law_mix" sLawMix, Sh4.dn "_law_next" sLawNext, Sh4.dn "_law_alike" sLawAlike, Sh4.dn "_law_outcome" sOut, Sh4.dn "_law_stays" sLawStays, Sh4.dn "_law_party" sLawParty, Sh4.dn "_law_sum" sLawSum, Sh4.dn "_law_code" sLawCode, Sh4.dn "_law_read" sLawRead, Sh4.dn "law" sLaw, dnErr "InvalidStay" "InvalidStay.__init__" sInvInit, dnErr "DecodeError" "DecodeError.__init__" sDecodeError_Init, dm8 "__init__" "Party.__init__" sPInit, dp8 "stays" "Party.stays" sPStays, dm8 "__add__" "Party.__add__" sPAdd, dm8 "__len__" "Party.__len__" sPLen, dr8 "__init__" "Reader.__init__" sReader_Init, dr8 "take" "Reader.take" sReader_Take, dr8 "take_checksum" "Reader.take_checksum" sReader_TakeChecksum]
def readB (K : Shh.Fr) (C : Addr) : Bool := (Fa.cls "Reader").ok K && (eqO (PySem.W.findIn K (.ref C) "_code") (some none) && (eqO (PySem.W.findIn K (.ref C) "offset") (some none) && (PySem.W.makesIn K C && PySem.W.keepIn K (.ref C))))
def fa48 : List (Shh.Fr → Bool) := [fun K => gloB K glo48, fun K => freeB K bltNames, fun K => keepB K keep48, fun K => (Fa.int "LONGEST_NAME" 8).ok K, fun K => (Fa.int "LAST_TICK" 1000000000).ok K, fun K => (Fa.int "FIRST_ITEM" 115).ok K, fun K => (Fa.int "MODULUS" 9973).ok K, fun K => (Fa.str "LETTERS" alpha).ok K,
  fun K => tenB K, fun K => errB "/claim/cut.py" K "InvalidStay" "index", fun K => errB "/claim/cut.py" K "DecodeError" "offset", fun K => partyB K (ga K "Party"), fun K => dunB K (ga K "Party") "__init__", fun K => propB K (ga K "Party") "stays", fun K => PySem.W.keepIn K (.ref (getA K (ga K "Party") "stays")),
  fun K => dunB K (ga K "Party") "__add__", fun K => dunB K (ga K "Party") "__len__", fun K => readB K (ga K "Reader"), fun K => read48.all fun m => dunB K (ga K "Reader") m]
def tf48 : List (Shh.Fr → Addr) := [fun K => ga K "law"]
abbrev T48 (K : Shh.Fr) : List (Addr × Str) := [(Sh4.tabA K "law", qLam)]
abbrev cs48 (K : Shh.Fr) : List (Addr × Addr) := [(codeA K (ga K "law"), Sh4.tabA K "law")]
theorem facts48 {P : Program} {w : World} {K : Shh.Fr} {h : Heap} {mg : Str → Option Value} (X : K.In h) (G : h.Ns mainGlobals mg) (c : SaysS fa48 fn48 tf48 h K) (hf : P.main.file = "/claim/cut.py") (hs : (P.main.scope.names.lookup ("super" : Str)).isSome = false) :
    ∃ fd : FuncData, (∀ (s : Shared) (v : Value), BindsTo s fd ⟨[v], []⟩ [("_law_script", v)]) ∧ ∀ base : Heap, (∀ p ∈ cs48 K, LamX.TabB base mg p.1 p.2) → FnOk P w K mg base (L2.CX P w) 10 (ga K "law") fd ["_law_script"] (spLaw48 K (T48 K)) := by
  obtain ⟨B, B1⟩ := blt_both X G (c.fact 1)
  have g : ∀ x, x ∈ glo48 → mg x = some (.ref (ga K x)) := fun x hx => gloB_ok X G (c.fact 0) hx
  have kp : ∀ x, x ∈ keep48 → PySem.W.keepIn K (.ref (ga K x)) = true := fun x hx => keepB_ok (c.fact 2) hx
  obtain ⟨t8, g8⟩ := int_ok X G (x := "LONGEST_NAME") (i := 8) (c.fact 3)
  obtain ⟨t9, g9⟩ := int_ok X G (x := "LAST_TICK") (i := 1000000000) (c.fact 4)
  obtain ⟨t1, g115⟩ := int_ok X G (x := "FIRST_ITEM") (i := 115) (c.fact 5)
  obtain ⟨tm, gM⟩ := int_ok X G (x := "MODULUS") (i := 9973) (c.fact 6)
  obtain ⟨tA, gA⟩ := str_ok X G (x := "LETTERS") (z := alpha) (c.fact 7)
  have EE : Ten K mg (ga K "PartyError") (eA K) := tenB_ok (fun x hx => g x (by
    simp at hx
    rcases hx with rfl | rfl | rfl | rfl | rfl | rfl | rfl | rfl | rfl | rfl | rfl <;> simp)) (c.fact 8)
  have EI := errB_ok (K := K) (file := "/claim/cut.py") (x := "InvalidStay") (fld := "index") (c.fact 9)
  have ED := errB_ok (K := K) (file := "/claim/cut.py") (x := "DecodeError") (fld := "offset") (c.fact 10)
  have PF := partyB_ok (K := K) (g "Party" (by simp)) (c.fact 11)
  have dI := dunB_ok (K := K) (C := ga K "Party") (m := "__init__") (c.fact 12)
  have pS := propB_ok (K := K) (C := ga K "Party") (m := "stays") (c.fact 13)
  have kk : PySem.W.keepIn K (.ref (getA K (ga K "Party") "stays")) = true := c.fact 14
  have dA := dunB_ok (K := K) (C := ga K "Party") (m := "__add__") (c.fact 15)
  have dL := dunB_ok (K := K) (C := ga K "Party") (m := "__len__") (c.fact 16)
  have rB : readB K (ga K "Reader") = true := c.fact 17
  have dR : (read48.all fun m => dunB K (ga K "Reader") m) = true := c.fact 18
  have d : ∀ m, m ∈ read48 → DunF K (ga K "Reader") m := fun m hm => dunB_ok (List.all_eq_true.mp dR m hm)
  obtain ⟨r1, rB⟩ := ba rB
  obtain ⟨r2, rB⟩ := ba rB
  obtain ⟨r3, rB⟩ := ba rB
  obtain ⟨r4, r5⟩ := ba rB
  have RC : ReadC K mg (ga K "Reader") := ⟨g "Reader" (by simp), cls_ok r1, eqO_ok r2, eqO_ok r3⟩
  have M := dI.mkr PF.makes PF.kp
  have MR := (d "__init__" (by simp)).mkr r4 r5
  have ECI : ErrC P K mg "InvalidStay" "index" nfInv (aInv K) := errC_inv EI (c.def_ 19 (d := dnErr "InvalidStay" "InvalidStay.__init__" sInvInit)) hf B.sup hs (g "InvalidStay" (by simp))
  have ECD : ErrC P K mg "DecodeError" "offset" nfDec (eA K 1) := errC_dec ED (c.def_ 20 (d := dnErr "DecodeError" "DecodeError.__init__" sDecodeError_Init)) hf B.sup hs (g "DecodeError" (by simp))
  obtain ⟨fd_0, F_0, b_0, _⟩ := FunF.funW (c.def_ 0 (d := Sh4.dn "is_name" sIsName)) (kp "is_name" (by simp))
  have b_0 := b_0 ["word"] (fun _ _ _ _ _ _ us hl => match us, hl with | [_], _ => rfl)
  have m_0 := g "is_name" (by simp)
  have k_0 := kp "is_name" (by simp)
  obtain ⟨fd_1, F_1, b_1, _⟩ := FunF.funW (c.def_ 1 (d := Sh4.dn "is_within" sIsWithin)) (kp "is_within" (by simp))
  have b_1 := b_1 ["number", "low", "high"] (fun _ _ _ _ _ _ us hl => match us, hl with | [_, _, _], _ => rfl)
  have m_1 := g "is_within" (by simp)
  have k_1 := kp "is_within" (by simp)
  obtain ⟨fd_2, F_2, b_2, _⟩ := FunF.funW (c.def_ 2 (d := Sh4.dn "is_tick" sIsTick)) (kp "is_tick" (by simp))
  have b_2 := b_2 ["number"] (fun _ _ _ _ _ _ us hl => match us, hl with | [_], _ => rfl)
  have m_2 := g "is_tick" (by simp)
  have k_2 := kp "is_tick" (by simp)
  obtain ⟨fd_3, F_3, b_3, _⟩ := FunF.funW (c.def_ 3 (d := Sh4.dn "is_stay" sIsStay)) (kp "is_stay" (by simp))
  have b_3 := b_3 ["name", "come", "go"] (fun _ _ _ _ _ _ us hl => match us, hl with | [_, _, _], _ => rfl)
  have m_3 := g "is_stay" (by simp)
  have k_3 := kp "is_stay" (by simp)
  obtain ⟨fd_4, F_4, b_4, _⟩ := FunF.funW (c.def_ 4 (d := Sh4.dn "_check_stays" sCheck)) (kp "_check_stays" (by simp))
  have b_4 := b_4 ["stays", "most"] (fun _ _ _ _ _ _ us hl => match us, hl with | [_, _], _ => rfl)
  have m_4 := g "_check_stays" (by simp)
  have k_4 := kp "_check_stays" (by simp)
  obtain ⟨fd_5, F_5, b_5, _⟩ := FunF.funW (c.def_ 5 (d := Sh4.dn "_checksum" sChecksum)) (kp "_checksum" (by simp))
  have b_5 := b_5 ["code"] (fun _ _ _ _ _ _ us hl => match us, hl with | [_], _ => rfl)
  have m_5 := g "_checksum" (by simp)
  have k_5 := kp "_checksum" (by simp)
  obtain ⟨fd_6, F_6, b_6, _⟩ := FunF.funW (c.def_ 6 (d := Sh4.dn "encode_party" sEncodeParty)) (kp "encode_party" (by simp))
  have b_6 := b_6 ["party"] (fun _ _ _ _ _ _ us hl => match us, hl with | [_], _ => rfl)
  have m_6 := g "encode_party" (by simp)
  have k_6 := kp "encode_party" (by simp)
  obtain ⟨fd_7, F_7, b_7, _⟩ := FunF.funW (c.def_ 7 (d := Sh4.dn "_take_name" sTakeName)) (kp "_take_name" (by simp))
  have b_7 := b_7 ["reader", "names"] (fun _ _ _ _ _ _ us hl => match us, hl with | [_, _], _ => rfl)
  have m_7 := g "_take_name" (by simp)
  have k_7 := kp "_take_name" (by simp)
  obtain ⟨fd_8, F_8, b_8, _⟩ := FunF.funW (c.def_ 8 (d := Sh4.dn "decode_party" sDecodeParty)) (kp "decode_party" (by simp))
  have b_8 := b_8 ["code"] (fun _ _ _ _ _ _ us hl => match us, hl with | [_], _ => rfl)
  have m_8 := g "decode_party" (by simp)
  have k_8 := kp "decode_party" (by simp)
  obtain ⟨fd_9, F_9, b_9, _⟩ := FunF.funW (c.def_ 9 (d := Sh4.dn "_law_mix" sLawMix)) (kp "_law_mix" (by simp))
  have b_9 := b_9 ["_law_script", "_law_seed"] (fun _ _ _ _ _ _ us hl => match us, hl with | [_, _], _ => rfl)
  have m_9 := g "_law_mix" (by simp)
  have k_9 := kp "_law_mix" (by simp)
  obtain ⟨fd_10, F_10, b_10, _⟩ := FunF.funW (c.def_ 10 (d := Sh4.dn "_law_next" sLawNext)) (kp "_law_next" (by simp))
  have b_10 := b_10 ["_law_h", "_law_limit"] (fun _ _ _ _ _ _ us hl => match us, hl with | [_, _], _ => rfl)
  have m_10 := g "_law_next" (by simp)
  have k_10 := kp "_law_next" (by simp)
  obtain ⟨fd_11, F_11, b_11, _⟩ := FunF.funW (c.def_ 11 (d := Sh4.dn "_law_alike" sLawAlike)) (kp "_law_alike" (by simp))
  have b_11 := b_11 ["_law_found", "_law_due"] (fun _ _ _ _ _ _ us hl => match us, hl with | [_, _], _ => rfl)
  have m_11 := g "_law_alike" (by simp)
  have k_11 := kp "_law_alike" (by simp)
  obtain ⟨fd_12, F_12, b_12, _⟩ := FunF.funW (c.def_ 12 (d := Sh4.dn "_law_outcome" sOut)) (kp "_law_outcome" (by simp))
  have b_12 := b_12 ["_law_call"] (fun _ _ _ _ _ _ us hl => match us, hl with | [_], _ => rfl)
  have m_12 := g "_law_outcome" (by simp)
  have k_12 := kp "_law_outcome" (by simp)
  obtain ⟨fd_13, F_13, b_13, _⟩ := FunF.funW (c.def_ 13 (d := Sh4.dn "_law_stays" sLawStays)) (kp "_law_stays" (by simp))
  have b_13 := b_13 ["_law_h", "_law_most", "_law_last"] (fun _ _ _ _ _ _ us hl => match us, hl with | [_, _, _], _ => rfl)
  have m_13 := g "_law_stays" (by simp)
  have k_13 := kp "_law_stays" (by simp)
  obtain ⟨fd_14, F_14, b_14, _⟩ := FunF.funW (c.def_ 14 (d := Sh4.dn "_law_party" sLawParty)) (kp "_law_party" (by simp))
  have b_14 := b_14 ["_law_stays_here"] (fun _ _ _ _ _ _ us hl => match us, hl with | [_], _ => rfl)
  have m_14 := g "_law_party" (by simp)
  have k_14 := kp "_law_party" (by simp)
  obtain ⟨fd_15, F_15, b_15, _⟩ := FunF.funW (c.def_ 15 (d := Sh4.dn "_law_sum" sLawSum)) (kp "_law_sum" (by simp))
  have b_15 := b_15 ["_law_values"] (fun _ _ _ _ _ _ us hl => match us, hl with | [_], _ => rfl)
  have m_15 := g "_law_sum" (by simp)
  have k_15 := kp "_law_sum" (by simp)
  obtain ⟨fd_16, F_16, b_16, _⟩ := FunF.funW (c.def_ 16 (d := Sh4.dn "_law_code" sLawCode)) (kp "_law_code" (by simp))
  have b_16 := b_16 ["_law_stays_here"] (fun _ _ _ _ _ _ us hl => match us, hl with | [_], _ => rfl)
  have m_16 := g "_law_code" (by simp)
  have k_16 := kp "_law_code" (by simp)
  obtain ⟨fd_17, F_17, b_17, _⟩ := FunF.funW (c.def_ 17 (d := Sh4.dn "_law_read" sLawRead)) (kp "_law_read" (by simp))
  have b_17 := b_17 ["_law_code_here"] (fun _ _ _ _ _ _ us hl => match us, hl with | [_], _ => rfl)
  have m_17 := g "_law_read" (by simp)
  have k_17 := kp "_law_read" (by simp)
  obtain ⟨fdL, FL, _, bL⟩ := FunF.funL (c.def_ 18 (d := Sh4.dn "law" sLaw))
  obtain ⟨fdS, FS, bS, _⟩ := FunF.funW (c.def_ 22 (d := dp8 "stays" "Party.stays" sPStays)) kk
  have bS := bS ["self"] (fun _ _ _ _ _ _ us hl => match us, hl with | [_], _ => rfl)
  obtain ⟨fdA, FA, bA, _⟩ := FunF.funW (c.def_ 23 (d := dm8 "__add__" "Party.__add__" sPAdd)) dA.kp
  have bA := bA ["self", "other"] (fun _ _ _ _ _ _ us hl => match us, hl with | [_, _], _ => rfl)
  obtain ⟨fdN, FN, bN, _⟩ := FunF.funW (c.def_ 24 (d := dm8 "__len__" "Party.__len__" sPLen)) dL.kp
  have bN := bN ["self"] (fun _ _ _ _ _ _ us hl => match us, hl with | [_], _ => rfl)
  obtain ⟨fdR, FR, bR, _⟩ := FunF.funW (c.def_ 25 (d := dr8 "__init__" "Reader.__init__" sReader_Init)) (d "__init__" (by simp)).kp
  have bR := bR ["self", "code"] (fun _ _ _ _ _ _ us hl => match us, hl with | [_, _], _ => rfl)
  obtain ⟨fdT, FT, bT, _⟩ := FunF.funW (c.def_ 26 (d := dr8 "take" "Reader.take" sReader_Take)) (d "take" (by simp)).kp
  have bT := bT ["self", "low", "high"] (fun _ _ _ _ _ _ us hl => match us, hl with | [_, _, _], _ => rfl)
  obtain ⟨fdE, FE, bE, _⟩ := FunF.funW (c.def_ 27 (d := dr8 "take_checksum" "Reader.take_checksum" sReader_TakeChecksum)) (d "take_checksum" (by simp)).kp
  have bE := bE ["self"] (fun _ _ _ _ _ _ us hl => match us, hl with | [_], _ => rfl)
  obtain ⟨uM, cvM⟩ := PF.mx
  refine ⟨fdL, fun s v => bL ["_law_script"] (fun _ _ _ _ _ _ us hl => match us, hl with | [_], _ => rfl) s [v] rfl, fun base hT => ?_⟩
  have TL : LamX.TabB base mg (codeA K (ga K "law")) (Sh4.tabA K "law") := hT (codeA K (ga K "law"), Sh4.tabA K "law") (by simp)
  have uL : ∀ p ∈ T48 K, p.1 = Sh4.tabA K "law" → p.2 = qLam := fun p hp e => by
    rcases List.mem_cons.mp hp with rfl | hp
    · rfl
    · cases hp
  have G0 : FnOk P w K mg base CX0 1 _ _ _ _ := ok_isName F_0 B1 g8
  have G1 : FnOk P w K mg base CX0 1 _ _ _ _ := ok_isWithin F_1 B1
  have G2 : FnOk P w K mg base CX0 2 _ _ _ _ := ok_isTick F_2 g9 G1 m_1 k_1 b_1
  have G3 : FnOk P w K mg base CX0 3 _ _ _ _ := ok_isStay F_3 G0 m_0 k_0 b_0 G2 m_2 k_2 b_2
  have G4 : FnOk P w K mg base (L2.CX P w) 4 _ _ _ _ := ok_check F_4 B1 ECI G3 m_3 k_3 b_3
  have GI : FnR P w K mg base (L2.CX P w) 5 _ (spPNew (ga K "Party") (aInv K)) := ok_pinit (funS8 (c.def_ 21 (d := dm8 "__init__" "Party.__init__" sPInit))) PF.pc G4 m_4 k_4 b_4
  have GS : FnOk P w K mg base CX0 1 _ _ _ _ := ok_pstays FS PF.pc
  have GA : FnOk P w K mg base (L2.CX P w) 7 _ _ _ _ := ok_padd FA PF.pc M GI
  have GN : FnOk P w K mg base CX0 1 _ _ _ _ := ok_plen FN B1 PF.pc
  have GR : FnOk P w K mg base CX0 1 _ _ _ _ := ok_rdinit FR RC
  have GT : FnOk P w K mg base (L2.CX P w) 3 _ _ _ _ := ok_take FT B RC ECD G1 m_1 k_1 b_1
  have G5 : FnOk P w K mg base CX0 1 _ _ _ _ := ok_sum F_5 B gM
  have GE : FnOk P w K mg base (L2.CX P w) 4 _ _ _ _ := ok_takeSum FE B RC ECD GT (d "take" (by simp)).meth bT G5 m_5 k_5 b_5
  have G6 : FnOk P w K mg base CX0 4 _ _ _ _ := ok_encode F_6 B PF.pc g115 gA GS pS bS GN bN dL.at_ dL.isF G5 m_5 k_5 b_5
  have G7 : FnOk P w K mg base (L2.CX P w) 4 _ _ _ _ := ok_takeName F_7 B RC ECD gA g8 GT (d "take" (by simp)).meth bT
  have G8 : FnOk P w K mg base (L2.CX P w) 7 _ _ _ _ := ok_decode F_8 B RC PF.pc M GI PF.rd cvM g115 g9 MR GR bR GT (d "take" (by simp)).meth bT G7 m_7 k_7 b_7 GE (d "take_checksum" (by simp)).meth bE
  have G10 : FnOk P w K mg base CX0 1 _ _ _ _ := ok_next F_10 B
  have G14 : FnOk P w K mg base (L2.CX P w) 8 _ _ _ _ := ok_partyT F_14 PF.pc M GI PF.self dA.at_ dA.isF GA bA
  have G15 : FnOk P w K mg base CX0 1 _ _ _ _ := ok_lsum F_15 B
  exact ok_law48 (E10 := eA K) (P0 := ga K "PartyError") FL ⟨B, EE, PF.pc, ⟨_, _, ok_mix F_9 B, m_9, k_9, b_9⟩, ⟨_, _, G10, m_10, k_10, b_10⟩, ⟨_, _, ok_alike F_11 B m_11 b_11, m_11, k_11, b_11⟩, ⟨_, _, F_12, m_12, k_12, b_12⟩, ⟨_, _, ok_lawStays F_13 B G10 m_10 k_10 b_10, m_13, k_13, b_13⟩, ⟨_, _, G14, m_14, k_14, b_14⟩, ⟨_, _, G15, m_15, k_15, b_15⟩,
    ⟨_, _, ok_lcode F_16 B, m_16, k_16, b_16⟩, ⟨_, _, ok_read F_17 B G15 m_15 k_15 b_15, m_17, k_17, b_17⟩, ⟨_, _, G6, m_6, k_6, b_6⟩, ⟨_, _, G8, m_8, k_8, b_8⟩, ⟨_, _, _, GS, pS, bS⟩⟩ TL (by simp) uL
end Sh1
set_option Elab.async false
set_option linter.all false
set_option maxRecDepth 100000
set_option maxHeartbeats 0
namespace Sh1
open PySem PySem.Spec PyProof.Rows L2 Sho He Shh Sh4
abbrev R48 : PySem.W.OpenRow := PySem.W.OpenLaw.row PySem.Challenge.rw_shoepile_k48_whole_codes_of_parties
abbrev hk48 : PySem.W.Hook := hookS 6 fa48 fn48 tf48
def ob48 (s : PySem.W.SharedT) : AlS := obsS 6 fa48 fn48 tf48 (HandSHeadRun.getT s)
theorem ob48_eq (s : PySem.W.SharedT) : ob48 s = hk48.obs s.abs := obsS_eq (HandSHeadRun.getT_eq s)
def looseA : List Str := ["_wall", "PartyError", "InvalidStay", "UnknownGuest", "InvalidNumber", "InvalidName", "TooEarly", "InvalidOperation", "InvalidText", "TooWide", "DaybookError", "DecodeError", "LAST_TICK", "LONGEST_NAME", "is_name", "is_within", "is_tick", "is_stay", "bottom_up", "lifted_from"]
def looseB : List Str := ["_check_stays", "Party", "FIRST_ITEM", "LETTERS", "MODULUS", "_checksum", "encode_party", "Reader", "_take_name", "decode_party", "_law_mix", "_law_next", "_law_alike", "_law_outcome", "_law_stays", "_law_party", "_law_sum", "_law_code", "_law_read"]
def loose48 : List Str := looseA ++ looseB
theorem run48 (w : World) : HandSHeadRun.RunEq R48 (PySem.W.view R48.prog [44]) hk48 ob48 20000 loose48 w := by
  intro os
  kernel_rfl
theorem at48 {w : World} {K : Shh.Fr} {h : Heap} {mg : Str → Option Value} {fa : Addr} (KX : K.In h) (G : h.Ns mainGlobals mg) (c : SaysS fa48 fn48 tf48 h K) (hmg : mg "law" = some (.ref fa)) :
    LamX.LawAtS PySem.Challenge.rw_shoepile_k48_whole_codes_of_parties w K (L2.CX PySem.Challenge.rw_shoepile_k48_whole_codes_of_parties.prog w) 10 63 "_law_script" mg fa h := by
  obtain ⟨fd, hb, hF⟩ := facts48 (P := PySem.Challenge.rw_shoepile_k48_whole_codes_of_parties.prog) (w := w) KX G c rfl (by decide +kernel)
  have e : fa = ga K "law" := by
    have q := hmg.symm.trans (gloB_ok KX G (xs := glo48) (c.fact 0) (x := "law") (by simp))
    injection q with q
    injection q
  subst e
  have t0 : (fun K => ga K "law") ∈ tf48 := List.mem_cons_self
  have one : ∀ (P : Addr × Addr → Prop), P (codeA K (ga K "law"), Sh4.tabA K "law") → ∀ p ∈ cs48 K, P p := fun P h p hp => by
    rcases List.mem_cons.mp hp with rfl | hp
    · exact h
    · cases hp
  refine ⟨fd, cs48 K, spLaw48 K (T48 K), ?_, ?_, ?_, hb, fun H a ns hl _ ht hS => ?_, fun base _ _ hT => hF base hT⟩
  · exact one (fun p => h.get? p.2 = some { cls := .none, data := .fields #[] }) (c.empty _ t0)
  · exact one (fun p => K.lookup p.2 = none) (c.out _ t0)
  · exact one (fun p => PySem.W.CodeHd h p.1 p.2) (PySem.W.codeHd_of_K KX (c.hd _ t0))
  · refine ⟨a, ns, rfl, hS, hl, fun p hp => ?_, fun _ => rfl⟩
    rcases List.mem_cons.mp hp with rfl | hp
    · exact LamX.TabS.nil (ht _ List.mem_cons_self)
    · cases hp
end Sh1
open PySem PySem.W PySem.Calls PyProof.Rows
theorem PySem.Challenge.cw_shoepile_k48_whole_codes_of_parties_holds : PySem.Challenge.rw_shoepile_k48_whole_codes_of_parties.Holds := by
  w_on; o_law
  refine HandSHeadRun.head_any (r := OpenLaw.row PySem.Challenge.rw_shoepile_k48_whole_codes_of_parties) (q := view (OpenLaw.row PySem.Challenge.rw_shoepile_k48_whole_codes_of_parties).prog [44]) (H := Sh1.hk48) (ob := Sh1.ob48) (M := 20000) (loose := Sh1.loose48) (d := HandSHeadRun.topDef (OpenLaw.row PySem.Challenge.rw_shoepile_k48_whole_codes_of_parties).prog 44) (kwd := []) Sh1.ob48_eq
    (by kernel_rfl) (fun s => by kernel_rfl) Sh1.run48 (by kernel_rfl) (by kernel_rfl) (by kernel_rfl) (by rfl) (by first | assumption | decide +kernel) (by decide +kernel) ⟨rfl, rfl, rfl, rfl, rfl, by decide +kernel⟩ ?hw ?hc
  case hw => w_witness2
  case hc =>
    refine LamX.walk_ofTsE (l := PySem.Challenge.rw_shoepile_k48_whole_codes_of_parties) (n := 63) (k := 10) (x := "_law_script") (CX := fun w => L2.CX PySem.Challenge.rw_shoepile_k48_whole_codes_of_parties.prog w) rfl (by decide) (by kernel_rfl) ⟨rfl, by decide, by decide⟩ ?F ?hCX
    case hCX =>
      rintro w H s e s' ⟨a, B, H', cls, d, _, _, _, _, _, _, _, z⟩
      exact z
    case F =>
      intro w mg fa h Y G hmg0
      obtain ⟨K, KX, c⟩ := Y
      have hmg : mg ("law" : PySem.Str) = some (.ref fa) := by
        have e : (HandSHeadRun.topDef (OpenLaw.row PySem.Challenge.rw_shoepile_k48_whole_codes_of_parties).prog 44).name = ("law" : PySem.Str) := by kernel_rfl
        rw [← e]
        exact hmg0
      exact ⟨K, KX, Sh1.at48 KX G c hmg⟩
