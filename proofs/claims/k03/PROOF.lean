import PyProof.Rows.All
import Wide.All
import OpenK.AllK
import Wide.FinOn
import KE.KStateDown
import HandS.ForExc
import HandS.Defaults
import HandS.Head0
import HandS.Head1
import HandS.Head2
import HandS.HeadHook1
import HandS.HeadHook2
import HandS.HeadHook3
import HandS.HeadHook4
import HandS.HeadNt
import HandS.HeadWalk
import HandS.EndTab
import HandS.Star
import HandS.Property
import HandS.ExcField
import KE.KExcLine
import KE.KSuper
import HandS.ForMost
import HandS.FStr
import HandS.ExcInit
import HandS.ExcOwn
import HandS.Nested
import HandS.MakeKwOnly
import HandS.More
import HandS.Lambda
import HandS.TryMany
import HandS.Walk
import HandS.TupAny
import HandS.IsInst
import HandS.ClsMeth
import HandS.DeepEq
import HandS.Words
import KE.GoesMore
import PyProof.EnumMake
import PyProof.EnumFor
import PyProof.Draws
import HandS.Small
import HandS.SortKw
import KE.KSortKeySt
import HandS.Deep
import HandS.Style
import KE.KTupTruth
import OpenK.KOps
import HandS.RaiseMore
import PyProof.GenRules
import HandS.GenBody
import HandS.GenYield
import HandS.GenCall
import HandS.GenList
import HandS.Dict
import HandS.Rev
import PyProof.ListStr
import HandS.SetFor
import HandS.Strs
import HandS.TupSets
import HandS.Set
import HandS.SortInts
import HandS.SortRule
import KE.KExcIs
import HandS.ExcIs
import KE.KSortTupAny
import KE.KParD
import HandS.IterVal
import HandS.ListItems
import HandS.LawCells
import PySem.Challenge.RW_shoepile_k03_one_guest_less
set_option Elab.async false
set_option linter.all false
set_option maxRecDepth 100000
set_option maxHeartbeats 4000000
/-! Own errors over ValueError: made with keywords, their __init__ with super(). -/
namespace ShX
open PySem PySem.W PySem.HandSPX
open Builtin Builtin.ObjectAttr
section
variable {M : Model} {prog : Program} {w : World} {A : Around} {E : Value → Shared → Prop} {R : Result → Shared → Prop}
variable {h : Heap} {g : Array GenState} {d : Drawn} {t : Nat} {os : OsState}
variable {nm q : Str} {C N : Addr} {bs bm bmB : List Value} {hdct : Bool} {sn : List Str} {sub : List Value} {ab : Bool} {col : Option Bool} {dd : Option Addr} {k0 k1 k2 k3 k5 : Option Value} {B newId initId : String}

theorem chk_new (F : ExcBaseFacts B newId initId bmB) (hT : ∀ X : String, bm.contains (.type X) = bmB.contains (.type X)) {kw : List (Str × Value)} {Q : Unit → Shared → Prop}
    (hC : h.get? C = some (excClassObj nm q C N bs bm hdct sn sub ab col dd k0 k1 k2 k3 k5 newId)) (hq : Q () ⟨h, g, d, t, os⟩) :
    wpAny M A (checkBuiltinCall newId ⟨[.ref C], kw⟩) Q E ⟨h, g, d, t, os⟩ := by
  have has : (Value.ref C :: bm).contains (.type B) = true := by rw [List.contains_cons, hT, F.hasB, Bool.or_true]
  have star := F.noStar
  simp only [checkBuiltinCall, F.newKind, F.newSplit, F.newRow]
  repeat (first
    | refine wpAny_loadPart_at hC ?_
    | (refine wpAny_isSubtype_exc hC ?_; rw [has])
    | refine wpAny_staticBase_exc hC ?_
    | refine wpAny_madeBy_exc hC ?_
    | simp only [bne_self_eq_false, Bool.false_eq_true, if_false]
    | wp_step)
  exact hq

/-- the new object: its args are none, the keywords go to __init__ alone -/
theorem new_kw (F : ExcBaseFacts B newId initId bmB) (hT : ∀ X : String, bm.contains (.type X) = bmB.contains (.type X)) {kw : List (Str × Value)}
    (hC : h.get? C = some (excClassObj nm q C N bs bm hdct sn sub ab col dd k0 k1 k2 k3 k5 newId))
    (hq : R (.ok (.ret (.ref (h.objs.size + 1)))) ⟨(h.push (kdv_tup [])).push (excO C h.objs.size), g, d, t, os⟩) :
    codeAny (model prog w) A (.builtin newId ⟨[.ref C], kw⟩) R ⟨h, g, d, t, os⟩ := by
  have ends := F.ends
  have has : ∀ Y : String, (Value.ref C :: bm).contains (.type Y) = bmB.contains (.type Y) := fun Y => by rw [List.contains_cons, hT]; rfl
  have yes : (Value.ref C :: bm).contains (.type B) = true := (has _).trans F.hasB
  have no1 : (Value.ref C :: bm).contains (.type "AttributeError") = false := (has _).trans F.noAttr
  have no2 : (Value.ref C :: bm).contains (.type "NameError") = false := (has _).trans F.noName
  refine codeAny_builtinAt F.entry ?_
  unfold Builtin.«BaseException.__new__»
  refine wpAt_bind ?_
  show wpAt _ _ _ (stack >>= _) _ _ _
  refine wpAt_bind (wpAt_stack fun p below => wpAt_of_wpAny ?_)
  wp_walk
  refine wpAt_of_wpAny ?_
  rw [F.owner]
  repeat (first
    | with_reducible refine wpAny_madeHere_exc F.canon hC ?_
    | with_reducible refine wpAny_loadPart_at hC ?_
    | (with_reducible refine wpAny_isSubtype_exc hC ?_; first | rw [yes] | rw [no1] | rw [no2])
    | wp_step)
  show R _ _
  rw [Heap.size_push]
  exact hq

theorem tcall_kw (F : ExcBaseFacts B newId initId bmB) (hT : ∀ X : String, bm.contains (.type X) = bmB.contains (.type X)) {kw : List (Str × Value)} {fI : Addr} {Q : Fin → Shared → Prop}
    (hC : h.get? C = some (excClassObj nm q C N bs bm hdct sn sub ab col dd k0 k1 k2 k3 k5 newId))
    (hi : Looks (model prog w) h (typeLookup (.ref C) "__init__") (some (.ref fI))) (hb : ∀ self, Looks (model prog w) h (bindSpecial (.ref fI) self) (.ref fI, [self]))
    (hq : codeAny (model prog w) A (.call (.ref fI) ⟨[.ref (h.objs.size + 1)], kw⟩)
      (fun r s' => match r with
        | .ok (.ret v) => v = .none ∧ Q (.done (.ret (.ref (h.objs.size + 1)))) s'
        | .ok _ => False
        | .error e => E e s')
      ⟨(h.push (kdv_tup [])).push (excO C h.objs.size), g, d, t, os⟩) :
    wpAny (model prog w) A (Builtin.«type.__call__» ⟨[.ref C], kw⟩) Q E ⟨h, g, d, t, os⟩ := by
  repeat (first | with_reducible refine wpAny_loadPart_at hC ?_ | with_reducible refine wpAny_madeBy_exc hC ?_ | wp_step)
  refine codeAny_call_builtin_code (Code.quiet_builtin _ F.quiet) (chk_new F hT hC ?_)
  refine new_kw F hT hC ?_
  show wpAny _ _ _ _ _ _
  have kp : ∀ b o, h.get? b = some o → ((h.push (kdv_tup [])).push (excO C h.objs.size)).get? b = some o := fun b o e => Heap.get?_push_of_some _ (Heap.get?_push_of_some _ e)
  have cls1 := kp _ _ hC
  have new1 : ((h.push (kdv_tup [])).push (excO C h.objs.size)).get? (h.objs.size + 1) = some (excO C h.objs.size) := by heap_get
  have self1 : (Value.ref C :: bm).contains (.ref C) = true := by simp
  have look1 := hi.keeps kp
  have bind1 := (hb (.ref (h.objs.size + 1))).keeps kp
  unfold isInstance
  repeat (first | with_reducible refine wpAny_loadPart_at new1 ?_ | (with_reducible refine wpAny_isSubtype_exc cls1 ?_; rw [self1]) | wp_step)
  show wpAny _ _ (typeLookup (.ref C) _) _ _ _
  refine look1.at ?_
  refine wpAny_holding (wpAny_bind (bind1.at ?_))
  refine wpAny_bind (wpAny_call (codeAny_mono hq fun r s' z => ?_))
  rcases r with e | (v | _ | _ | _) <;> first | exact z | exact z.elim | skip
  obtain ⟨rfl, z⟩ := z
  first
    | exact wpAny_pure (wpAny_pure z)
    | (wp_walk; exact z)

theorem chk_tcall {kw : List (Str × Value)} {Q : Unit → Shared → Prop} (hC : h.get? C = some (excClassObj nm q C N bs bm hdct sn sub ab col dd k0 k1 k2 k3 k5 newId))
    (hq : Q () ⟨h, g, d, t, os⟩) : wpAny M A (checkBuiltinCall "type.__call__" ⟨[.ref C], kw⟩) Q E ⟨h, g, d, t, os⟩ := by
  have f3 := tc_sub
  have hT : (⟨h, g, d, t, os⟩ : Shared).TypeIs (.ref C) "type" := ⟨_, hC, rfl⟩
  simp only [checkBuiltinCall, tc_kind, tc_split]
  repeat (any_goals (first | assumption | with_reducible refine wpAny_loadPart_at hC ?_ | with_reducible refine wpAny_onRaise ?_ | with_reducible refine wpAny_map ?_ | wp_step))

theorem call_kw (F : ExcBaseFacts B newId initId bmB) (hT : ∀ X : String, bm.contains (.type X) = bmB.contains (.type X)) {kw : List (Str × Value)} {fI : Addr}
    (hC : h.get? C = some (excClassObj nm q C N bs bm hdct sn sub ab col dd k0 k1 k2 k3 k5 newId))
    (hi : Looks (model prog w) h (typeLookup (.ref C) "__init__") (some (.ref fI))) (hb : ∀ self, Looks (model prog w) h (bindSpecial (.ref fI) self) (.ref fI, [self]))
    (hq : codeAny (model prog w) (A.under (.builtin "type.__call__" ⟨[.ref C], kw⟩)) (.call (.ref fI) ⟨[.ref (h.objs.size + 1)], kw⟩) (InitBack (h.objs.size + 1) R)
      ⟨(h.push (kdv_tup [])).push (excO C h.objs.size), g, d, t, os⟩) :
    codeAny (model prog w) A (.call (.ref C) ⟨[], kw⟩) R ⟨h, g, d, t, os⟩ := by
  have f1 := tc_lookup
  have f2 := tc_bind (.ref C)
  have hTy : (⟨h, g, d, t, os⟩ : Shared).TypeIs (.ref C) "type" := ⟨_, hC, rfl⟩
  refine codeAny_of_tree ?_
  show wpAny _ _ (callAny (.ref C) _) _ _ _
  repeat (any_goals (first | assumption | with_reducible refine wpAny_loadPart_at hC ?_ | wp_step))
  refine ⟨rfl, ?_⟩
  refine codeAny_call_builtin_at (Code.quiet_builtin _ (by decide +kernel)) entry_typeCall (chk_tcall hC (tcall_kw F hT hC hi hb ?_))
  refine codeAny_mono hq fun r s' z => ?_
  rcases r with e | (v | _ | _ | _) <;> exact z
end
end ShX

namespace ShX
open PySem PySem.W PySem.Calls PyProof.Rows PySem.HandSPX
section
variable {prog : Program} {w : World} {A : Around} {E : Value → Shared → Prop} {h : Heap} {g : Array GenState} {d : Drawn} {t : Nat} {os : OsState}
variable {nm q : Str} {C N : Addr} {bs bm : List Value} {hdct : Bool} {sn : List Str} {sub : List Value} {ab : Bool} {col : Option Bool} {dd : Option Addr} {k0 k1 k2 k3 k5 : Option Value}
abbrev veI : String := "ValueError.__init__"
/-- ValueError's __init__, bound to the exception at e, called -/
theorem call_mw {u e t0 : Addr} {rest : List Value} {Q : Value → Shared → Prop}
    (hC : h.get? C = some (excClassObj nm q C N bs bm hdct sn sub ab col dd k0 k1 k2 k3 k5 "ValueError.__new__")) (he : h.get? e = some (excO C t0))
    (hu : h.get? u = some (kxs_mw veI e)) (hz : rest.length ≤ sizeLine)
    (hq : ∀ h' t1, (∀ b o, b ≠ e → h.get? b = some o → h'.get? b = some o) → h'.get? e = some (excO C t1) → Q .none ⟨h', g, d, t, os⟩) :
    wpAny (model prog w) A (call (.ref u) rest) Q E ⟨h, g, d, t, os⟩ := by
  refine wpAny_call (codeAny_of_tree ?_)
  show wpAny _ A.in1 (callAny (.ref u) ⟨rest, []⟩) _ _ _
  simp only [callAny]
  refine wpAny_bind (wpAny_load hu ?_)
  have yes : (Value.type "method-wrapper" == Value.type "method" || Value.type "method-wrapper" == Value.type "builtin_function_or_method" || Value.type "method-wrapper" == Value.type "method-wrapper") = true := by decide
  simp only [kxs_mw, yes, if_true]
  refine KFB.if_so (by decide) ?_
  refine wpAny_bind (check_bound_init F.excBase_ValueError.toExcCallFacts hC he rfl ?_)
  refine wpAny_bind (wpAny_pure (wpAny_pure ?_))
  refine ⟨plainId_quiet F.excBase_ValueError.init.plain _, codeAny_builtin F.excBase_ValueError.initEntry ?_⟩
  exact exc_init_tree (cls := .ref C) (t0 := t0) (dv := none) (c2 := .none) (c3 := .none) (b4 := .bool false) he hz fun h' k e' _ => hq h' _ k e'
end
end ShX
set_option Elab.async false
set_option linter.all false
set_option maxRecDepth 100000
set_option maxHeartbeats 4000000

namespace Sho
open PySem PySem.Spec PyProof.Rows L2 NdefX
/-- what the written part says of an own error's __init__ at f that says super() -/
structure SupTxt (P : Program) (K : PySem.W.Frag) (mg : Str → Option Value) (F : NF) (f cc D : Addr) : Prop where
  fn : ∃ (oc : Value) (od : Option Addr) (doc pm : Value) (an : Option Addr) (ct : Value) (osl : Array (Option Value)),
    K.lookup f = some ⟨oc, od, .func (PySem.W.ksFn F.name F.qual F.params F.body F.scope .none .none doc pm an (.ref F.c) ct cc), osl⟩
  cd : PySem.W.codeIn K (.ref F.c) F.qual = true
  cell : ∃ (cl : Value) (cld : Option Addr) (csl : Array (Option Value)), K.lookup cc = some ⟨cl, cld, .cell (some (.ref D)), csl⟩
  cls : F.cl = [(("__class__" : Str), cc)]
  file : ∃ (oc : Value) (od : Option Addr) (vs : Array Value) (sl : Array (Option Value)) (fl : Str) (tf : Tok), K.lookup F.c = some ⟨oc, od, .fields vs, sl⟩ ∧ vs[2]? = some (.str fl tf) ∧ ((P.main.file : Str) == fl) = true
  first : ∃ ar : Arg, (F.params.posonlyargs ++ F.params.args).head? = some ar ∧ ar.arg = ("self" : Str)
  sup : mg "super" = none
  top : (P.main.scope.names.lookup ("super" : Str)).isSome = false
  ks : F.scope.names.lookup ("super" : Str) = some .globalImplicit
  kc : F.scope.names.lookup ("__class__" : Str) = some .free
  kse : F.scope.names.lookup ("self" : Str) = some .local
  isD : PySem.W.isClsIn K D = true
  opq : PySem.W.nsIn K cStatics "thirdparty.any" = some none
/-- the context's class: C's __init__ from D on is ValueError's -/
structure SupCls (K : PySem.W.Frag) (C D : Addr) : Prop where
  o : OexC K C
  sub : PySem.W.mroIn K C (.ref D) = some true
  nxt : PySem.W.ks_superIn K C D "__init__" = some (some (.builtin ShX.veI))
  ve : PySem.W.subIn K (.ref C) (.type "ValueError") = some true
section
variable {X : Cx} {pins : List (Addr × Obj)} {σ : L2.St} {H : Hp} {s : Shared} {F : NF} {f cc D a C : Addr}
theorem cls_at {K : PySem.W.Frag} {h : Heap} {D : Addr} (X : K.In h) (i : PySem.W.isClsIn K D = true) : ∃ (o : Obj) (cd : ClassData), h.get? D = some o ∧ o.data = .cls cd ∧ PySem.W.clsIn K D = some cd := by
  have i2 : (PySem.W.clsIn K D).isSome = true := i
  cases e : PySem.W.clsIn K D with
  | none =>
    rw [e] at i2
    cases i2
  | some cd =>
    have e0 := e
    unfold PySem.W.clsIn at e
    split at e
    · rename_i c d cd' sl ho
      cases e
      exact ⟨_, _, X _ _ ho, rfl, rfl⟩
    · cases e
/-- super().__init__(e), the exception at a being made -/
theorem sup_stmt {pl : Sem Bool} {R : Hp → Prop} {body : List Stmt} {e : Expr} {te : TA} {p0 p1 p2 p3 p4 : Pos} {Qf : PySem.Flow → Shared → Prop} {Ex : Value → Shared → Prop} (T : SupTxt X.prog X.K X.mg F f cc D) (V : SupCls X.K C D)
    (hX : X.env = envF F f X.env.locals) (I : Inv X pins σ H s) (hi : X.N[0]? = some ("self" : Str)) (hv : σ[0]? = some (some (.ref a))) (ha : H a = some (exo a C none))
    (he : PA X [e] te) (hxe : ∀ v s', X.xe v s' → Ex v s') (hq : te σ H fun xs H1 => xs.length ≤ 1000 ∧ H1 a = some (exo a C none) ∧ R H1) (hR : ∀ H1 s', Inv X pins σ H1 s' → R H1 → Qf .next s')
    (hce : eval (.Call (.Attribute (.Call (.Name "super" p0) [] [] p1) "__init__" p2) [e] [] p3) X.env = (do
      let ov ← attributeBase (.Call (.Name "super" p0) [] [] p1) "__init__" X.env (eval (.Call (.Name "super" p0) [] [] p1) X.env)
      standAt p2.atName
      let (fx, first) ← holding [ov] (getMethod ov "__init__" pl)
      callWith p3 fx first (backTo p3 (starEach [e] X.env)) []))
    (hst : starEach [e] X.env = (false, eval e X.env) :: starEach [] X.env) :
    PySem.wpAt (model X.prog X.w) X.A (.func body X.env) (exec (.Expr (.Call (.Attribute (.Call (.Name "super" p0) [] [] p1) "__init__" p2) [e] [] p3) p4) X.env) Qf Ex s := by
  obtain ⟨fc, fod, doc, pm, an, ct, osl, hf⟩ := T.fn
  obtain ⟨cl, cld, csl, hcell⟩ := T.cell
  obtain ⟨oc, od, vs, sl, fl, tf, hcode, hvs, hfile⟩ := T.file
  obtain ⟨ar, hfirst, har⟩ := T.first
  obtain ⟨oD, cdD, hD1, hD2, _⟩ := cls_at I.kIn T.isD
  obtain ⟨t0, hx⟩ := exo_at I.hok ha
  obtain ⟨nm, q, N, bs, bm, sn, sub, ab, col, dd, k0, k1, k2, k3, k5, hC, hbm⟩ := V.o.cls
  have hclC : PySem.W.clsIn X.K C = some { name := nm, bases := bs, mro := .ref C :: bm, ns := N, qualname := q, hasDict := true, slotNames := sn, subclasses := sub, abstract := ab, collection := col, hasDel := false } := by unfold PySem.W.clsIn; rw [hC] <;> rfl
  have IA : PySem.W.InstAt s.heap a ({ cls := .ref C, data := .fields #[.ref t0, .none, .none, .none, .bool false, .none] } : Obj) C none := ⟨hx, rfl, rfl, True.intro⟩
  have kD : X.env.kindOf ("self" : Str) = some .local := by rw [hX]; exact T.kse
  have selfv : ∃ m, s.heap.Ns X.env.locals m ∧ m ("self" : Str) = some (.ref a) := by
    obtain ⟨m, hm, hl⟩ := I.loc
    obtain ⟨u, ru, lk⟩ := hl 0 _ _ hi hv (.inl (by have := kD; rw [hX] at this; rw [hX]; exact this))
    obtain rfl : u = Value.ref a := ru
    rcases lk with ⟨_, e⟩ | ⟨e, _⟩
    · exact ⟨m, hm, e⟩
    · rw [kD] at e
      rcases e with e | e <;> cases e
  obtain ⟨m, hm, hself⟩ := selfv
  obtain ⟨mb, hb1, hb2⟩ := I.mod.blt
  have ek : X.env.scope.kind = .function := I.ok.kind
  have e1 : X.env.kindOf ("super" : Str) = some .globalImplicit := by rw [hX]; exact T.ks
  have e2 : X.env.kindOf ("__class__" : Str) = some .free := by rw [hX]; exact T.kc
  have e3 : X.env.cells.lookup ("__class__" : Str) = some cc := by
    rw [hX]
    show F.cl.lookup _ = _
    rw [T.cls]
    rfl
  refine ks_wpAt_Expr_any ?_ (I.quiet) (by rfl)
  refine ks_wpAt_MethodCall ?_ hce
  refine ks_wpAt_super_base (prog := X.prog) (w := X.w) (f := f) (cc := F.c) e1 e2 (by rfl) (by rw [hX]) (I.kIn _ _ hf) rfl hfirst (by rw [hX]) (I.kIn _ _ hcode) rfl hvs hfile T.top ?_
  refine PySem.W.ks_loadName_global ek e1 (PySem.Calls.loadGlobal_builtin (by rw [I.ok.glob]; exact I.mod.glob.keeps I.bk) T.sup (by rw [I.ok.blt]; exact hb1.keeps I.bk) ((hb2 _ (by decide)).trans (by decide +kernel)) ⟨rfl, ?_⟩)
  refine wpAny_loadName_free ek e2 e3 ⟨_, I.kIn _ _ hcell, rfl⟩ ?_
  rw [har]
  refine wpAny_loadName_local ek kD hm hself ?_
  refine ks_wpAny_isType_cls hD1 hD2 ⟨rfl, ?_⟩
  obtain ⟨hp, g, d, tk, os⟩ := s
  refine ks_wpAny_call_super hD1 hD2 hx rfl (fun c z => by cases z) (PySem.W.looks_mroIn I.kIn V.sub) fun h1 so1 kp1 => ?_
  have I1 : Inv X pins σ H ⟨h1, g, d, tk, os⟩ := I.kept (t' := tk) kp1
  have nx := V.nxt
  unfold PySem.W.ks_superIn at nx
  rw [hclC] at nx
  have hxC : a ≠ C := by
    rintro rfl
    have z := I.kIn _ _ hC
    have z2 : hp.get? a = some (excClassObj nm q a N bs bm true sn sub ab col dd k0 k1 k2 k3 k5 "ValueError.__new__") := z
    rw [z2] at hx
    cases hx
  have hmro : PySem.W.Looks (model X.prog X.w) h1 (mroOf (.ref C)) (.ref C :: bm) := (PySem.W.looks_clsIn I1.kIn hclC).andThen .now
  have hinst : PySem.W.Looks (model X.prog X.w) h1 (isInstance (.ref a) (.type "ValueError")) true :=
    PySem.W.Looks.andThen (PySem.W.InstAt.type (⟨kp1 _ _ hx, rfl, rfl, True.intro⟩ : PySem.W.InstAt h1 a _ C none)) (PySem.W.looks_subIn I1.kIn V.ve)
  refine PySem.W.kxs_getMethod PySem.W.kxs_ValueError so1 (PySem.W.looks_opaque I1.kIn T.opq) hmro rfl I1.kIn nx hinst hxC (by decide) ?_
  generalize hu : h1.objs.size = u
  have kp2 : ∀ b o, h1.get? b = some o → (h1.push (PySem.W.kxs_mw ShX.veI a)).get? b = some o := fun b o z => Heap.get?_push_of_some _ z
  have I2 : Inv X pins σ H ⟨h1.push (PySem.W.kxs_mw ShX.veI a), g, d, tk + 1, os⟩ := I1.kept (t' := tk + 1) kp2
  have gu : (h1.push (PySem.W.kxs_mw ShX.veI a)).get? u = some (PySem.W.kxs_mw ShX.veI a) := by rw [← hu]; exact Heap.get?_push_size _ rfl
  have fu : FpOk X pins H u := I1.fpOk (by rw [← hu]; exact Nat.le_refl _) (I1.hok.fresh (by rw [← hu]; exact Nat.le_refl _))
  have I3 : Inv X ((u, PySem.W.kxs_mw ShX.veI a) :: pins) σ H ⟨h1.push (PySem.W.kxs_mw ShX.veI a), g, d, tk + 1, os⟩ := I2.pins_of fun p hp => by
    rcases List.mem_cons.mp hp with rfl | hp
    · exact ⟨gu, fu.1, fu.2.1, fu.2.2.1, fun v z => by cases z⟩
    · exact I2.pin p (List.mem_append_right _ hp)
  refine wpAny_mono (PySem.W.kxs_callWith (i := ShX.veI) (x := a) (Q := fun _ s' => Qf .next s') (E := X.xe) (by rw [hst]; rfl) ?_) (fun _ _ z => z) hxe
  rw [hst]
  refine PySem.Calls.evalArgs_plain ?_
  have hr := he.run p3 ((u, PySem.W.kxs_mw ShX.veI a) :: pins) _ σ H _ I3 hq
  rw [hst] at hr
  refine thn hr fun us s2 ⟨xs, H2, I4, rv, hl, ha2, q⟩ => ?_
  have gu2 := (I4.pin (u, PySem.W.kxs_mw ShX.veI a) (List.mem_append_right _ List.mem_cons_self)).1
  refine ⟨gu2, ?_⟩
  obtain ⟨t2, hx2⟩ := exo_at I4.hok ha2
  obtain ⟨hp2, g2, d2, tk2, os2⟩ := s2
  refine ShX.call_mw (I4.kIn _ _ hC) hx2 gu2 ?_ fun h' t3 k3 e3 => ?_
  · show us.length ≤ sizeLine
    rw [← rv.length, sizeLine_eq]
    omega
  · have J := I4.write (t' := tk2) (x := a) (e := a) (o := exo a C none) (by rw [ha2]; exact True.intro) (.inl rfl) k3 ⟨_, e3⟩ (exo_ok e3)
    have eu : upd H2 a (exo a C none) = H2 := by
      funext b
      by_cases hb : b = a
      · rw [hb, upd_same, ha2]
      · rw [upd_ne hb]
    rw [eu] at J
    refine hR _ _ (J.pins_of fun p hp => J.pin p (by
      rcases List.mem_append.mp (List.mem_append_right X.pn hp) with z | z
      · exact List.mem_append_left _ z
      · exact List.mem_append_right _ (List.mem_cons_of_mem _ z))) q
end
section
variable {CX : CXT} {P : Program} {w : World} {K : PySem.W.Frag} {mg : Str → Option Value} {base : Heap} {N ps : List Str} {F : NF} {f cc D C a : Addr} {A : Around} {outer : List Env} {s : Shared} {H : Hp} {E : XK} {Q : VK} {us : List Value} {vs : List V} {k : Nat}
/-- the __init__ of an own error that says super() first, run: a is the exception -/
theorem run_sup {pl : Sem Bool} {args : Args} {e : Expr} {te : TA} {tr : TS} {rest : List Stmt} {p0 p1 p2 p3 p4 : Pos} (T : SupTxt P K mg F f cc D) (VC : SupCls K C D) (S : NScope N ps ["__class__"] F.scope) (hr : Room (k + 1) A) (e0 : Env0 P w K mg base A outer s H)
    (hb : ∀ doc pm an ct, BindsTo s (PySem.W.ksFn F.name F.qual F.params F.body F.scope .none .none doc pm an (.ref F.c) ct cc) args (ps.zip us)) (hl : vs.length = ps.length) (r : Vals vs us)
    (h0 : vs[0]? = some (.ref a)) (hN : N[0]? = some ("self" : Str)) (ha : H a = some (exo a C none))
    (hbody : F.body = .Expr (.Call (.Attribute (.Call (.Name "super" p0) [] [] p1) "__init__" p2) [e] [] p3) p4 :: rest)
    (he : PA (ncx CX P w K mg base N F f A outer s H E) [e] te) (hrest : PSs (ncx CX P w K mg base N F f A outer s H E) rest tr)
    (hq : te (startF N vs [none]) H fun xs H1 => xs.length ≤ 1000 ∧ H1 a = some (exo a C none) ∧ tr { nx := fun _ H' => Q .non H', rt := Q } (startF N vs [none]) H1)
    (hce : ∀ L : Addr, eval (.Call (.Attribute (.Call (.Name "super" p0) [] [] p1) "__init__" p2) [e] [] p3) (envF F f L) = (do
      let ov ← attributeBase (.Call (.Name "super" p0) [] [] p1) "__init__" (envF F f L) (eval (.Call (.Name "super" p0) [] [] p1) (envF F f L))
      standAt p2.atName
      let (fx, first) ← holding [ov] (getMethod ov "__init__" pl)
      callWith p3 fx first (backTo p3 (starEach [e] (envF F f L))) []))
    (hst : ∀ L : Addr, starEach [e] (envF F f L) = (false, eval e (envF F f L)) :: starEach [] (envF F f L)) :
    codeAny (model P w) A (.call (.ref f) args) (CR CX outer P w H s Q E) s := by
  obtain ⟨fc, fod, doc, pm, an, ct, osl, hf⟩ := T.fn
  have kin : K.In s.heap := e0.mod.kin.keeps fun b o z => (e0.bs b o z).1
  have lim : s.heap.NoLimit := e0.mod.nolimit.keeps fun b o z => (e0.bs b o z).1
  obtain ⟨cl, cld, csl, hcell⟩ := T.cell
  have hcb : base.get? cc = some ⟨cl, cld, .cell (some (.ref D)), csl⟩ := e0.mod.kin _ _ hcell
  have CA : CellsAt F.cl ["__class__"] [none] s.heap H := by
    rw [T.cls]
    have one : ∀ {y : Str} {c : Addr}, List.lookup y [(("__class__" : Str), cc)] = some c → y = "__class__" ∧ c = cc := fun {y c} z => by
      by_cases hy : y = ("__class__" : Str)
      · subst hy
        rw [List.lookup_cons_self] at z
        exact ⟨rfl, (Option.some.inj z).symm⟩
      · have q : (y == ("__class__" : Str)) = false := by simpa using hy
        rw [List.lookup_cons, q] at z
        cases z
    refine ⟨rfl, fun y c z => ?_, fun x y c z1 z2 => (one z1).1.trans (one z2).1.symm, fun i y z => ?_⟩
    · obtain ⟨_, rfl⟩ := one z
      exact ⟨(e0.bs _ _ hcb).2, _, _, (e0.bs _ _ hcb).1, rfl⟩
    · match i with
      | 0 =>
        simp at z
        subst z
        exact ⟨cc, List.lookup_cons_self, fun v z => by simp at z⟩
      | i + 1 => simp at z
  refine ks_codeAny_call_defAt (fd := PySem.W.ksFn F.name F.qual F.params F.body F.scope .none .none doc pm an (.ref F.c) ct cc) (body := F.body) (binds := ps.zip us) hr.depth (kin _ _ hf) rfl lim (PySem.W.codeRec_of kin T.cd) rfl (hb _ _ _ _)
    S.nocell (fun ⟨n, _⟩ hy => S.par n (List.of_mem_zip hy).1) (fun h₁ hns kp => ?_) S.co S.gen S.kind
  have I : Inv (ncx CX P w K mg base N F f A outer s H E) [] (startF N vs [none]) H { s with heap := h₁, toks := s.toks + (ps.zip us).length } := inv_startN S hr.hd e0 hl r CA hns kp
  have env_eq : callEnv (PySem.W.ksFn F.name F.qual F.params F.body F.scope .none .none doc pm an (.ref F.c) ct cc) s.heap.objs.size f = envF F f s.heap.objs.size := by
    show PySem.W.envX _ _ _ _ _ [(("__class__" : Str), cc)] = PySem.W.envX _ _ _ _ _ F.cl
    rw [T.cls]
  rw [env_eq]
  show PySem.wpAt (model P w) (ncx CX P w K mg base N F f A outer s H E).A (.func F.body (envF F f s.heap.objs.size)) (execs F.body (envF F f s.heap.objs.size)) _ _ _
  rw [hbody]
  refine ks_wpAt_execs_cons ?_
  have hs0 : (startF N vs [none])[0]? = some (some (.ref a)) := by
    unfold startF
    cases vs with
    | nil => simp at h0
    | cons v vs =>
      simp at h0
      subst h0
      rfl
  refine sup_stmt (X := ncx CX P w K mg base N F f A outer s H E) (Ex := (ncx CX P w K mg base N F f A outer s H E).xe) T VC rfl I hN hs0 ha he (fun _ _ z => z) hq (fun H1 s1 I1 q1 => ?_) (hce _) (hst _)
  refine wpAt_of_wpAny (wpAny_mono (hrest.run [] s1 (startF N vs [none]) H1 _ I1 q1) (fun fl s' hs => ?_) fun e s' hs => hs)
  have fin : ∀ {σ' : L2.St} {H' : Hp} {v : V} {u : Value}, Inv (ncx CX P w K mg base N F f A outer s H E) [] σ' H' s' → L2.RelV v u → Q v H' → CE outer P w H s Q u s' :=
    fun {σ' H' v u} J rv q => ⟨v, H', J.os, J.bare, J.base, J.hok, rv, q⟩
  cases fl with
  | ret u =>
    obtain ⟨v, σ', H', J, rv, q⟩ := hs
    exact fin J rv q
  | next =>
    obtain ⟨σ', H', J, q⟩ := hs
    exact fin (v := V.non) (u := Value.none) J rfl q
  | brk =>
    obtain ⟨_, _, _, q⟩ := hs
    exact False.elim q
  | cont =>
    obtain ⟨_, _, _, q⟩ := hs
    exact False.elim q
end
/-- a value that an error's message may tell -/
def Tells (v : V) : Prop := (∃ y : Str, v = .str y ∧ y.length ≤ 100000) ∨ ∃ i : Int, v = .int i ∧ i.natAbs.log2 < 1920
/-- C(f = e) -/
def tMkW (C : Addr) (fld : Str) (te : TA) : L2.St → Hp → XK → Prop := fun σ H Q => te σ H fun xs H1 => ∃ v, xs = [v] ∧ Tells v ∧ ∀ d, H1 d = none → Q (.ref C) (some d) (upd H1 d (.xd [(fld, v)]))
section
variable {X : Cx} {CX : CXT} {C f cc D : Addr} {F : NF} {k : Nat} {fld x : Str} {e msg : Expr} {kws : List Keyword} {te : TA} {p pos p0 p1 p2 p3 p4 r1 r2 r3 r4 : Pos} {pl : Sem Bool}
theorem pmk_kw (T : SupTxt X.prog X.K X.mg F f cc D) (VC : SupCls X.K C D) (XC : XfC X.K C) (hno : PySem.W.findIn X.K (.ref C) fld = some none)
    (iC : PySem.W.findIn X.K (.ref C) "__init__" = some (some (.ref f))) (tI : PySem.W.typeIn X.K (.ref f) = some (.type "function"))
    (S : NScope ["self", fld, "__class__"] ["self", fld] ["__class__"] F.scope) (hr : Room (k + 2) X.A) (hx : Passes CX X (fun _ _ _ => False)) (hg : Gl X x) (hm : X.mg x = some (.ref C))
    (hkw : PK X kws te) (hall : (backToKw pos (keywordEach kws X.env)).all (·.1.isSome) = true) (hks : (backToKw pos (keywordEach kws X.env)).filterMap (·.1) = [fld])
    (hpl : ((backTo pos (starEach [] X.env)).any (·.1) || (backToKw pos (keywordEach kws X.env)).any (·.1.isNone)) = false)
    (hbody : F.body = [.Expr (.Call (.Attribute (.Call (.Name "super" p0) [] [] p1) "__init__" p2) [msg] [] p3) p4, .Assign [.Attribute (.Name "self" r1) fld r2] (.Name fld r3) r4])
    (hb : ∀ (s : Shared) (doc pm : Value) (an : Option Addr) (ct : Value) (xa : Addr) (u : Value), BindsTo s (PySem.W.ksFn F.name F.qual F.params F.body F.scope .none .none doc pm an (.ref F.c) ct cc) ⟨[.ref xa], [(fld, u)]⟩ [(("self" : Str), .ref xa), (fld, u)])
    (hmsg : ∀ (A : Around) (outer : List Env) (s : Shared) (H : Hp) (E : XK) (xa : Addr) (v : V), Tells v → ∃ tm, PA (ncx CX X.prog X.w X.K X.mg X.base ["self", fld, "__class__"] F f A outer s H E) [msg] tm ∧
      ∀ R : List V → Hp → Prop, (∀ y : Str, R [.str y] H) → tm (startF ["self", fld, "__class__"] [.ref xa, v] [none]) H R)
    (hce : ∀ L : Addr, eval (.Call (.Attribute (.Call (.Name "super" p0) [] [] p1) "__init__" p2) [msg] [] p3) (envF F f L) = (do
      let ov ← attributeBase (.Call (.Name "super" p0) [] [] p1) "__init__" (envF F f L) (eval (.Call (.Name "super" p0) [] [] p1) (envF F f L))
      standAt p2.atName
      let (fx, first) ← holding [ov] (getMethod ov "__init__" pl)
      callWith p3 fx first (backTo p3 (starEach [msg] (envF F f L))) []))
    (hst : ∀ L : Addr, starEach [msg] (envF F f L) = (false, eval msg (envF F f L)) :: starEach [] (envF F f L))
    (hsw : ∀ L : Addr, swapsWith (.Name fld r3) (some (.Attribute (.Name "self" r1) fld r2)) r4.line (envF F f L) = pure false)
    (hf1 : (fld == ("__debug__" : Str)) = false := by decide) (hf2 : (fld == ("__classdict__" : Str)) = false := by decide)
    (hdb : (x == ("__debug__" : Str)) = false := by decide) : PMk X (.Call (.Name x p) [] kws pos) (tMkW C fld te) := by
  intro pins s σ H Q I h
  obtain ⟨nm, q, N, bs, bm, sn, sub, ab, col, dd, k0, k1, k2, k3, k5, hC, hbm⟩ := VC.o.cls
  refine wpAny_Call_Name_kw (ld_glob I hg hm ?_ hdb)
  refine PySem.W.callWith_KW0 (h₀ := X.base) I.ok.mod.kin VC.o.kC hall ?_ hpl
  refine thn (hkw.run pos pins s σ H _ I h) fun ws s1 ⟨zs, H1, I1, rz, v, ezs, hv, q1⟩ => ⟨I1.kIn, ?_⟩
  subst ezs
  cases rz with
  | @cons _ u _ _ rv rn =>
  cases rn
  rw [hks]
  obtain ⟨hp, g, dr, tk, os⟩ := s1
  have hsz : hp.objs.size ≤ hp.objs.size + 1 := Nat.le_succ _
  have hn : H1 (hp.objs.size + 1) = none := I1.hok.fresh hsz
  generalize ha : hp.objs.size + 1 = a at hn hsz
  have kk : ∀ b o, hp.get? b = some o → ((hp.push (PySem.W.kdv_tup [])).push (PySem.HandSPX.excO C hp.objs.size)).get? b = some o := fun b o e => Heap.get?_push_of_some _ (Heap.get?_push_of_some _ e)
  have hget : ((hp.push (PySem.W.kdv_tup [])).push (PySem.HandSPX.excO C hp.objs.size)).get? a = some (PySem.HandSPX.excO C hp.objs.size) := by
    rw [← ha]
    heap_get
  generalize hh2 : (hp.push (PySem.W.kdv_tup [])).push (PySem.HandSPX.excO C hp.objs.size) = h2 at kk hget
  have I2 : Inv X pins σ (upd H1 a (exo a C none)) ⟨h2, g, dr, tk, os⟩ := I1.laid (t' := tk) (a := a) (o := exo a C none) (h' := h2) kk hsz (exo_ok hget)
  obtain ⟨tm, hpm, htm⟩ := hmsg (X.A.under (.builtin "type.__call__" ⟨[.ref C], [(fld, u)]⟩)) X.stack ⟨h2, g, dr, tk, os⟩ (upd H1 a (exo a C none)) (fun _ _ _ => False) a v hv
  refine wpAny_call (ShX.call_kw PySem.F.excBase_ValueError (fun Y => PySem.HandSPX.refsVE_contains Y bm hbm) (I1.kIn _ _ hC) (PySem.W.looks_findIn I1.kIn iC) (fun self => PySem.W.bind_fn I1.kIn self tI) ?_)
  rw [ha, hh2]
  have vis0 : Vis F.scope ("self" : Str) := .inl (S.par _ List.mem_cons_self)
  have vis1 : Vis F.scope fld := .inl (S.par _ (List.mem_cons_of_mem _ List.mem_cons_self))
  refine codeAny_mono (run_sup (CX := CX) (k := k) (N := ["self", fld, "__class__"]) (ps := ["self", fld]) (us := [.ref a, u]) (vs := [.ref a, v]) (E := fun _ _ _ => False)
    (Q := fun r H2 => r = .non ∧ ∃ (d : Addr) (fs : List (Str × V)), H2 a = some (exo a C (some d)) ∧ H2 d = some (exd d fs) ∧ H1 d = none ∧ Q (.ref C) (some d) (upd (del H2 a) d (.xd fs)))
    T VC S (hr.make C [] _) (I2.env0.make C [] _) ?_ rfl (.cons rfl (.cons rv .nil)) rfl rfl upd_same hbody hpm
    (pss_one (ps_ost (pe_var (i := 0) rfl vis0) (pe_var (i := 1) rfl vis1 hf1 hf2) (hsw _))) ?_ hce hst) fun r s' hq' => ?_
  · intro doc pm an ct
    exact hb _ doc pm an ct a u
  · refine htm _ fun y => ⟨by simp, upd_same, v, rfl, .ref a, rfl, a, C, rfl, VC.o, hno, .inl ⟨upd_same, fun dx hdx ndx => ?_⟩⟩
    have hdx1 : H1 dx = none := by
      rw [upd_ne ndx] at hdx
      exact hdx
    refine ⟨rfl, dx, [(fld, v)], upd_same, ?_, hdx1, ?_⟩
    · rw [upd_ne ndx, upd_same]
    · have eH : upd (del (upd (upd (upd H1 a (exo a C none)) dx (exd dx [(fld, v)])) a (exo a C (some dx))) a) dx (.xd [(fld, v)]) = upd H1 dx (.xd [(fld, v)]) := by
        funext b
        by_cases h1 : b = dx
        · rw [h1, upd_same, upd_same]
        · rw [upd_ne h1, upd_ne h1]
          by_cases h2 : b = a
          · rw [h2, del_same, hn]
          · rw [del_ne h2, upd_ne h2, upd_ne h1, upd_ne h2]
      rw [eH]
      exact q1 dx hdx1
  · cases r with
    | error er => exact hx pins σ _ _ er s' I2 hq'
    | ok fl =>
      cases fl with
      | ret uu =>
        obtain ⟨vv, H2, os2, bare2, un2, hok2, rv2, ev, d2, fs, ea, ed, hd1, q2⟩ := hq'
        subst ev
        obtain ⟨h3, g2, dr2, t2, os'⟩ := s'
        exact ⟨rv2, mk_end (raises_own VC.o.exC VC.o.tyC) I1 hsz kk un2 hok2 os2 bare2 ea ed hd1 q2⟩
      | next => exact False.elim hq'
      | brk => exact False.elim hq'
      | cont => exact False.elim hq'
end
end Sho
set_option Elab.async false
set_option linter.all false
set_option maxRecDepth 100000
set_option maxHeartbeats 2000000
/-! The head of a law with facts: defs with and without a closure, Bools of the written part, empty tables of code objects left out. -/
namespace Shh
open PySem PySem.Spec PyProof.Rows L2 He Sho
abbrev Fr : Type := PySem.W.Frag
/-! ### a def -/
abbrev FnS : Type := Option (Str × Str × Arguments × FuncBody × Scope)
def fnS (K : Fr) (a : Addr) : FnS := match K.lookup a with
  | some ⟨_, _, .func fd, _⟩ => some (fd.name, fd.qualname, fd.params, fd.body, fd.scope)
  | _ => none
def noneB : Value → Bool
  | .none => true
  | _ => false
theorem noneB_ok {v : Value} (h : noneB v = true) : v = .none := by
  cases v with
  | none => rfl
  | _ => cases h
def fnB (K : Fr) (a : Addr) (q : Str) (cl : List (Str × Addr)) : Bool := match K.lookup a with
  | some ⟨_, _, .func fd, _⟩ => decide (fd.globals = mainGlobals) && (decide (fd.closure = cl) && (decide (fd.builtins = builtinsNs) && (noneB fd.defaults && (noneB fd.kwdefaults && PySem.W.codeIn K fd.code q))))
  | _ => false
def codeA (K : Fr) (a : Addr) : Addr := match K.lookup a with
  | some ⟨_, _, .func fd, _⟩ => (match fd.code with
    | .ref c => c
    | _ => 0)
  | _ => 0
/-- the first cell of a function's closure -/
def cellA (K : Fr) (a : Addr) : Addr := match K.lookup a with
  | some ⟨_, _, .func fd, _⟩ => (match fd.closure with
    | (_, c) :: _ => c
    | _ => 0)
  | _ => 0
structure FunF (K : Fr) (x qual : Str) (st : Stmt) (cl : List (Str × Addr)) (f : Addr) : Prop where
  ex : ∃ (oc : Value) (od : Option Addr) (doc pm : Value) (an : Option Addr) (ct : Value) (osl : Array (Option Value)),
    K.lookup f = some ⟨oc, od, .func (PySem.W.fnX x qual (defArgs st) (defBody st) (defScope st) cl .none .none doc pm an (.ref (codeA K f)) ct), osl⟩ ∧ PySem.W.codeIn K (.ref (codeA K f)) qual = true
/-- one def: where it stands, its name, qualified name, statement, closure -/
structure Dn where
  at_ : Fr → Addr
  name : Str
  qual : Str
  st : Stmt
  cl : Fr → List (Str × Addr) := fun _ => []
def Dn.val (d : Dn) : FnS := some (d.name, d.qual, defArgs d.st, .stmts (defBody d.st), defScope d.st)
def Dn.ok (K : Fr) (d : Dn) : Bool := fnB K (d.at_ K) d.qual (d.cl K)
theorem Dn.funF {K : Fr} {d : Dn} (e : fnS K (d.at_ K) = d.val) (c : d.ok K = true) : FunF K d.name d.qual d.st (d.cl K) (d.at_ K) := by
  unfold Dn.ok fnB at c
  unfold fnS at e
  have ec : ∀ fd oc od osl, K.lookup (d.at_ K) = some ⟨oc, od, .func fd, osl⟩ → ∀ c, fd.code = .ref c → codeA K (d.at_ K) = c := fun fd oc od osl q c h => by
    unfold codeA
    rw [q]
    show (match fd.code with | .ref c => c | _ => 0) = c
    rw [h]
  cases q : K.lookup (d.at_ K) with
  | none =>
    rw [q] at c
    cases c
  | some o =>
    obtain ⟨oc, od, dt, osl⟩ := o
    rw [q] at c e
    cases dt with
    | func fd =>
      have ec' := ec fd oc od osl q
      obtain ⟨n1, n2, n3, n4, n5, n6, n7, n8, n9, n10, n11, n12, n13, n14, n15⟩ := fd
      have e2 : (some (n1, n2, n3, n4, n5) : FnS) = some (d.name, d.qual, defArgs d.st, .stmts (defBody d.st), defScope d.st) := e
      simp only [Option.some.injEq, Prod.mk.injEq] at e2
      obtain ⟨h1, h2, h3, h4, h5⟩ := e2
      obtain ⟨c1, c⟩ := ba c
      obtain ⟨c2, c⟩ := ba c
      obtain ⟨c3, c⟩ := ba c
      obtain ⟨c4, c⟩ := ba c
      obtain ⟨c5, c6⟩ := ba c
      have g1 : n6 = mainGlobals := of_decide_eq_true c1
      have g2 : n7 = d.cl K := of_decide_eq_true c2
      have g3 : n15 = builtinsNs := of_decide_eq_true c3
      have g4 : n8 = .none := noneB_ok c4
      have g5 : n9 = .none := noneB_ok c5
      obtain ⟨cc, hc⟩ := codeIn_ref c6
      have hc' : n13 = .ref cc := hc
      have e3 := ec' cc hc'
      subst h1 h2 h3 h4 h5 g1 g2 g3 g4 g5 hc'
      exact ⟨oc, od, n10, n11, n12, n14, osl, by rw [e3]; exact q, by rw [e3]; exact c6⟩
    | _ => cases c
/-! ### the Hook -/
def okAll (fa : List (Fr → Bool)) (fn : List Dn) (K : Fr) : Bool := (fa.all fun f => f K) && fn.all fun d => d.ok K
def tabsS (g : Addr → Option Obj) (tf : List (Fr → Addr)) (K : Fr) : Bool := tf.all fun p => PySem.W.codeHdIn K (codeA K (p K)) (tabOf K (codeA K (p K))) && (match g (tabOf K (codeA K (p K))) with
  | some o => emptyTab o
  | none => false)
def fragS (n : Nat) (g : Addr → Option Obj) : Fr := frT g (asD g n ++ [cStatics])
abbrev AlS : Type := Bool × List FnS
def obsS (n : Nat) (fa : List (Fr → Bool)) (fn : List Dn) (tf : List (Fr → Addr)) (g : Addr → Option Obj) : AlS := (okAll fa fn (fragS n g) && tabsS g tf (fragS n g), fn.map fun d => fnS (fragS n g) (d.at_ (fragS n g)))
def valS (fn : List Dn) : AlS := (true, fn.map Dn.val)
structure SaysS (fa : List (Fr → Bool)) (fn : List Dn) (tf : List (Fr → Addr)) (h : Heap) (K : Fr) : Prop where
  fa : ∀ f ∈ fa, f K = true
  fn : ∀ d ∈ fn, FunF K d.name d.qual d.st (d.cl K) (d.at_ K)
  hd : ∀ p ∈ tf, PySem.W.codeHdIn K (codeA K (p K)) (tabOf K (codeA K (p K))) = true
  out : ∀ p ∈ tf, K.lookup (tabOf K (codeA K (p K))) = none
  empty : ∀ p ∈ tf, h.get? (tabOf K (codeA K (p K))) = some { cls := .none, data := .fields #[] }
theorem saysS_of {n : Nat} {fa : List (Fr → Bool)} {fn : List Dn} {tf : List (Fr → Addr)} {h : Heap} (e : obsS n fa fn tf h.get? = valS fn) : SaysS fa fn tf h (fragS n h.get?) := by
  have e1 : (okAll fa fn (fragS n h.get?) && tabsS h.get? tf (fragS n h.get?)) = true := congrArg (fun z : AlS => z.1) e
  have e2 : (fn.map fun d => fnS (fragS n h.get?) (d.at_ (fragS n h.get?))) = fn.map Dn.val := congrArg (fun z : AlS => z.2) e
  obtain ⟨h1, h2⟩ := ba e1
  obtain ⟨h3, h4⟩ := ba h1
  have key : ∀ p ∈ tf, PySem.W.codeHdIn (fragS n h.get?) (codeA (fragS n h.get?) (p (fragS n h.get?))) (tabOf (fragS n h.get?) (codeA (fragS n h.get?) (p (fragS n h.get?)))) = true ∧
      ∃ o, h.get? (tabOf (fragS n h.get?) (codeA (fragS n h.get?) (p (fragS n h.get?)))) = some o ∧ emptyTab o = true := fun p hp => by
    obtain ⟨h5, h6⟩ := ba (List.all_eq_true.mp h2 p hp)
    refine ⟨h5, ?_⟩
    cases q : h.get? (tabOf (fragS n h.get?) (codeA (fragS n h.get?) (p (fragS n h.get?)))) with
    | none =>
      rw [q] at h6
      cases h6
    | some o =>
      rw [q] at h6
      exact ⟨o, rfl, h6⟩
  refine ⟨fun f hf => List.all_eq_true.mp h3 f hf, fun d hd => ?_, fun p hp => (key p hp).1, fun p hp => ?_, fun p hp => ?_⟩
  · obtain ⟨i, hi, ei⟩ := List.mem_iff_getElem.mp hd
    have e3 : (fn.map fun d => fnS (fragS n h.get?) (d.at_ (fragS n h.get?)))[i]? = (fn.map Dn.val)[i]? := by rw [e2]
    rw [List.getElem?_map, List.getElem?_map, List.getElem?_eq_getElem hi, ei] at e3
    exact Dn.funF (Option.some.inj e3) (List.all_eq_true.mp h4 d hd)
  · obtain ⟨_, o, q, z⟩ := key p hp
    exact frT_none q z
  · obtain ⟨_, o, q, z⟩ := key p hp
    rw [q, emptyTab_eq z]
def hookS (n : Nat) (fa : List (Fr → Bool)) (fn : List Dn) (tf : List (Fr → Addr)) : PySem.W.Hook where
  α := AlS
  obs := fun s => obsS n fa fn tf s.heap.get?
  val := fun _ => valS fn
  says := fun _ h => ∃ K : PySem.W.Frag, K.In h ∧ SaysS fa fn tf h K
  of := fun _ _ e => ⟨_, frT_in, saysS_of e⟩
  keeps := fun _ _ _ ⟨K, hK, c⟩ k => ⟨K, PySem.W.Frag.In.keeps hK k, ⟨c.fa, c.fn, c.hd, c.out, fun p hp => k _ _ (c.empty p hp)⟩⟩
theorem obsS_eq {n : Nat} {fa : List (Fr → Bool)} {fn : List Dn} {tf : List (Fr → Addr)} {g : Addr → Option Obj} {s : Shared} (h : ∀ a, g a = s.heap.get? a) : obsS n fa fn tf g = (hookS n fa fn tf).obs s := by
  have e : g = s.heap.get? := funext h
  rw [e] <;> rfl
section
variable {fa : List (Fr → Bool)} {fn : List Dn} {tf : List (Fr → Addr)} {h : Heap} {K : Fr}
theorem SaysS.fact (c : SaysS fa fn tf h K) (i : Nat) {f : Fr → Bool} (e : fa[i]? = some f := by rfl) : f K = true := c.fa f (List.mem_of_getElem? e)
theorem SaysS.def_ (c : SaysS fa fn tf h K) (i : Nat) {d : Dn} (e : fn[i]? = some d := by rfl) : FunF K d.name d.qual d.st (d.cl K) (d.at_ K) := c.fn d (List.mem_of_getElem? e)
end
/-! ### names of the module -/
section
variable {K : Fr} {h : Heap} {mg : Str → Option Value}
def gloB (K : Fr) (xs : List Str) : Bool := xs.all fun x => eqO (PySem.W.nsIn K mainGlobals x) (some (some (.ref (ga K x))))
theorem gloB_ok (X : K.In h) (G : h.Ns mainGlobals mg) {xs : List Str} (c : gloB K xs = true) {x : Str} (hx : x ∈ xs) : mg x = some (.ref (ga K x)) := PySem.W.mg_of X G (eqO_ok (List.all_eq_true.mp c x hx))
def freeB (K : Fr) (xs : List Str) : Bool := xs.all fun x => eqO (PySem.W.nsIn K mainGlobals x) (some none)
theorem freeB_ok (X : K.In h) (G : h.Ns mainGlobals mg) {xs : List Str} (c : freeB K xs = true) {x : Str} (hx : x ∈ xs) : mg x = none := PySem.W.mg_none_of X G (eqO_ok (List.all_eq_true.mp c x hx))
def keepB (K : Fr) (xs : List Str) : Bool := xs.all fun x => PySem.W.keepIn K (.ref (ga K x))
theorem keepB_ok {xs : List Str} (c : keepB K xs = true) {x : Str} (hx : x ∈ xs) : PySem.W.keepIn K (.ref (ga K x)) = true := List.all_eq_true.mp c x hx
end
/-! ### an own error whose __init__ says super().__init__(text) and stores a field -/
def oexB (K : Fr) (C : Addr) : Bool := match K.lookup C with
  | some ⟨.type t, _, .cls cd, sl⟩ => decide (t = "type") && (decide (cd.mro.head? = some (.ref C)) && (PySem.HandSPX.refsVE cd.mro.tail && (cd.hasDict && (!cd.hasDel && (match sl.toList with
    | [_, _, _, _, some (.builtin n), _] => decide (n = "ValueError.__new__")
    | _ => false)))))
  | _ => false
theorem oexB_ok {K : Fr} {C : Addr} (h : oexB K C = true) : ∃ nm q N bs bm sn sub ab col dd k0 k1 k2 k3 k5, K.lookup C = some (excClassObj nm q C N bs bm true sn sub ab col dd k0 k1 k2 k3 k5 "ValueError.__new__") ∧ PySem.HandSPX.refsVE bm = true := by
  unfold oexB at h
  split at h
  · rename_i t dd cd sl e
    obtain ⟨h1, h⟩ := ba h
    obtain ⟨h2, h⟩ := ba h
    obtain ⟨h3, h⟩ := ba h
    obtain ⟨h4, h⟩ := ba h
    obtain ⟨h5, h6⟩ := ba h
    split at h6
    · rename_i k0 k1 k2 k3 n k5 hs
      obtain ⟨nm, bs, mro, N, q, hd, sn, sub, ab, col, hdel⟩ := cd
      have a1 : t = "type" := of_decide_eq_true h1
      have a2 : mro.head? = some (.ref C) := of_decide_eq_true h2
      have a4 : hd = true := h4
      have a5 : hdel = false := by
        cases z : hdel with
        | false => rfl
        | true =>
          have h5' : (!hdel) = true := h5
          rw [z] at h5'
          cases h5'
      have a6 : n = "ValueError.__new__" := of_decide_eq_true h6
      have a7 : sl = #[k0, k1, k2, k3, some (.builtin n), k5] := by
        have z : sl.toList.toArray = [k0, k1, k2, k3, some (.builtin n), k5].toArray := by rw [hs]
        simpa using z
      cases mro with
      | nil => cases a2
      | cons m0 bm =>
        have a8 : m0 = .ref C := Option.some.inj a2
        subst a1 a4 a5 a6 a7 a8
        exact ⟨nm, q, N, bs, bm, sn, sub, ab, col, dd, k0, k1, k2, k3, k5, e, h3⟩
    · cases h6
  · cases h
def cellB (K : Fr) (cc C : Addr) : Bool := match K.lookup cc with
  | some ⟨_, _, .cell (some (.ref D)), _⟩ => decide (D = C)
  | _ => false
theorem cellB_ok {K : Fr} {cc C : Addr} (h : cellB K cc C = true) : ∃ (cl : Value) (cld : Option Addr) (csl : Array (Option Value)), K.lookup cc = some ⟨cl, cld, .cell (some (.ref C)), csl⟩ := by
  unfold cellB at h
  split at h
  · rename_i cl cld D csl e
    rw [of_decide_eq_true h] at e
    exact ⟨cl, cld, csl, e⟩
  · cases h
def fileB (K : Fr) (c : Addr) (file : Str) : Bool := match K.lookup c with
  | some ⟨_, _, .fields vs, _⟩ => (match (vs[2]? : Option Value) with
    | some (.str fl _) => file == fl
    | _ => false)
  | _ => false
theorem fileB_ok {K : Fr} {c : Addr} {file : Str} (h : fileB K c file = true) : ∃ (oc : Value) (od : Option Addr) (vs : Array Value) (sl : Array (Option Value)) (fl : Str) (tf : Tok), K.lookup c = some ⟨oc, od, .fields vs, sl⟩ ∧ vs[2]? = some (.str fl tf) ∧ (file == fl) = true := by
  unfold fileB at h
  split at h
  · rename_i oc od vs sl e
    split at h
    · rename_i fl tf e2
      exact ⟨oc, od, vs, sl, fl, tf, e, e2, h⟩
    · cases h
  · cases h
/-- where an error's __init__ stands -/
def eInit (K : Fr) (x : Str) : Addr := ma K (ga K x) "__init__"
def errB (file : Str) (K : Fr) (x fld : Str) : Bool :=
  oexB K (ga K x) && (cellB K (cellA K (eInit K x)) (ga K x) && (fileB K (codeA K (eInit K x)) file && (PySem.W.isClsIn K (ga K x) && (eqO (PySem.W.nsIn K cStatics "thirdparty.any") (some none) &&
  (decide (PySem.W.mroIn K (ga K x) (.ref (ga K x)) = some true) && (eqO (PySem.W.ks_superIn K (ga K x) (ga K x) "__init__") (some (some (.builtin ShX.veI))) && (decide (PySem.W.subIn K (.ref (ga K x)) (.type "ValueError") = some true) &&
  (xfB K (ga K x) && (eqO (PySem.W.findIn K (.ref (ga K x)) fld) (some none) && (decide (PySem.W.exmOne K (.ref (ga K x)) (.ref (ga K x)) = some true) && (eqO (PySem.W.findIn K (.ref (ga K x)) "__init__") (some (some (.ref (eInit K x)))) &&
  (decide (PySem.W.typeIn K (.ref (eInit K x)) = some (.type "function")) && (eqO (PySem.W.findIn K (.ref (ga K x)) "__setattr__") (some (some (.builtin "object.__setattr__"))) && (decide (PySem.W.subIn K (.ref (ga K x)) (.type "BaseException") = some true) &&
  (decide (PySem.W.typeIn K (.ref (ga K x)) = some (.type "type")) && PySem.W.keepIn K (.ref (ga K x)))))))))))))))))
section
variable {K : Fr} {h : Heap} {mg : Str → Option Value} {P : Program}
/-- the pieces of errB -/
structure ErrF (file : Str) (K : Fr) (x fld : Str) : Prop where
  oex : OexC K (ga K x)
  cell : ∃ (cl : Value) (cld : Option Addr) (csl : Array (Option Value)), K.lookup (cellA K (eInit K x)) = some ⟨cl, cld, .cell (some (.ref (ga K x))), csl⟩
  file : ∃ (oc : Value) (od : Option Addr) (vs : Array Value) (sl : Array (Option Value)) (fl : Str) (tf : Tok), K.lookup (codeA K (eInit K x)) = some ⟨oc, od, .fields vs, sl⟩ ∧ vs[2]? = some (.str fl tf) ∧ (file == fl) = true
  isC : PySem.W.isClsIn K (ga K x) = true
  opq : PySem.W.nsIn K cStatics "thirdparty.any" = some none
  sup : SupCls K (ga K x) (ga K x)
  xf : XfC K (ga K x)
  no : PySem.W.findIn K (.ref (ga K x)) fld = some none
  exm : PySem.W.exmOne K (.ref (ga K x)) (.ref (ga K x)) = some true
  ini : PySem.W.findIn K (.ref (ga K x)) "__init__" = some (some (.ref (eInit K x)))
  ity : PySem.W.typeIn K (.ref (eInit K x)) = some (.type "function")
theorem errB_ok {file x fld : Str} (c : errB file K x fld = true) : ErrF file K x fld := by
  obtain ⟨c1, c⟩ := ba c
  obtain ⟨c2, c⟩ := ba c
  obtain ⟨c3, c⟩ := ba c
  obtain ⟨c4, c⟩ := ba c
  obtain ⟨c5, c⟩ := ba c
  obtain ⟨c6, c⟩ := ba c
  obtain ⟨c7, c⟩ := ba c
  obtain ⟨c8, c⟩ := ba c
  obtain ⟨c9, c⟩ := ba c
  obtain ⟨c10, c⟩ := ba c
  obtain ⟨c11, c⟩ := ba c
  obtain ⟨c12, c⟩ := ba c
  obtain ⟨c13, c⟩ := ba c
  obtain ⟨c14, c⟩ := ba c
  obtain ⟨c15, c⟩ := ba c
  obtain ⟨c16, c17⟩ := ba c
  have O : OexC K (ga K x) := ⟨oexB_ok c1, eqO_ok c14, of_decide_eq_true c15, of_decide_eq_true c16, c17⟩
  exact ⟨O, cellB_ok c2, fileB_ok c3, c4, eqO_ok c5, ⟨O, of_decide_eq_true c6, eqO_ok c7, of_decide_eq_true c8⟩, xfB_ok c9, eqO_ok c10, of_decide_eq_true c11, eqO_ok c12, of_decide_eq_true c13⟩
/-- the text of its __init__ -/
theorem err_txt {file x fld qual : Str} {st : Stmt} (E : ErrF file K x fld) (D : FunF K "__init__" qual st [(("__class__" : Str), cellA K (eInit K x))] (eInit K x)) (hf : P.main.file = file) (sup : mg "super" = none)
    (h1 : ∃ ar : Arg, ((defArgs st).posonlyargs ++ (defArgs st).args).head? = some ar ∧ ar.arg = ("self" : Str)) (h2 : (P.main.scope.names.lookup ("super" : Str)).isSome = false)
    (h3 : (defScope st).names.lookup ("super" : Str) = some .globalImplicit) (h4 : (defScope st).names.lookup ("__class__" : Str) = some .free) (h5 : (defScope st).names.lookup ("self" : Str) = some .local) :
    SupTxt P K mg ⟨"__init__", qual, defArgs st, defBody st, defScope st, [(("__class__" : Str), cellA K (eInit K x))], codeA K (eInit K x)⟩ (eInit K x) (cellA K (eInit K x)) (ga K x) := by
  obtain ⟨oc, od, doc, pm, an, ct, osl, lk, hcd⟩ := D.ex
  exact ⟨⟨oc, od, doc, pm, an, ct, osl, lk⟩, hcd, E.cell, rfl, by rw [hf]; exact E.file, h1, sup, h2, h3, h4, h5, E.isC, E.opq⟩
end
/-! ### an own error without a field, a property, an operator -/
def ernB (K : Fr) (x : Str) : Bool := PySem.W.excIn K (ga K x) veBase "ValueError.__new__" && (PySem.W.keepIn K (.ref (ga K x)) && (decide (PySem.W.subIn K (.ref (ga K x)) (.type "BaseException") = some true) && (decide (PySem.W.typeIn K (.ref (ga K x)) = some (.type "type")) &&
  decide (PySem.W.exmOne K (.ref (ga K x)) (.ref (ga K x)) = some true))))
/-- the getter of a property -/
def getA (K : Fr) (C : Addr) (m : Str) : Addr := He5.wf K C "property" m
def propB (K : Fr) (C : Addr) (m : Str) : Bool := eqO (PySem.W.findIn K (.ref C) m) (some (some (.ref (ma K C m)))) && (eqO (PySem.W.specialIn K (.ref (ma K C m)) "__get__") (some (some (.builtin "property.__get__"))) && (decide (PySem.W.takesIn K (.ref (ma K C m)) = some true) &&
  (match PySem.W.recIn K (ma K C m) "property" with
    | some (.ref _ :: _) => true
    | _ => false)))
theorem propB_ok {K : Fr} {C : Addr} {m : Str} (c : propB K C m = true) : PropOf K C m (ma K C m) (getA K C m) := by
  obtain ⟨c1, c⟩ := ba c
  obtain ⟨c2, c⟩ := ba c
  obtain ⟨c3, c4⟩ := ba c
  refine ⟨eqO_ok c1, eqO_ok c2, of_decide_eq_true c3, ?_⟩
  unfold getA He5.wf
  split at c4
  · rename_i f r e
    exact ⟨r, by rw [e]⟩
  · cases c4
/-- a def of the class under a name that Python itself looks up -/
def dunB (K : Fr) (C : Addr) (m : Str) : Bool := eqO (PySem.W.findIn K (.ref C) m) (some (some (.ref (ma K C m)))) && (PySem.W.isFn K (.ref (ma K C m)) && (PySem.W.fnIn K (ma K C m) && PySem.W.keepIn K (.ref (ma K C m))))
structure DunF (K : Fr) (C : Addr) (m : Str) : Prop where
  at_ : PySem.W.findIn K (.ref C) m = some (some (.ref (ma K C m)))
  isF : PySem.W.isFn K (.ref (ma K C m)) = true
  fn : PySem.W.fnIn K (ma K C m) = true
  kp : PySem.W.keepIn K (.ref (ma K C m)) = true
theorem dunB_ok {K : Fr} {C : Addr} {m : Str} (c : dunB K C m = true) : DunF K C m := by
  obtain ⟨c1, c⟩ := ba c
  obtain ⟨c2, c⟩ := ba c
  obtain ⟨c3, c4⟩ := ba c
  exact ⟨eqO_ok c1, c2, c3, c4⟩
theorem DunF.meth {K : Fr} {C : Addr} {m : Str} (d : DunF K C m) : Meth K C m (ma K C m) := ⟨d.at_, d.isF, d.kp⟩
theorem DunF.mkr {K : Fr} {C : Addr} (d : DunF K C "__init__") (m : PySem.W.makesIn K C = true) (k : PySem.W.keepIn K (.ref C) = true) : Mk K C (ma K C "__init__") := ⟨m, d.at_, d.isF, k⟩
theorem DunF.callO {K : Fr} {C : Addr} (d : DunF K C "__call__") : StX.CallO K C (ma K C "__call__") := ⟨d.at_, d.isF, d.fn⟩
/-! ### functions without a closure -/
section
variable {K : Fr} {x qual : Str} {st : Stmt} {f : Addr}
/-- its object -/
theorem FunF.funW (F : FunF K x qual st [] f) (kp : PySem.W.keepIn K (.ref f) = true) : ∃ fd, L2.Fun K x qual st f fd ∧ (∀ ps : List Str, (∀ (kV doc pm : Value) (an : Option Addr) (cdv ct : Value) (us : List Value), us.length = ps.length → bindArgs (PySem.W.fnOf x qual (defArgs st) (defBody st) (defScope st) .none kV doc pm an cdv ct) ⟨us, []⟩ = pure (ps.zip us)) → Binds K fd ps []) ∧
    ∀ ps : List Str, (∀ (kV doc pm : Value) (an : Option Addr) (cdv ct : Value) (us : List Value), us.length = ps.length → bindArgs (PySem.W.fnOf x qual (defArgs st) (defBody st) (defScope st) .none kV doc pm an cdv ct) ⟨us, []⟩ = pure (ps.zip us)) → ∀ (s : Shared) (us : List Value), us.length = ps.length → BindsTo s fd ⟨us, []⟩ (ps.zip us) := by
  obtain ⟨oc, od, doc, pm, an, ct, osl, lk, hcd⟩ := F.ex
  exact ⟨_, ⟨⟨oc, od, .none, doc, pm, an, _, ct, osl, rfl, lk, hcd⟩, kp⟩, fun ps h => .all (h .none doc pm an _ ct), fun ps h s us hl => .of_eq (h .none doc pm an _ ct us hl)⟩
end
end Shh
set_option Elab.async false
set_option linter.all false
set_option maxRecDepth 100000
set_option maxHeartbeats 2000000
/-! Lambdas as objects that are known: made (with a default or without), called. -/
namespace Sho
open PySem PySem.Spec PyProof.Rows L2 LamX NdefX

/-- a lambda's words: those of a def without a body, its expression, its defaults -/
structure LF where
  F : NF
  e : Expr
  dV : Value
abbrev LF.fd (Z : LF) (pm ctv : Value) : FuncData :=
  { PySem.W.kla_fn Z.F.name Z.F.qual Z.F.params Z.e Z.F.scope Z.F.cl pm (.ref Z.F.c) ctv with defaults := Z.dV }
/-- the object at f is that lambda -/
def LamO (f : Addr) (Z : LF) : HO :=
  .ext fun g => ∃ pm ctv : Value, g.get? f = some (({ cls := .type "function", data := .func (Z.fd pm ctv) }) : Obj)
theorem lamO_ne {f : Addr} {Z : LF} (qs : Array Value) : LamO f Z ≠ .tbl qs := fun h => nomatch h
theorem lamO_at {P : Program} {w : World} {H : Hp} {h : Heap} {f : Addr} {Z : LF} (ok : HOk P w H h) (hf : H f = some (LamO f Z)) :
    ∃ pm ctv : Value, h.get? f = some (({ cls := .type "function", data := .func (Z.fd pm ctv) }) : Obj) := by
  obtain ⟨x, _, _⟩ := ok f _ hf
  exact x
/-- nothing that was known is forgotten, but for the tables -/
structure Grows (T : List (Addr × Str)) (H H1 : Hp) : Prop where
  ext : ExtN H H1
  tab : Tabs T H → Tabs T H1
theorem Grows.rfl' {T : List (Addr × Str)} (H : Hp) : Grows T H H := ⟨ExtN.refl H, id⟩
theorem Grows.trans {T : List (Addr × Str)} {H H1 H2 : Hp} (a : Grows T H H1) (b : Grows T H1 H2) : Grows T H H2 := ⟨a.ext.trans b.ext, fun t => b.tab (a.tab t)⟩
theorem Grows.upd {T : List (Addr × Str)} {H : Hp} {p : Addr} {o : HO} (hp : H p = none) : Grows T H (L2.upd H p o) := by
  have e : ∀ b u, H b = some u → L2.upd H p o b = some u := fun b u q => (upd_ne (ne_of_none q hp)).trans q
  exact ⟨ExtN.of e, fun t => Tabs.ext t e⟩
/-- the words of a lambda that is made in X -/
abbrev mkLF (X : Cx) (params : Arguments) (body : Expr) (scope : Scope) (c' : Addr) (dV : Value) : LF :=
  ⟨⟨"<lambda>", X.env.qual ++ "<lambda>", params, [], scope, cloFrom X.env.cells scope.names [], c'⟩, body, dV⟩
section
variable {M : Model} {A : Around} {E : Value → Shared → Prop} {s : Shared}
/-- the making's end, the code object by a premise -/
theorem tail_d {name qual : Str} {params : Arguments} {body : Expr} {scope : Scope} {env : Env} {dV : Value} {pos : Pos} {fl : Nat} {clos : List (Str × Addr)} {mg : Str → Option Value} {Pl : Addr} {Q : Value → Shared → Prop}
    (hcl : closureFor scope env = pure clos) (hge : env.globals = mainGlobals)
    (h : ∀ h1 ctv, (∀ b o, s.heap.get? b = some o → h1.get? b = some o) → s.heap.objs.size ≤ h1.objs.size →
      wpAny M A (functionCode env pos fl name qual params scope (.expr body)) (fun cv s2 => s2.heap.Ns mainGlobals mg ∧ s2.heap.BuiltinsAt mg Pl ∧
        Q (.ref s2.heap.objs.size) { s2 with heap := s2.heap.push { cls := .type "function", data := .func { PySem.W.kla_fn name qual params body scope clos ((mg "__name__").getD .none) cv ctv with defaults := dV } } }) E { s with heap := h1 }) :
    wpAny M A (makeTail name qual params (.expr body) scope env dV .none none pos fl) Q E s := by
  unfold makeTail
  rw [hcl]
  refine wpAny_bind (wpAny_pure ?_)
  cases clos with
  | nil =>
    simp only [List.isEmpty_nil, if_true]
    refine wpAny_bind (wpAny_pure (wpAny_bind (wpAny_mono (h s.heap .none (fun _ _ e => e) (Nat.le_refl _)) (fun cv s2 x => ?_) fun _ _ x => x)))
    obtain ⟨g2, ⟨bm, ob, b1, b2, _, _, b5, b6, b7, b8⟩, q⟩ := x
    rw [hge]
    exact wpAny_bind (wpAny_builtinsFor g2 b1 b2 b5 b6 b7 b8 (wpAny_bind (wpAny_nsGet g2 (wpAny_bind (wpAny_pure (wpAny_newObj_type q (by size_fits)))))))
  | cons c r =>
    simp only [List.isEmpty_cons, Bool.false_eq_true, if_false]
    refine wpAny_bind (wpAny_newTextTuple (wpAny_bind (wpAny_mono (h _ (.ref s.heap.objs.size) (fun _ _ e => Heap.get?_push_of_some _ e) (by rw [Heap.size_push]; omega)) (fun cv s2 x => ?_) fun _ _ x => x)))
    obtain ⟨g2, ⟨bm, ob, b1, b2, _, _, b5, b6, b7, b8⟩, q⟩ := x
    rw [hge]
    exact wpAny_bind (wpAny_builtinsFor g2 b1 b2 b5 b6 b7 b8 (wpAny_bind (wpAny_nsGet g2 (wpAny_bind (wpAny_pure (wpAny_newObj_type q (by size_fits)))))))
end
section
variable {X : Cx} {pins : List (Addr × Obj)} {σ : L2.St} {H : Hp} {s : Shared}
theorem lamO_new {Z : LF} {tk : Nat} {pm ctv : Value} (I : Inv X pins σ H s) :
    Inv X pins σ (upd H s.heap.objs.size (LamO s.heap.objs.size Z))
      { s with heap := s.heap.push (({ cls := .type "function", data := .func (Z.fd pm ctv) }) : Obj), toks := tk } := by
  refine I.laid (fun b u e => Heap.get?_push_of_some _ e) (Nat.le_refl _) ?_
  have here : (s.heap.push (({ cls := .type "function", data := .func (Z.fd pm ctv) }) : Obj)).get? s.heap.objs.size = some (({ cls := .type "function", data := .func (Z.fd pm ctv) }) : Obj) :=
    Heap.get?_push_size _ rfl
  exact ⟨⟨pm, ctv, here⟩, ⟨_, here⟩, fun g1 g2 ⟨p, t, z⟩ st => ⟨p, t, st _ z⟩⟩

theorem lam_made {T : List (Addr × Str)} {c P : Addr} {params : Arguments} {body : Expr} {scope : Scope} {pos : Pos} {dV : Value} {E : Value → Shared → Prop} {Q : Value → Shared → Prop}
    (I : Inv X pins σ H s) (TB : TabB X.base X.mg c P) (hcode : X.env.code = .ref c)
    (hm : (P, X.env.qual ++ "<lambda>") ∈ T) (hu : ∀ p ∈ T, p.1 = P → p.2 = X.env.qual ++ "<lambda>") (hT : Tabs T H)
    (hcl : ∀ y ∈ scope.names, y.2 = .free → ∃ c, X.env.cells.lookup y.1 = some c)
    (h : ∀ (f c' : Addr) (H1 : Hp) (s' : Shared), Inv X pins σ H1 s' → Grows T H H1 → H f = none →
      H1 f = some (LamO f (mkLF X params body scope c' dV)) → H1 c' = some (CodeO c' (X.env.qual ++ "<lambda>")) → Q (.ref f) s') :
    wpAny (model X.prog X.w) X.A (makeTail "<lambda>" (X.env.qual ++ "<lambda>") params (.expr body) scope X.env dV .none none pos pos.line) Q E s := by
  obtain ⟨qs, hP, tri, among⟩ := (show TabS H P (X.env.qual ++ "<lambda>") from hT _ hm)
  refine tail_d (mg := X.mg) (Pl := P) (closure_ok hcl) I.ok.glob fun h1 ctv k1 z1 => ?_
  have I1 : Inv X pins σ H { s with heap := h1 } := I.kept (t' := s.toks) k1
  have hgP : h1.get? P = some { cls := .none, data := .fields qs } := I1.hok P _ hP
  have hbP := TB.bm.keeps I1.bk
  have CH := TB.code.keeps I1.bk
  cases hit : codeAmong pos qs.toList with
  | some cv =>
    obtain ⟨c', rfl, kc⟩ := among pos cv hit
    refine wpAny_functionCode_hit hcode (CH.code hgP tri) hit ⟨I1.mod.glob.keeps I1.bk, hbP, ?_⟩
    have nF : H h1.objs.size = none := I1.hok.fresh (Nat.le_refl _)
    exact h h1.objs.size c' _ _ (lamO_new (Z := mkLF X params body scope c' dV) (pm := (X.mg "__name__").getD .none) (ctv := ctv) (tk := s.toks) I1) (Grows.upd nF) nF upd_same
      ((upd_ne (ne_of_none kc nF)).trans kc)
  | none =>
    refine wpAny_functionCodeX hcode (CH.code hgP tri) (CH.tab hgP) hit fun c' h' tk hx hge hlt _ hrec htb _ => ?_
    have gl := (I1.mod.glob.keeps I1.bk).extBut hx TB.gP
    have bl : h'.BuiltinsAt X.mg P := by
      obtain ⟨bm, ob, b1, b2, b3, b4, b5, b6⟩ := hbP
      exact ⟨bm, ob, b1, b2, b3, b4, hx _ _ b4 b5, b6⟩
    refine ⟨gl, bl, ?_⟩
    obtain ⟨c2, oc, vs, t, e2, hoc, hd, hv⟩ := hrec
    cases e2
    have nC : H c' = none := I1.hok.fresh hge
    have J := inv_table (q := X.env.qual ++ "<lambda>") (t' := tk) (more := #[rawInt pos.line, rawInt pos.col, .ref c']) (h' := h') I1 hP (fun b o hb e => hx b o hb e) htb.2 hge ⟨oc, vs, t, hoc, hd, hv⟩
    generalize hH2 : L2.upd (L2.upd H P (.tbl (qs ++ #[rawInt pos.line, rawInt pos.col, .ref c']))) c' (CodeO c' (X.env.qual ++ "<lambda>")) = H2 at J
    have kC : H2 c' = some (CodeO c' (X.env.qual ++ "<lambda>")) := by rw [← hH2]; exact upd_same
    have ext : ExtN H H2 := fun b o e n => by
      have nP : b ≠ P := by
        rintro rfl
        exact n qs (Option.some.inj (e.symm.trans hP))
      rw [← hH2, upd_ne (ne_of_none e nC), upd_ne nP]
      exact e
    have eL : (qs ++ #[rawInt pos.line, rawInt pos.col, .ref c']).toList = qs.toList ++ [rawInt pos.line, rawInt pos.col, .ref c'] := by simp
    have tabs2 : Tabs T H2 := by
      intro p hp
      by_cases hb : p.1 = P
      · rw [hu p hp hb, hb]
        refine ⟨qs ++ #[rawInt pos.line, rawInt pos.col, .ref c'], ?_, ?_, ?_⟩
        · rw [← hH2, upd_ne (ne_of_none hP nC), upd_same]
        · rw [eL]
          exact PySem.TriplesOk_snoc _ _ _ _ tri
        · intro p' cv hcv
          rw [eL] at hcv
          rcases among_app _ tri hcv with z | z
          · obtain ⟨c0, f1, f2⟩ := among p' cv z
            exact ⟨c0, f1, ext _ _ f2 codeO_ne⟩
          · exact ⟨c', z, kC⟩
      · obtain ⟨qs', q1, q2, q3⟩ := hT p hp
        refine ⟨qs', ?_, q2, ?_⟩
        · rw [← hH2, upd_ne (ne_of_none q1 nC), upd_ne hb]
          exact q1
        · intro p' cv hcv
          obtain ⟨c0, f1, f2⟩ := q3 p' cv hcv
          exact ⟨c0, f1, ext _ _ f2 codeO_ne⟩
    have nF : H2 h'.objs.size = none := J.hok.fresh (Nat.le_refl _)
    have g2 : Grows T H2 (L2.upd H2 h'.objs.size (LamO h'.objs.size (mkLF X params body scope c' dV))) := Grows.upd nF
    exact h h'.objs.size c' _ _ (lamO_new (Z := mkLF X params body scope c' dV) (pm := (X.mg "__name__").getD .none) (ctv := ctv) (tk := tk) J) (Grows.trans ⟨ext, fun _ => tabs2⟩ g2)
      (I1.hok.fresh (Nat.le_trans hge (Nat.le_of_lt hlt))) upd_same (g2.ext _ _ kC codeO_ne)
end

/-! ### calls -/
section
variable {CX : CXT} {P : Program} {w : World} {K : PySem.W.Frag} {mg : Str → Option Value} {base : Heap} {N ps fr : List Str} {Z : LF} {f : Addr} {k : Nat}
/-- the body's context, at its entry -/
abbrev lcx (CX : CXT) (P : Program) (w : World) (K : PySem.W.Frag) (mg : Str → Option Value) (base : Heap) (N : List Str) (Z : LF) (f : Addr) (A : Around) (outer : List Env) (s : Shared) (H : Hp) (E : XK) : Cx :=
  ncx CX P w K mg base N Z.F f A outer s H E
theorem lam_call {A : Around} {outer : List Env} {s : Shared} {H : Hp} {args : Args} {us : List Value} {vs : List V} {ws : List (Option V)} {Q : VK} {E : XK} {t : TE} {pm ctv : Value}
    (S : NScope N ps fr Z.F.scope) (hr : Room (k + 1) A) (e0 : Env0 P w K mg base A outer s H)
    (ho : s.heap.get? f = some (({ cls := .type "function", data := .func (Z.fd pm ctv) }) : Obj)) (hcr : s.heap.CodeRec (.ref Z.F.c) Z.F.qual)
    (hb : BindsTo s (Z.fd pm ctv) args (ps.zip us)) (hl : vs.length = ps.length) (C : CellsAt Z.F.cl fr ws s.heap H) (r : Vals vs us)
    (hbody : Room k (A.deeper (envF Z.F f s.heap.objs.size)) → PE (lcx CX P w K mg base N Z f A outer s H E) Z.e t) (hq : t (startF N vs ws) H Q) :
    codeAny (model P w) A (.call (.ref f) args) (CR CX outer P w H s Q E) s := by
  have nolim : s.heap.NoLimit := e0.mod.nolimit.keeps fun b o e => (e0.bs b o e).1
  refine PySem.W.kla_callFunE hr.depth ho rfl S.co S.gen rfl hcr ?_
  refine hb _ _ _ _ ?_
  refine wpAny_newFunctionEnv S.nocell (fun ⟨n, _⟩ hy => S.par n (List.of_mem_zip hy).1) (fun h₁ hns hsb => ⟨nolim.fresh _ hsb, ?_⟩) S.kind
  show codeAny _ _ (.expr Z.e (envF Z.F f s.heap.objs.size)) _ _
  have kp : ∀ b o, s.heap.get? b = some o → h₁.get? b = some o :=
    fun b o e => hsb.extBut b o (Nat.ne_of_lt (Heap.lt_size e)) (Heap.get?_push_of_some _ e)
  have J : Inv (lcx CX P w K mg base N Z f A outer s H E) [] (startF N vs ws) H { s with heap := h₁, toks := s.toks + (ps.zip us).length } :=
    inv_startN S hr.hd e0 hl r C hns kp
  refine PySem.W.kla_codeExpr (wpAny_mono ((hbody (hr.deeper _)).run [] _ _ H Q J hq) (fun v s' hh => ?_) fun e s' hh => hh)
  obtain ⟨v', H', J', rv, q⟩ := hh
  exact ⟨v', H', J'.os, J'.bare, J'.base, J'.hok, rv, q⟩
/-- what the heap knows of a lambda at f -/
structure LamAt (H : Hp) (f : Addr) (Z : LF) : Prop where
  o : H f = some (LamO f Z)
  c : H Z.F.c = some (CodeO Z.F.c Z.F.qual)
  d : ∀ T : Addr, Z.dV = .ref T → ∃ xs, H T = some (.tup xs) ∧ xs = [.int 0]
theorem LamAt.ext {H H1 : Hp} (a : LamAt H f Z) (e : ExtN H H1) : LamAt H1 f Z :=
  ⟨e _ _ a.o lamO_ne, e _ _ a.c codeO_ne, fun T h => (a.d T h).elim fun xs q => ⟨xs, e _ _ q.1 (fun ps z => nomatch z), q.2⟩⟩
abbrev SpL := List (Option V) → Hp → VK → XK → Prop
/-- f may be called without arguments; cl, fr: its captured cells; sp: by what they hold -/
def Act (P : Program) (w : World) (K : PySem.W.Frag) (mg : Str → Option Value) (base : Heap) (CX : CXT) (k : Nat) (cl : List (Str × Addr)) (fr : List Str) (sp : SpL) (f : Addr) (H : Hp) : Prop :=
  ∃ Z : LF, Z.F.cl = cl ∧ LamAt H f Z ∧ ∀ (A : Around) (outer : List Env) (s : Shared) (H' : Hp) (ws : List (Option V)) (Q : VK) (E : XK), Room k A → Env0 P w K mg base A outer s H' → LamAt H' f Z →
    CellsAt cl fr ws s.heap H' → sp ws H' Q E → codeAny (model P w) A (.call (.ref f) ⟨[], []⟩) (CR CX outer P w H' s Q E) s
theorem Act.ext {cl : List (Str × Addr)} {sp : SpL} {H H1 : Hp} (a : Act P w K mg base CX k cl fr sp f H) (e : ExtN H H1) : Act P w K mg base CX k cl fr sp f H1 := by
  obtain ⟨Z, h1, h2, h3⟩ := a
  exact ⟨Z, h1, h2.ext e, h3⟩
theorem Act.mono {cl : List (Str × Addr)} {sp sp' : SpL} {H : Hp} {k' : Nat} (a : Act P w K mg base CX k cl fr sp f H) (h : k ≤ k') (i : ∀ ws H Q E, sp' ws H Q E → sp ws H Q E) : Act P w K mg base CX k' cl fr sp' f H := by
  obtain ⟨Z, h1, h2, h3⟩ := a
  exact ⟨Z, h1, h2, fun A outer s H' ws Q E hr e0 l c q => h3 A outer s H' ws Q E (hr.mono h) e0 l c (i _ _ _ _ q)⟩
/-- a lambda without parameters -/
theorem act0 {sp : SpL} {H : Hp} (l : LamAt H f Z) (S : NScope N [] fr Z.F.scope) (hb : ∀ pm ctv : Value, bindArgs (Z.fd pm ctv) ⟨[], []⟩ = pure [])
    (hbody : ∀ (A : Around) (outer : List Env) (s : Shared) (H : Hp) (ws : List (Option V)) (Q : VK) (E : XK), Room k (A.deeper (envF Z.F f s.heap.objs.size)) → ws.length = fr.length → sp ws H Q E →
      ∃ t, PE (lcx CX P w K mg base N Z f A outer s H E) Z.e t ∧ t (startF N [] ws) H Q) : Act P w K mg base CX (k + 1) Z.F.cl fr sp f H := by
  refine ⟨Z, rfl, l, fun A outer s H' ws Q E hr e0 l' C h => ?_⟩
  obtain ⟨pm, ctv, ho⟩ := lamO_at e0.hok l'.o
  obtain ⟨t, ht, hq⟩ := hbody A outer s H' ws Q E (hr.deeper _) C.len h
  exact lam_call (ps := []) (us := []) S hr e0 ho (codeO_at e0.hok l'.c) (.of_eq (hb pm ctv)) rfl C .nil (fun _ => ht) hq
/-- .. of one parameter, whose default is 0 -/
theorem act1 {x : Str} {T : Addr} {sp : SpL} {H : Hp} (l : LamAt H f Z) (hT : Z.dV = .ref T) (S : NScope N [x] fr Z.F.scope)
    (hb : ∀ (pm ctv u : Value), ∃ kk, bindArgs (Z.fd pm ctv) ⟨[], []⟩ = seqItems? Z.dV >>= kk ∧ kk (some #[u]) = pure [(x, u)])
    (hbody : ∀ (A : Around) (outer : List Env) (s : Shared) (H : Hp) (ws : List (Option V)) (Q : VK) (E : XK), Room k (A.deeper (envF Z.F f s.heap.objs.size)) → ws.length = fr.length → sp ws H Q E →
      ∃ t, PE (lcx CX P w K mg base N Z f A outer s H E) Z.e t ∧ t (startF N [.int 0] ws) H Q) : Act P w K mg base CX (k + 1) Z.F.cl fr sp f H := by
  refine ⟨Z, rfl, l, fun A outer s H' ws Q E hr e0 l' C h => ?_⟩
  obtain ⟨pm, ctv, ho⟩ := lamO_at e0.hok l'.o
  obtain ⟨xs, hx, rfl⟩ := l'.d T hT
  obtain ⟨_, its, rv, ht1⟩ := e0.hok T _ hx
  cases rv with
  | @cons _ u _ _ ru rn =>
  cases rn
  obtain ⟨t, ht, hq⟩ := hbody A outer s H' ws Q E (hr.deeper _) C.len h
  obtain ⟨kk, b1, b2⟩ := hb pm ctv u
  obtain ⟨oT, g1, _, n, g3⟩ := ht1
  refine lam_call (ps := [x]) (us := [u]) S hr e0 ho (codeO_at e0.hok l'.c) ?_ rfl C (.cons ru .nil) (fun _ => ht) hq
  exact BindsTo.of_defaults (fd := Z.fd pm ctv) (k := kk) hT g1 g3 b1 b2
end

/-! ### the rules: a lambda as a value -/
section
variable {X : Cx} {T : List (Addr × Str)} {c P : Addr} {params : Arguments} {body : Expr} {scope : Scope} {pos : Pos}
/-- the new lambda stands at f; mk: its words by its code object and its defaults -/
def tLamO (T : List (Addr × Str)) (mk : Addr → Value → LF) : TE := fun σ H Q => Tabs T H ∧ ∀ (f c' : Addr) (H1 : Hp), Grows T H H1 → H f = none → LamAt H1 f (mk c' .none) → Q (.ref f) H1
def tLamD (T : List (Addr × Str)) (mk : Addr → Value → LF) : TE := fun σ H Q => Tabs T H ∧ ∀ (f c' t : Addr) (H1 : Hp), Grows T H H1 → H f = none → LamAt H1 f (mk c' (.ref t)) → Q (.ref f) H1
theorem pe_lam (TB : TabB X.base X.mg c P) (hcode : X.env.code = .ref c)
    (hm : (P, X.env.qual ++ "<lambda>") ∈ T) (hu : ∀ p ∈ T, p.1 = P → p.2 = X.env.qual ++ "<lambda>")
    (hfree : ∀ y ∈ scope.names, y.2 = .free → X.env.scope.names.lookup y.1 = some .cell ∨ X.env.scope.names.lookup y.1 = some .free) (hdef : defaultsOf params X.env = ([], []) := by exact rfl) :
    PE X (.Lambda params body scope pos) (tLamO T (mkLF X params body scope)) := by
  refine ⟨fun pins s σ H Q I ⟨hT, h⟩ => PySem.W.kla_eval hdef ?_⟩
  rw [makeFunction_eq]
  simp only [List.zip_nil_right, List.filterMap_nil, List.isEmpty_nil, if_true, pure_bind]
  refine lam_made I TB hcode hm hu hT (fun y hy e => I.ok.has _ (hfree y hy e)) fun f c' H1 s' I1 g n1 e1 e2 => ?_
  exact ⟨.ref f, H1, I1, rfl, h f c' H1 g n1 ⟨e1, e2, fun t z => nomatch z⟩⟩
/-- a default that is an int: 0 -/
theorem pe_lamD {d : Expr} (TB : TabB X.base X.mg c P) (hcode : X.env.code = .ref c)
    (hm : (P, X.env.qual ++ "<lambda>") ∈ T) (hu : ∀ p ∈ T, p.1 = P → p.2 = X.env.qual ++ "<lambda>")
    (hfree : ∀ y ∈ scope.names, y.2 = .free → X.env.scope.names.lookup y.1 = some .cell ∨ X.env.scope.names.lookup y.1 = some .free)
    (hd : PE X d (tC (.int 0))) (hdef : defaultsOf params X.env = ([eval d X.env], []) := by exact rfl) :
    PE X (.Lambda params body scope pos) (tLamD T (mkLF X params body scope)) := by
  refine ⟨fun pins s σ H Q I ⟨hT, h⟩ => ?_⟩
  rw [arm_eval_Lambda, hdef]
  show wpAny _ X.A (do
    let dv ← evalAll [eval d X.env]
    let kdv ← holding dv (evalAllOpt [])
    makeFunction "<lambda>" (X.env.qual ++ "<lambda>") params (.expr body) scope X.env dv kdv [] pos pos.line) _ _ s
  refine wpAny_bind ?_
  show wpAny _ X.A (eval d X.env >>= fun v => _) _ _ s
  refine wpAny_bind (thn (hd.run pins s σ H (fun v H1 => v = .int 0 ∧ H1 = H) I ⟨rfl, rfl⟩) fun v s1 x => ?_)
  obtain ⟨v0, H1, I1, rv, rfl, rfl⟩ := x
  refine wpAny_bind (wpAny_holding (wpAny_pure (wpAny_pure ?_)))
  refine wpAny_bind (wpAny_holding (wpAny_pure ?_))
  rw [makeFunction_eq]
  simp only [List.zip_nil_right, List.filterMap_nil, List.isEmpty_nil, List.isEmpty_cons, Bool.false_eq_true, if_true, if_false, pure_bind]
  refine wpAny_bind (wpAny_newTextTuple ?_)
  have nT : H1 s1.heap.objs.size = none := I1.hok.fresh (Nat.le_refl _)
  have I2 : Inv X pins σ (upd H1 s1.heap.objs.size (.tup [.int 0])) { s1 with heap := s1.heap.push { cls := .type "tuple", data := .seq [v].toArray } } :=
    I1.laid (t' := s1.toks) (fun b o e => Heap.get?_push_of_some _ e) (Nat.le_refl _) ⟨by decide, [v], .cons rv .nil, _, Heap.get?_push_size _ rfl, rfl, 0, rfl⟩
  have G2 : Grows T H1 (upd H1 s1.heap.objs.size (.tup [.int 0])) := Grows.upd nT
  refine lam_made I2 TB hcode hm hu (G2.tab hT) (fun y hy e => I2.ok.has _ (hfree y hy e)) fun f c' H3 s' I3 g n1 e1 e2 => ?_
  have tT : H3 s1.heap.objs.size = some (.tup [.int 0]) := g.ext _ _ upd_same fun ps z => nomatch z
  have nf : H1 f = none := by
    by_cases z : f = s1.heap.objs.size
    · rw [z]
      exact nT
    · rw [upd_ne z] at n1
      exact n1
  exact ⟨.ref f, H3, I3, rfl, h f c' s1.heap.objs.size H3 (G2.trans g) nf ⟨e1, e2, fun t z => by cases z; exact ⟨_, tT, rfl⟩⟩⟩
end
end Sho
set_option Elab.async false
set_option linter.all false
set_option maxRecDepth 100000
set_option maxHeartbeats 2000000
/-! A try whose clauses may each bind the exception or not. -/
namespace Sho
open PySem PySem.Spec PyProof.Rows L2
/-- a clause: the class, the slot of its name (if it has one), its suite's reading -/
structure Clause where
  c : Value
  i : Option Nat
  ts : Addr → Value → Option Addr → TS
def setO (σ : L2.St) : Option Nat → Option V → L2.St
  | none, _ => σ
  | some i, v => σ.set i v
/-- a suite's ends: the clause's name is gone -/
def endsO (D : Ends) (i : Option Nat) : Ends :=
  { nx := fun σ H => D.nx (setO σ i none) H, rt := D.rt, bk := fun σ H => D.bk (setO σ i none) H, ct := fun σ H => D.ct (setO σ i none) H }
def wClauses (K : PySem.W.Frag) (Wout : WX) (D : Ends) : List Clause → WX
  | [] => Wout
  | C :: r => fun cls d σ H => ∃ b, PySem.W.exmOne K cls C.c = some b ∧
    (b = true → ∀ a, H a = none → C.ts a cls d (endsO D C.i) (setO σ C.i (some (.ref a))) H) ∧ (b = false → wClauses K Wout D r cls d σ H)
def Bound (X : Cx) : Option Str → Option Nat → Prop
  | none, none => True
  | some n, some i => X.N[i]? = some n ∧ X.env.kindOf n = some .local
  | _, _ => False
inductive ClausesOk (X : Cx) : List ExceptHandler → List Clause → Prop
  | nil : ClausesOk X [] []
  | cons {x : Str} {n : Option Str} {C : Clause} {b₀ : Stmt} {suite : List Stmt} {np hp : Pos} {hds : List ExceptHandler} {l : List Clause} (hc : Names X x C.c) (hn : Bound X n C.i)
      (body : ∀ (a : Addr) (oe : Obj) (cls : Value) (d : Option Addr) (pn : List (Addr × Obj)), Zc cls d oe → (∃ vs, oe.data = .fields vs) → PSs (X.suite a ((a, oe) :: pn)) (b₀ :: suite) (C.ts a cls d))
      (rest : ClausesOk X hds l) : ClausesOk X (.ExceptHandler (some (.Name x np)) n (b₀ :: suite) hp :: hds) (C :: l)
/-- an exception that X's frame has caught, in the state s -/
structure Caught (X : Cx) (pins : List (Addr × Obj)) (σ : L2.St) (H : Hp) (B : Heap) (a : Addr) (cls : Value) (d : Option Addr) (s : Shared) : Prop where
  fly : HandSPX.FlyingZ B (X.env :: X.outer) a (Zc cls d) s.heap
  back : ∀ h, HandSPX.FlyingZ B (X.env :: X.outer) a (Zc cls d) h → s.heap.UpToSlots h → Inv X pins σ H { s with heap := h }
  on : ∀ h (W : WX), HandSPX.HeldZ B (X.env :: X.outer) a (Zc cls d) X.env.locals h → s.heap.UpToSlots h → W cls d σ H → XE X W (.ref a) { s with heap := h }
  free : H a = none
section
variable {X : Cx} {pins : List (Addr × Obj)} {σ : L2.St} {H : Hp} {B : Heap} {a : Addr} {cls : Value} {d : Option Addr} {s : Shared}
theorem Caught.inv (c : Caught X pins σ H B a cls d s) : Inv X pins σ H s := c.back s.heap c.fly (.refl _)
theorem Caught.apart (c : Caught X pins σ H B a cls d s) (hf : X.env.frame = some X.env.locals) : a ≠ X.env.locals ∧ a ∉ X.fs := by
  obtain ⟨oe, vs, he, _, hd⟩ := c.fly.there
  have out : a ∉ frs (X.env :: X.outer) := fun hm => by
    obtain ⟨_, o, e, nf⟩ := c.fly.2.2.1.mem hm
    rw [he] at e
    cases e
    exact nf _ hd
  refine ⟨fun z => out (List.mem_filterMap.mpr ⟨X.env, .head _, hf.trans (congrArg some z.symm)⟩), fun hm => ?_⟩
  obtain ⟨e, he2, q⟩ := List.mem_filterMap.mp hm
  exact out (List.mem_filterMap.mpr ⟨e, .tail _ he2, q⟩)
theorem caught_of {xe : Value → Shared → Prop} {W : WX} {u : Value} {Q : Shared → Prop} {E : Value → Shared → Prop} (hs : X.stack = X.env :: X.outer) (hf : X.env.frame = some X.env.locals) (ok : X.Ok)
    (x : XE (X.tr (X.pn ++ pins) xe) W u s)
    (h : ∀ a B σ H cls d h3, u = .ref a → Caught X pins σ H B a cls d { s with heap := h3 } → W cls d σ H → Q { s with heap := h3 }) :
    wpAny (model X.prog X.w) X.A (noteFrame u X.env) (fun _ s2 => wpAny (model X.prog X.w) X.A (setFlight u none) (fun _ s3 => Q s3) E s2) E s := by
  obtain ⟨a, B, s0, pins', σ1, H1, cls, d, rfl, J1, ground, up, sky, na, os, ag, w⟩ := x
  have J : Inv X pins σ1 H1 s0 := J1.ofTry ok
  have sky2 : Sky B (X.env :: X.outer) a (Zc cls d) X.env.locals s.heap := hs ▸ sky
  refine Sky.land Zc.steady (ok.frames.trans (congrArg some hs)) hf sky2 fun h3 fly up3 => ?_
  refine h a B σ1 H1 cls d h3 rfl ⟨fly, fun g fg ug => J.landed ground fg.1 (up.trans (up3.trans ug)) os ag, fun g W2 hg ug w2 => ?_, na⟩ w
  exact ⟨a, B, s0, pins, σ1, H1, cls, d, rfl, J, ground, up.trans (up3.trans ug), .inr (.inr (by rw [hs]; exact hg)), na, os, ag, w2⟩

theorem clauses_run {Wout : WX} {D : Ends} (hs : X.stack = X.env :: X.outer) (hf : X.env.frame = some X.env.locals) (hN : X.N.Nodup) (tk : Takes X Wout) (c : Caught X pins σ H B a cls d s)
    {hds : List ExceptHandler} {l : List Clause} (hk : ClausesOk X hds l) : wClauses X.K Wout D l cls d σ H →
    wpAny (model X.prog X.w) X.A (handleBy (.ref a) X.env hds) (SP X pins D) X.xe s := by
  have ok := c.inv.ok
  induction hk with
  | nil =>
    intro w
    refine wpAny_handleBy_nil ?_
    obtain ⟨_, _, _, oe, vs, T, oT, ts', he, hz, hd, h1, _⟩ := id c.fly
    unfold PySem.passOn
    refine wpAny_bind (wpAny_field he hd h1 ?_)
    rw [if_neg (show ¬ ((Value.ref T == Value.none) = true) by simp)]
    have up : wpAny (model X.prog X.w) X.A (setFlight (.ref a) X.env.frame) (fun _ s4 => wpAny (model X.prog X.w) X.A (throw (.ref a) : Sem PySem.Flow) (SP X pins D) X.xe s4) X.xe s := by
      rw [hf]
      exact HandSPX.setFlight_upZ c.fly fun g hg ug => wpAny_throw (tk _ _ (c.on g Wout hg ug w))
    first
      | exact wpAny_bind (wpAny_pure (wpAny_bind up))
      | exact wpAny_bind up
  | @cons x n C b₀ suite np hp hds2 l2 hc hn body rest ih =>
    intro w
    obtain ⟨b, hb, yes, no⟩ := w
    obtain ⟨oe, vs, he, hz, hd⟩ := c.fly.there
    obtain ⟨nL, nF⟩ := c.apart hf
    have I := c.inv
    have IS := I.suite he hd c.free nL nF
    refine wpAny_handleBy_cons (codeAny_handlers_test ?_) (by intro q; cases q)
    have lt : PySem.W.Looks (model X.prog X.w) s.heap (typeOf (.ref a)) cls := fun A Q E s k q => wpAny_typeOf_ref (k _ _ he) (by rw [hz.1]; exact q)
    have lm := PySem.W.exm_one (M := model X.prog X.w) I.kIn lt hb
    have named : ∀ {Q : Value → Shared → Prop} {E : Value → Shared → Prop}, Q C.c s → wpAny (model X.prog X.w) (X.A.mark (some (.ref a))) (eval (.Name x np) X.env) Q E s := fun {Q E} q => by
      obtain ⟨g1, g2, g3⟩ := hc
      rcases g3 with g3 | ⟨g3, g4, g5⟩
      · exact ld_glob (X := X.suite a ((a, oe) :: (X.pn ++ pins))) IS g1 g3 q g2
      · exact ld_blt (X := X.suite a ((a, oe) :: (X.pn ++ pins))) IS g1 g3 g4 q g5 g2
    refine named (lm.here ?_)
    cases b with
    | false => exact ih (no rfl)
    | true =>
      have go : ∀ g, HandSPX.FlyingZ B (X.env :: X.outer) a (Zc cls d) g → s.heap.UpToSlots g → ∃ oe4 vs4, Zc cls d oe4 ∧ oe4.data = .fields vs4 ∧ Inv (X.suite a ((a, oe4) :: (X.pn ++ pins))) [] σ H { s with heap := g } := fun g fg ug => by
        obtain ⟨oe4, vs4, he4, hz4, hd4⟩ := fg.there
        exact ⟨oe4, vs4, hz4, hd4, (c.back g fg ug).suite he4 hd4 c.free nL nF⟩
      cases n with
      | none =>
        match hi : C.i with
        | some i =>
          rw [hi] at hn
          exact hn.elim
        | none =>
          rw [hi] at yes
          refine codeAny_handlers_suite ?_
          refine HandSPX.lands_againZ c.fly fun g fg ug => ?_
          obtain ⟨oe4, vs4, hz4, hd4, I4⟩ := go g fg ug
          refine wpAny_mono ((body a oe4 cls d (X.pn ++ pins) hz4 ⟨_, hd4⟩).run [] _ _ H _ I4 (yes rfl a c.free)) (fun f s6 r => ?_) fun _ _ z => False.elim z
          cases f with
          | ret u =>
            obtain ⟨v6, σ6, H6, I6, r6, q6⟩ := r
            exact ⟨v6, σ6, H6, I6.unsuite ok, r6, q6⟩
          | next => obtain ⟨σ6, H6, I6, q6⟩ := r; exact ⟨σ6, H6, I6.unsuite ok, q6⟩
          | brk => obtain ⟨σ6, H6, I6, q6⟩ := r; exact ⟨σ6, H6, I6.unsuite ok, q6⟩
          | cont => obtain ⟨σ6, H6, I6, q6⟩ := r; exact ⟨σ6, H6, I6.unsuite ok, q6⟩
      | some n =>
        match hi : C.i with
        | none =>
          rw [hi] at hn
          exact hn.elim
        | some i =>
          rw [hi] at hn yes
          obtain ⟨hni, hln⟩ := hn
          refine codeAny_handlers_suite_as ?_
          refine HandSPX.lands_againZ c.fly fun g fg ug => ?_
          obtain ⟨oe4, vs4, hz4, hd4, I4⟩ := go g fg ug
          refine store_ok (X := X.suite a ((a, oe4) :: (X.pn ++ pins))) (v := .ref a) I4 hN hni (.inl hln) rfl (fun s5 I5 => ?_) (.inr hln)
          refine wpAny_mono ((body a oe4 cls d (X.pn ++ pins) hz4 ⟨_, hd4⟩).run [] s5 _ H _ I5 (yes rfl a c.free)) (fun f s6 r => ?_) fun _ _ z => False.elim z
          have gone : ∀ {σ6 : L2.St} {H6 : Hp} {Q : Shared → Prop}, Inv (X.suite a ((a, oe4) :: (X.pn ++ pins))) [] σ6 H6 s6 → (∀ s7, Inv X pins (σ6.set i none) H6 s7 → Q s7) →
              wpAny (model X.prog X.w) X.A (do bindName X.env n .none; unbindBehindTheSuite X.env n hp) (fun _ s7 => Q s7) X.xe s6 := fun {σ6 H6 Q} I6 k => gone_ok (I6.unsuite ok) hN hni hln k
          cases f with
          | ret u =>
            obtain ⟨v6, σ6, H6, I6, r6, q6⟩ := r
            exact gone I6 fun s7 I7 => ⟨v6, _, H6, I7, r6, q6⟩
          | next => obtain ⟨σ6, H6, I6, q6⟩ := r; exact gone I6 fun s7 I7 => ⟨_, H6, I7, q6⟩
          | brk => obtain ⟨σ6, H6, I6, q6⟩ := r; exact gone I6 fun s7 I7 => ⟨_, H6, I7, q6⟩
          | cont => obtain ⟨σ6, H6, I6, q6⟩ := r; exact gone I6 fun s7 I7 => ⟨_, H6, I7, q6⟩
end
section
variable {X : Cx} {body : List Stmt} {h₀ : ExceptHandler} {hds : List ExceptHandler} {l : List Clause} {pos : Pos} {tb : WX → TS} {Wout : WX}
/-- try: body / except A as e: .. / except B: .. -/
theorem ps_try (hs : X.stack = X.env :: X.outer) (hf : X.env.frame = some X.env.locals) (hN : X.N.Nodup) (tk : Takes X Wout)
    (hb : ∀ (W : WX) (pn : List (Addr × Obj)) (xe : Value → Shared → Prop), Takes (X.tr pn xe) W → PassesOwn (model X.prog X.w) X.A X.env xe → PSs (X.tr pn xe) body (tb W))
    (hk : ClausesOk X (h₀ :: hds) l) : PS X (.Try body (h₀ :: hds) [] [] pos) (fun D σ H => tb (wClauses X.K Wout D l) D σ H) := by
  refine ⟨fun pins s σ H D I h => wpAny_Try_except ?_⟩
  have ok := I.ok
  refine wpAny_mono ((hb (wClauses X.K Wout D l) (X.pn ++ pins) (fun e s₁ => wpAny (model X.prog X.w) X.A (noteFrame e X.env)
    (fun _ s₂ => wpAny (model X.prog X.w) X.A (setFlight e none) (fun _ s₃ => wpAny (model X.prog X.w) X.A (handleBy e X.env (h₀ :: hds)) (SP X pins D) X.xe s₃) X.xe s₂) X.xe s₁)
    (fun u s' x => ?_) PassesOwn.looking).run [] s σ H D (I.toTry _) h) (fun f s1 r => ?_) fun _ _ z => z
  · refine caught_of hs hf ok x fun a B σ1 H1 cls d h3 e c w => ?_
    subst e
    exact clauses_run hs hf hN tk c hk w
  · cases f with
    | ret u =>
      obtain ⟨v6, σ6, H6, I6, r6, q6⟩ := r
      exact ⟨v6, σ6, H6, I6.ofTry ok, r6, q6⟩
    | next => obtain ⟨σ6, H6, I6, q6⟩ := r; exact wpAny_execs_nil ⟨σ6, H6, I6.ofTry ok, q6⟩
    | brk => obtain ⟨σ6, H6, I6, q6⟩ := r; exact ⟨σ6, H6, I6.ofTry ok, q6⟩
    | cont => obtain ⟨σ6, H6, I6, q6⟩ := r; exact ⟨σ6, H6, I6.ofTry ok, q6⟩
end
end Sho
set_option Elab.async false
set_option linter.all false
set_option maxRecDepth 100000
set_option maxHeartbeats 2000000
/-! A list comprehension whose element may rest on what the block's start knows of the heap itself. -/
namespace Sho
open PySem PySem.Spec PyProof.Rows L2
section
variable {X : Cx} {scope : Scope} {fp : List Addr} {own : List (Str × Nat)}
/-- the block's environment, made at s -/
abbrev blkEnv (X : Cx) (scope : Scope) (s : Shared) : Env := compEnvC scope (cellsFrom (s.heap.objs.size + 1) scope.names (cloFrom X.env.cells scope.names [])) s.heap.objs.size X.env
abbrev blkS (scope : Scope) (s : Shared) : Shared := { s with heap := pushCells (s.heap.push { cls := .type "dict", data := .dict #[] }) scope.names }
/-- out of the block: its state is one of the def's -/
theorem blk_out {pins : List (Addr × Obj)} {σ σ' : L2.St} {H H' : Hp} {s s' : Shared} (I : Inv X pins σ H s) (hfp : ∀ b ∈ fp, FpOk X pins H b)
    (J : Inv (X.blk s H scope (blkEnv X scope s) fp) [] σ' H' s') : Inv X pins σ H' s' ∧ ∃ m, s'.heap.Ns s.heap.objs.size m ∧ FpOk X pins H' s.heap.objs.size := by
  obtain ⟨m, hm, _⟩ := J.loc
  refine ⟨I.call' (ch := fp) J.os J.base J.hok J.bare fun b hb => ?_, m, hm, I.fpOk (Nat.le_refl _) J.free⟩
  obtain ⟨_, z1, z2, z3, z4, z5⟩ := hfp b hb
  exact ⟨z3, z1, z4, z5⟩
/-- a tracked list that grows -/
theorem grow {pins : List (Addr × Obj)} {σ : L2.St} {H : Hp} {s : Shared} (I : Inv X pins σ H s) :
    Inv X pins σ (upd H s.heap.objs.size (.lst [])) { s with heap := s.heap.push { cls := .type "list", data := .seq ([] : List Value).toArray } } :=
  I.laid (t' := s.toks) (fun b o e => Heap.get?_push_of_some _ e) (Nat.le_refl _) ⟨Nat.zero_le _, [], 0, .nil, Heap.get?_push_size _ rfl⟩

/-- the block's loop, by the readings of its target, tests and element -/
theorem lc_loop {B : Cx} {R : Result → Shared → Prop} {elt tg iter : Expr} {ifs : List Expr} {pos : Pos} {g : TG} {tt : TT} {te : TE} {J : It} {it D : Addr} {tn : Nat → Heap → Prop} {W : Nat → Nat → Hp → Prop} {σ : L2.St} {vs : List Nat}
    (hc : B.calm = true) (hxe : B.xe = fun _ _ => False) (T : Turn B.prog B.w B.K tg J fp it tn) (pg : PG B tg g) (pt : PTs B ifs tt) (pe : PE B elt te)
    (fpok : ∀ (pins : List (Addr × Obj)) (τ : L2.St) (H : Hp) (s : Shared), Inv B [] τ H s → (∀ b ∈ fp, H b = none) → ∀ b ∈ fp, FpOk B [] H b)
    (turn : ∀ (i m : Nat) (H : Hp), W i m H → (J.stop i H ∧ ∀ s, Inv B [] σ H s → R (.ok .next) s) ∨
      (J.go i H ∧ ∃ Nx : Hp → Prop, (∀ H', Nx H' → ∃ m', m' < m ∧ W (i + 1) m' H') ∧ ∀ x H', J.yld i H x H' → g x σ H' fun σ2 H2 => wipe σ2 vs = σ ∧ tt σ2 H2 fun b H3 =>
        if b = true then te σ2 H3 fun y H4 => ∃ acc, H4 D = some (.lst acc) ∧ acc.length < sizeLine ∧ Nx (upd H4 D (.lst (acc ++ [y]))) else Nx H3))
    {m : Nat} {H : Hp} {s : Shared} (I : Inv B [] σ H s) (st : tn 0 s.heap) (hn : ∀ b ∈ fp, H b = none) (w : W 0 m H) :
    codeAny (model B.prog B.w) B.A (.compLoop (.ListComp elt [⟨tg, iter, ifs, 0⟩] scope pos) 0 (.ref it) (.ref D) B.env) R s := by
  refine compLoop_any (fun n s' => ∃ i H', Inv B [] σ H' s' ∧ tn i s'.heap ∧ (∀ b ∈ fp, H' b = none) ∧ W i n H') ?_ m ⟨0, H, I, st, hn, w⟩
  rintro n s5 ⟨i, H5, I5, st5, n5, w5⟩
  rcases turn i n H5 w5 with ⟨stop, fin⟩ | ⟨go, Nx, less, step⟩
  · refine thnF (T.done B rfl rfl rfl hc i [] s5 σ H5 (fun _ _ => False) I5 (fpok [] _ _ _ I5 n5) st5 stop) fun r s6 x => ?_
    obtain ⟨rfl, I6⟩ := x
    exact fin _ I6
  · refine thnF (T.item B rfl rfl rfl hc i [] s5 σ H5 (fun _ _ => False) I5 (fpok [] _ _ _ I5 n5) st5 go) fun r s6 x => ?_
    obtain ⟨u, rfl, x⟩ := x
    refine thnF x fun _ s7 y => ?_
    obtain ⟨v, H7, I7, rv, yl, st7, n7⟩ := y
    have P7 := I7.pinned (fpok [] _ _ _ I7 n7) (T.obj _ _ st7)
    have pg1 := pg.run _ s7 σ H7 v u _ P7 rv (step v H7 yl)
    rw [hxe] at pg1
    refine thnF pg1 fun _ s8 x8 => ?_
    obtain ⟨σ8, H8, I8, back, q8⟩ := x8
    have pt1 := pt.run _ s8 σ8 H8 _ I8 q8
    rw [hxe] at pt1
    refine thnF pt1 fun b s9 x9 => ?_
    obtain ⟨H9, I9, q9⟩ := x9
    have next : ∀ (H' : Hp) (s' : Shared), Inv B ([] ++ pinsAt fp s7.heap) σ8 H' s' → Nx H' → ∃ m, m < n ∧ ∃ i H', Inv B [] σ H' s' ∧ tn i s'.heap ∧ (∀ b ∈ fp, H' b = none) ∧ W i m H' := fun H' s' I' nx => by
      obtain ⟨m', lt, w'⟩ := less H' nx
      have stay : ∀ b ∈ fp, ∀ o, s7.heap.get? b = some o → s'.heap.get? b = some o ∧ H' b = none := fun b hb o e => by
        have z := I'.pin (b, o) (List.mem_append_right _ (List.mem_append_right _ (mem_pinsAt hb e)))
        exact ⟨z.1, z.2.1⟩
      have lens : σ.length = σ8.length := by rw [← back, wipe_length]
      refine ⟨m', lt, i + 1, H', (I'.unpinned (pins := [])).weak lens (fun j v e => ?_), T.keep _ _ _ st7 fun b hb o e => (stay b hb o e).1, fun b hb => ?_, w'⟩
      · rw [← back] at e
        exact (wipe_some e).1
      · obtain ⟨o, e, _⟩ := T.obj _ _ st7 b hb
        exact (stay b hb o e).2
    cases b with
    | false =>
      rw [if_neg Bool.false_ne_true] at q9
      rw [if_neg Bool.false_ne_true]
      exact next _ _ I9 q9
    | true =>
      rw [if_pos rfl] at q9
      rw [if_pos rfl]
      have pe1 := pe.run _ s9 σ8 H9 _ I9 q9
      rw [hxe] at pe1
      refine thnF pe1 fun z s10 x10 => ?_
      obtain ⟨yv, H10, I10, r10, acc, hD, hz, nx⟩ := x10
      exact app_ok (X := B) I10 hD hz r10 fun s11 I11 => next _ _ I11 nx
/-- P: what the start of the block knows, of the slots and of the state; te: the element's reading, by the slots -/
theorem pe_lcS {P : L2.St → Shared → Hp → Prop} {elt tg iter : Expr} {ifs : List Expr} {pos : Pos} {wi : TI} {g : TG} {tt : TT} {te : L2.St → TE} (hc : X.calm = true) (hN : X.N.Nodup) (hi : PI X tg iter wi) (ok : BlkOk X.N X.env.scope scope own)
    (hP : ∀ (pins : List (Addr × Obj)) (σ : L2.St) (H : Hp) (s : Shared), Inv X pins σ H s → P σ s H)
    (hg : ∀ (s : Shared) (H : Hp) (C : Addr) (cl : List (Str × Addr)) (fp : List Addr), PG (X.blk s H scope (compEnvC scope cl C X.env) fp) tg g)
    (ht : ∀ (s : Shared) (H : Hp) (C : Addr) (cl : List (Str × Addr)) (fp : List Addr), PTs (X.blk s H scope (compEnvC scope cl C X.env) fp) ifs tt)
    (he : ∀ (σ : L2.St) (s : Shared) (H : Hp) (C : Addr) (cl : List (Str × Addr)) (fp : List Addr), P σ s H → (∀ b ∈ fp, ∃ o, s.heap.get? b = some o ∧ ∀ v, o.data ≠ .cell v) → PE (X.blk s H scope (compEnvC scope cl C X.env) fp) elt (te σ)) (hs : ∀ x, foldedSetIterable iter X.env x = pure x := by intro _; rfl) :
    PE X (.ListComp elt [⟨tg, iter, ifs, 0⟩] scope pos) (fun σ H Q => tLc wi g tt (te σ) (own.map (·.2)) σ H Q) := by
  refine ⟨fun pins s σ H Q I h => ?_⟩
  rw [eval_ListComp]
  have clo : ∀ y ∈ scope.names, y.2 = .free → ∃ c, X.env.cells.lookup y.1 = some c := fun y hy e => (ok.free y hy e).elim (fun k => I.ok.has _ (.inl k)) fun k => I.ok.has _ (.inr k)
  refine wpAny_comprehension_free (use := none) rfl hs (closure_ok clo) ok.kind (fun y hy e => (ok.uniq y hy).trans (congrArg some e))
    (thn (hi.run pins s σ H _ I h) fun xv s1 hx => thn hx fun itv s2 h2 => ?_)
  obtain ⟨it, fp, tn, J, H2, rfl, I2, T, st2, f2, q⟩ := h2
  refine wpAny_newObj_type (newEnv_comp ?_) (show 0 ≤ sizeLine by decide)
  have hDn : H2 s2.heap.objs.size = none := I2.hok.fresh (Nat.le_refl _)
  obtain ⟨W, ⟨m0, w0⟩, turn⟩ := q _ hDn
  have I3 := grow I2
  have old : ∀ b ∈ fp, b < s2.heap.objs.size := fun b hb => (T.obj _ _ st2 b hb).elim fun o e => Heap.lt_size e.1
  generalize hD : s2.heap.objs.size = D at *
  generalize hs3 : ({ s2 with heap := s2.heap.push { cls := .type "list", data := .seq ([] : List Value).toArray } } : Shared) = s3 at *
  have k3 : ∀ b o, s2.heap.get? b = some o → s3.heap.get? b = some o := fun b o e => by
    rw [← hs3]
    exact Heap.get?_push_of_some _ e
  have z3 : s3.heap.objs.size = D + 1 := by
    rw [← hs3, ← hD]
    exact Heap.size_push ..
  have st3 : tn 0 s3.heap := T.keep _ _ _ st2 fun b _ o e => k3 b o e
  have f3 : ∀ b ∈ fp, FpOk X pins (upd H2 D (.lst [])) b ∧ b < s3.heap.objs.size := fun b hb =>
    ⟨⟨(upd_ne (Nat.ne_of_lt (old b hb))).trans (f2 b hb).1, (f2 b hb).2⟩, by rw [z3]; exact Nat.lt_succ_of_lt (old b hb)⟩
  generalize hH3 : upd H2 D (.lst []) = H3 at *
  have know := hP pins σ H3 s3 I3
  have I4 := block_start I3 ok hN f3
  have pe := he σ s3 H3 s3.heap.objs.size (cellsFrom (s3.heap.objs.size + 1) scope.names (cloFrom X.env.cells scope.names [])) fp know (T.obj _ _ st3)
  have pg := hg s3 H3 s3.heap.objs.size (cellsFrom (s3.heap.objs.size + 1) scope.names (cloFrom X.env.cells scope.names [])) fp
  have pt := ht s3 H3 s3.heap.objs.size (cellsFrom (s3.heap.objs.size + 1) scope.names (cloFrom X.env.cells scope.names [])) fp
  show codeAny _ _ (.compStart (.ListComp elt [⟨tg, iter, ifs, 0⟩] scope pos) 0 (.ref it) (.ref D) (blkEnv X scope s3)) (compPost (model X.prog X.w) X.A X.xe none _ (.ref D) s3.heap.objs.size) (blkS scope s3)
  have st4 : tn 0 (blkS scope s3).heap := T.keep _ _ _ st3 fun b _ o e => pushCells_keeps _ _ _ _ (Heap.get?_push_of_some _ e)
  have nfp : ∀ b ∈ fp, H3 b = none := fun b hb => (f3 b hb).1.1
  have loop : codeAny (model X.prog X.w) X.A (.compLoop (.ListComp elt [⟨tg, iter, ifs, 0⟩] scope pos) 0 (.ref it) (.ref D) (blkEnv X scope s3))
      (compPost (model X.prog X.w) X.A X.xe none (EP X pins σ Q) (.ref D) s3.heap.objs.size) (blkS scope s3) := by
    refine lc_loop (B := X.blk s3 H3 scope (blkEnv X scope s3) fp) (σ := wipe σ (own.map (·.2))) (vs := own.map (·.2)) (W := W) hc rfl T pg pt pe (fun _ τ H' s' J' n' b hb => ?_) (fun i m H' w' => ?_) I4 st4 nfp w0
    · refine ⟨n' b hb, (J'.ok.exf b hb).1, J'.ok.exfs b hb, .inl hb, fun x c e => (J'.ok.exf b hb).2 x c e, fun p hp => ?_⟩
      exact absurd (show p ∈ ([] : List (Addr × Obj)) ++ [] from hp) (by simp)
    · rcases turn i m H' w' with ⟨a, b⟩ | ⟨a, Nx, b, c⟩
      · refine .inl ⟨a, fun s' J' => ?_⟩
        obtain ⟨I6, m6, ns6, f6⟩ := blk_out I3 (fun b hb => (f3 b hb).1) J'
        obtain ⟨f0, f1, f2, f3', f4, f5⟩ := f6
        exact ⟨m6, ns6, fun h'' sb => ⟨.ref D, H', I6.turned (t' := s'.toks) (fun b o hb e => (sb.2 b hb).trans e) f0 f1 f3' f4 f5, rfl, b⟩⟩
      · exact .inr ⟨a, Nx, b, c⟩
  exact codeAny_compStart_list loop (T.self X.A 0 _ _ _ st4 loop)
end

/-! ### what a comprehension gathers -/
section
/-- the values of the first n turns -/
def gather (f : Nat → Option V) (n : Nat) : List V := (List.range n).filterMap f
theorem gather_zero (f : Nat → Option V) : gather f 0 = [] := rfl
theorem gather_some {f : Nat → Option V} {n : Nat} {y : V} (h : f n = some y) : gather f (n + 1) = gather f n ++ [y] := by
  unfold gather
  rw [List.range_succ, List.filterMap_append]
  simp [h]
theorem gather_none {f : Nat → Option V} {n : Nat} (h : f n = none) : gather f (n + 1) = gather f n := by
  unfold gather
  rw [List.range_succ, List.filterMap_append]
  simp [h]
theorem gather_len (f : Nat → Option V) (n : Nat) : (gather f n).length ≤ n := by
  unfold gather
  exact Nat.le_trans (List.length_filterMap_le ..) (by simp)
/-- over a list: the items kept, each made anew -/
theorem gather_take {α : Type} (xs : List α) (p : α → Option V) : ∀ n, n ≤ xs.length → gather (fun i => (xs[i]?).bind p) n = (xs.take n).filterMap p
  | 0, _ => rfl
  | n + 1, h => by
    have ih := gather_take xs p n (by omega)
    have hn : xs[n]? = some (xs[n]'(by omega)) := List.getElem?_eq_getElem (by omega)
    rw [List.take_add_one, hn, List.filterMap_append, ← ih]
    cases e : p (xs[n]'(by omega)) with
    | none =>
      rw [gather_none (by rw [hn]; exact e)]
      simp [e]
    | some y =>
      rw [gather_some (y := y) (by rw [hn]; exact e)]
      simp [e]
theorem gather_list {α : Type} (xs : List α) (p : α → Option V) : gather (fun i => (xs[i]?).bind p) xs.length = xs.filterMap p := by
  rw [gather_take xs p _ (Nat.le_refl _), List.take_length]
theorem gather_map {α : Type} (xs : List α) (f : α → V) : gather (fun i => (xs[i]?).map f) xs.length = xs.map f := by
  have e : (fun i : Nat => (xs[i]?).map f) = fun i : Nat => (xs[i]?).bind fun x => some (f x) := by
    funext i
    cases xs[i]? <;> rfl
  rw [e, gather_list]
  simp
theorem gather_fn (f : Nat → V) (n : Nat) : gather (fun i => some (f i)) n = (List.range n).map f := by
  unfold gather
  simp
/-- a comprehension whose turns leave what is known: f i, what the i-th turn gives -/
theorem lc_gather {J : It} {n : Nat} {G : Hp → Prop} {Y : Nat → Hp → V → Hp → Prop} (w : Walk J n G Y) {g : TG} {tt : TT} {te : TE} {vs : List Nat} {σ : L2.St} {H1 : Hp} {D : Addr} {Qd : Hp → Prop} (f : Nat → Option V) (hD : H1 D = none) (hz : n ≤ sizeLine)
    (hG : ∀ H, Same H1 H → G H)
    (hs : ∀ i x H H', i < n → Same H1 H → Y i H x H' → ∀ R : Option V → Hp → Prop, (∀ H4, Same H H4 → R (f i) H4) →
      g x (wipe σ vs) H' fun σ2 H2 => wipe σ2 vs = wipe σ vs ∧ tt σ2 H2 fun b H3 => if b = true then te σ2 H3 fun y H4 => R (some y) H4 else R none H3)
    (hd : ∀ H, Same H1 H → H D = some (.lst (gather f n)) → Qd H) :
    ∃ W : Nat → Nat → Hp → Prop, (∃ m, W 0 m (upd H1 D (.lst []))) ∧ ∀ i m H, W i m H →
      (J.stop i H ∧ Qd H) ∨ (J.go i H ∧ ∃ Nx : Hp → Prop, (∀ H', Nx H' → ∃ m', m' < m ∧ W (i + 1) m' H') ∧ ∀ x H', J.yld i H x H' → g x (wipe σ vs) H' fun σ2 H2 => wipe σ2 vs = wipe σ vs ∧ tt σ2 H2 fun b H3 =>
        if b = true then te σ2 H3 fun y H4 => ∃ acc, H4 D = some (.lst acc) ∧ acc.length < sizeLine ∧ Nx (upd H4 D (.lst (acc ++ [y]))) else Nx H3) := by
  have s0 : ∀ o, Same H1 (upd H1 D o) := fun o b u e => by rw [upd_ne (ne_of_none e hD)]; exact e
  refine lc_it w (fun i H => Same H1 H ∧ H D = some (.lst (gather f i))) ⟨s0 _, upd_same⟩ (fun i H _ p => hG H p.1) (fun i x H H' hi p y => ?_) fun H p => hd H p.1 p.2
  obtain ⟨p1, p2⟩ := p
  refine hs i x H H' hi p1 y (fun oy H4 => match oy with
    | some y => ∃ acc, H4 D = some (.lst acc) ∧ acc.length < sizeLine ∧ Same H1 (upd H4 D (.lst (acc ++ [y]))) ∧ upd H4 D (.lst (acc ++ [y])) D = some (.lst (gather f (i + 1)))
    | none => Same H1 H4 ∧ H4 D = some (.lst (gather f (i + 1)))) fun H4 q => ?_
  have p4 := p1.trans q
  cases e : f i with
  | none => exact ⟨p4, by rw [gather_none e]; exact q _ _ p2⟩
  | some y =>
    refine ⟨gather f i, q _ _ p2, Nat.lt_of_le_of_lt (gather_len f i) (Nat.lt_of_lt_of_le hi hz), fun b u z => ?_, by rw [upd_same, gather_some e]⟩
    rw [upd_ne (ne_of_none z hD)]
    exact p4 b u z
/-- .. without tests -/
theorem lc_map {J : It} {n : Nat} {G : Hp → Prop} {Y : Nat → Hp → V → Hp → Prop} (w : Walk J n G Y) {g : TG} {te : TE} {vs : List Nat} {σ : L2.St} {H1 : Hp} {D : Addr} {Qd : Hp → Prop} (f : Nat → Option V) (hD : H1 D = none) (hz : n ≤ sizeLine)
    (hG : ∀ H, Same H1 H → G H)
    (hs : ∀ i x H H', i < n → Same H1 H → Y i H x H' → ∀ R : V → Hp → Prop, (∀ y H4, Same H H4 → f i = some y → R y H4) →
      g x (wipe σ vs) H' fun σ2 H2 => wipe σ2 vs = wipe σ vs ∧ te σ2 H2 R) (hf : ∀ i, i < n → ∃ y, f i = some y)
    (hd : ∀ H, Same H1 H → H D = some (.lst (gather f n)) → Qd H) :
    ∃ W : Nat → Nat → Hp → Prop, (∃ m, W 0 m (upd H1 D (.lst []))) ∧ ∀ i m H, W i m H →
      (J.stop i H ∧ Qd H) ∨ (J.go i H ∧ ∃ Nx : Hp → Prop, (∀ H', Nx H' → ∃ m', m' < m ∧ W (i + 1) m' H') ∧ ∀ x H', J.yld i H x H' → g x (wipe σ vs) H' fun σ2 H2 => wipe σ2 vs = wipe σ vs ∧ tYes σ2 H2 fun b H3 =>
        if b = true then te σ2 H3 fun y H4 => ∃ acc, H4 D = some (.lst acc) ∧ acc.length < sizeLine ∧ Nx (upd H4 D (.lst (acc ++ [y]))) else Nx H3) := by
  refine lc_gather w f hD hz hG (fun i x H H' hi s y R k => ?_) hd
  have z := hs i x H H' hi s y (fun y H4 => R (some y) H4) fun y H4 q e => by
    have := k H4 q
    rw [e] at this
    exact this
  exact z
/-- .. whose turns make new things: Rl i y H, what holds of the i-th -/
theorem lc_rel {J : It} {n : Nat} {G : Hp → Prop} {Y : Nat → Hp → V → Hp → Prop} (w : Walk J n G Y) {g : TG} {te : TE} {vs : List Nat} {σ : L2.St} {H1 : Hp} {D : Addr} {Qd : Hp → Prop} (Rl : Nat → V → Hp → Prop) (hD : H1 D = none) (hz : n ≤ sizeLine)
    (hG : ∀ H, Same H1 H → G H) (stable : ∀ i y H H', (∀ b xs, H b = some (.tup xs) → H' b = some (.tup xs)) → Rl i y H → Rl i y H')
    (hs : ∀ i x H H', i < n → Same H1 H → Y i H x H' → ∀ R : V → Hp → Prop, (∀ y H4, Same H H4 → Rl i y H4 → R y H4) →
      g x (wipe σ vs) H' fun σ2 H2 => wipe σ2 vs = wipe σ vs ∧ te σ2 H2 R)
    (hd : ∀ H ys, Same H1 H → H D = some (.lst ys) → ys.length = n → (∀ i y, ys[i]? = some y → Rl i y H) → Qd H) :
    ∃ W : Nat → Nat → Hp → Prop, (∃ m, W 0 m (upd H1 D (.lst []))) ∧ ∀ i m H, W i m H →
      (J.stop i H ∧ Qd H) ∨ (J.go i H ∧ ∃ Nx : Hp → Prop, (∀ H', Nx H' → ∃ m', m' < m ∧ W (i + 1) m' H') ∧ ∀ x H', J.yld i H x H' → g x (wipe σ vs) H' fun σ2 H2 => wipe σ2 vs = wipe σ vs ∧ tYes σ2 H2 fun b H3 =>
        if b = true then te σ2 H3 fun y H4 => ∃ acc, H4 D = some (.lst acc) ∧ acc.length < sizeLine ∧ Nx (upd H4 D (.lst (acc ++ [y]))) else Nx H3) := by
  have s0 : ∀ o, Same H1 (upd H1 D o) := fun o b u e => by rw [upd_ne (ne_of_none e hD)]; exact e
  refine lc_it w (fun i H => Same H1 H ∧ ∃ ys, H D = some (.lst ys) ∧ ys.length = i ∧ ∀ j y, ys[j]? = some y → Rl j y H) ⟨s0 _, [], upd_same, rfl, fun j y e => by simp at e⟩ (fun i H _ p => hG H p.1) (fun i x H H' hi p y => ?_) fun H p => ?_
  · obtain ⟨p1, ys, p2, p3, p4⟩ := p
    have z := hs i x H H' hi p1 y (fun y H4 => ∃ acc, H4 D = some (.lst acc) ∧ acc.length < sizeLine ∧ Same H1 (upd H4 D (.lst (acc ++ [y]))) ∧
      ∃ ys, upd H4 D (.lst (acc ++ [y])) D = some (.lst ys) ∧ ys.length = i + 1 ∧ ∀ j y', ys[j]? = some y' → Rl j y' (upd H4 D (.lst (acc ++ [y])))) fun y H4 q r => by
        have e4 := q _ _ p2
        have tups : ∀ o b xs, H4 b = some (.tup xs) → upd H4 D o b = some (.tup xs) := fun o b xs e => by
          by_cases hb : b = D
          · rw [hb, e4] at e
            cases e
          · rw [upd_ne hb]
            exact e
        refine ⟨ys, e4, by rw [p3]; exact Nat.lt_of_lt_of_le hi hz, fun b u e => by rw [upd_ne (ne_of_none e hD)]; exact (p1.trans q) b u e, ys ++ [y], upd_same, by simp [p3], fun j y' e => ?_⟩
        by_cases hj : j < ys.length
        · rw [List.getElem?_append_left hj] at e
          exact stable j y' H4 _ (tups _) (stable j y' H H4 (fun b xs e => q _ _ e) (p4 j y' e))
        · rw [List.getElem?_append_right (by omega)] at e
          have ej : j = ys.length := by
            have := (List.getElem?_eq_some_iff.mp e).1
            simp at this
            omega
          subst ej
          simp at e
          subst e
          rw [p3]
          exact stable _ _ H4 _ (tups _) r
    exact z
  · obtain ⟨p1, ys, p2, p3, p4⟩ := p
    exact hd H ys p1 p2 p3 p4
end
end Sho
set_option Elab.async false
set_option linter.all false
set_option maxRecDepth 100000
set_option maxHeartbeats 2000000
/-! A callable that is handed on, called without arguments. -/
namespace Sho
open PySem PySem.Spec PyProof.Rows L2 LamX NdefX
section
variable {X : Cx} {pins : List (Addr × Obj)} {σ : L2.St} {H : Hp} {s : Shared} {cl : List (Str × Addr)} {fr : List Str} {ws : List (Option V)}
theorem cells_un {fs ex : List Addr} {H0 : Hp} {h0 h : Heap} (C : CellsAt cl fr ws h0 H0) (U : Un fs ex H0 H h0 h) (hex : ∀ y c, cl.lookup y = some c → c ∉ ex) : CellsAt cl fr ws h H := by
  have one : ∀ {y : Str} {c : Addr} {v : Option Value}, cl.lookup y = some c → h0.IsCell c v → h.IsCell c v := fun {y c v} e ⟨o, ho, hd⟩ => by
    by_cases hm : c ∈ fs
    · obtain ⟨sl, q⟩ := U.slot c o ho (C.all y c e).1 hm (hex y c e)
      exact ⟨_, q, hd⟩
    · exact ⟨o, U.keep c o ho (C.all y c e).1 hm (hex y c e), hd⟩
  refine ⟨C.len, fun y c e => ?_, C.inj, fun i y hi => ?_⟩
  · obtain ⟨n, v, o, ho, hd⟩ := C.all y c e
    exact ⟨U.free c o ho n (hex y c e), v, one e ⟨o, ho, hd⟩⟩
  · obtain ⟨c, e, k⟩ := C.has i y hi
    refine ⟨c, e, fun v hv => ?_⟩
    obtain ⟨u, r, z⟩ := k v hv
    exact ⟨u, r, one e z⟩
/-- cells of the entry's time stand as they stood -/
theorem cells_kept (I : Inv X pins σ H s) (C : CellsAt cl fr ws X.s_0.heap X.H_0) (hex : ∀ y c, cl.lookup y = some c → c ∉ X.ex) : CellsAt cl fr ws s.heap H := cells_un C I.base hex

/-- x(): x's slot holds a callable -/
def tAct (P : Program) (w : World) (K : PySem.W.Frag) (mg : Str → Option Value) (base : Heap) (CX : CXT) (k : Nat) (i : Nat) (cl : List (Str × Addr)) (fr : List Str) (ws : List (Option V)) (E : L2.St → XK) : TE := fun σ H Q =>
  ∃ f sp, σ[i]? = some (some (.ref f)) ∧ Act P w K mg base CX k cl fr sp f H ∧ sp ws H Q (E σ)
theorem pe_act {CX : CXT} {k i : Nat} {E : L2.St → XK} {x : Str} {p pos : Pos} (hr : Room k X.A) (C : CellsAt cl fr ws X.s_0.heap X.H_0) (hex : ∀ y c, cl.lookup y = some c → c ∉ X.ex) (hx : ∀ σ, PassesAt CX X σ (E σ))
    (hN : X.N[i]? = some x) (hv : Vis X.env.scope x) (hd : (x == ("__debug__" : Str)) = false := by decide) (hcd : (x == ("__classdict__" : Str)) = false := by decide) :
    PE X (.Call (.Name x p) [] [] pos) (tAct X.prog X.w X.K X.mg X.base CX k i cl fr ws E) := by
  refine ⟨fun pins s σ H Q I ⟨f, sp, hs, ⟨Z, ecl, hl, run⟩, h⟩ => ?_⟩
  refine wpAny_Call_Name_kw (thn ((pe_var (pos := p) (i := i) hN hv hd hcd).run pins s σ H (fun v H1 => v = .ref f ∧ H1 = H) I ⟨.ref f, hs, rfl, rfl⟩) fun u s1 y => ?_)
  obtain ⟨v, H1, I1, rv, rfl, rfl⟩ := y
  obtain rfl : u = Value.ref f := rv
  obtain ⟨pm, ctv, ho⟩ := lamO_at I1.hok hl.o
  refine PySem.W.callWith_F0 ⟨_, _, _, _, ho⟩ ?_
  refine wpAny_call (codeAny_mono (run X.A X.stack s1 H1 ws Q (E σ) hr I1.env0 hl (cells_kept I1 C hex) h) fun r s' hq => ?_)
  cases r with
  | error e => exact hx σ pins H1 s1 e s' I1 hq
  | ok fl =>
    cases fl with
    | ret u => exact I1.after hq
    | next => exact hq.elim
    | brk => exact hq.elim
    | cont => exact hq.elim

/-- g(e): a def of the module, its promise told of the very state; know: what the state at the call shows -/
theorem pe_callAt {CX : CXT} {E : XK} {know : L2.St → Shared → Hp → Prop} {sp : L2.St → V → Hp → VK → Prop} {g : Addr} {x : Str} {e : Expr} {ta : TA} {p pos : Pos} (hg : Gl X x) (hm : X.mg x = some (.ref g)) (hk : PySem.W.keepIn X.K (.ref g) = true)
    (hx : Passes CX X E) (hP : ∀ (pins : List (Addr × Obj)) (σ : L2.St) (H : Hp) (s : Shared), Inv X pins σ H s → know σ s H) (ha : PA X [e] ta)
    (run : ∀ (σ : L2.St) (s : Shared) (H : Hp) (u : Value) (v : V) (Q : VK), Env0 X.prog X.w X.K X.mg X.base X.A X.stack s H → know σ s H → RelV v u → sp σ v H Q →
      codeAny (model X.prog X.w) X.A (.call (.ref g) ⟨[u], []⟩) (CR CX X.stack X.prog X.w H s Q E) s)
    (hdb : (x == ("__debug__" : Str)) = false := by decide) (hst : starEach [e] X.env = (false, eval e X.env) :: starEach [] X.env := by rfl) :
    PE X (.Call (.Name x p) [e] [] pos) (fun σ H Q => ta σ H fun vs H1 => ∃ v, vs = [v] ∧ sp σ v H1 Q) := by
  refine ⟨fun pins s σ H Q I h => ?_⟩
  refine wpAny_Call_Name_kw (ld_glob I hg hm ?_ hdb)
  refine PySem.W.callWith_K (h₀ := X.base) I.ok.mod.kin hk (thn (ha.run pos pins s σ H _ I h) fun us s1 y => ?_) hst rfl
  · obtain ⟨vs, H1, I1, rv, v, rfl, q⟩ := y
    cases rv with
    | @cons _ u _ _ ru rn =>
    cases rn
    refine ⟨I1.kIn, wpAny_call (codeAny_mono (run σ s1 H1 u v Q I1.env0 (hP pins σ H1 s1 I1) ru q) fun r s' hq => ?_)⟩
    cases r with
    | error er => exact hx pins σ H1 s1 er s' I1 hq
    | ok fl =>
      cases fl with
      | ret w2 => exact I1.after hq
      | next => exact hq.elim
      | brk => exact hq.elim
      | cont => exact hq.elim
end
end Sho
set_option Elab.async false
set_option linter.all false
set_option maxRecDepth 100000
set_option maxHeartbeats 2000000
/-! Operators of own classes by a promise; instances made with a star. -/
namespace Sho
open PySem PySem.Spec PyProof.Rows L2 StX

section
variable {P : Program} {w : World} {K : PySem.W.Frag} {mg : Str → Option Value} {base : Heap} {CX : CXT} {k : Nat} {f : Addr} {fd : FuncData} {ps : List Str} {sp : Sp}
/-- a def's promise by its values alone -/
theorem fnr_of (F : FnOk P w K mg base CX k f fd ps sp) (hb : Binds K fd ps []) : FnR P w K mg base CX k f sp := by
  intro A outer s H us vs Q E hr e0 r h
  have hl := F.len _ _ _ _ h
  have hk : K.In s.heap := e0.mod.kin.keeps fun b o e => (e0.bs b o e).1
  have b := hb s us hk (by rw [List.append_nil, ← r.length]; exact hl)
  rw [List.append_nil] at b
  exact F.run A outer s H ⟨us, []⟩ us vs Q E hr e0 b r h
end

section
variable {X : Cx} {CX : CXT} {k : Nat} {f C : Addr} {sp : Sp} {E : XK}
theorem run_r {pins : List (Addr × Obj)} {σ : L2.St} {H : Hp} {s : Shared} {Q : VK} {us : List Value} {vs : List V} (F : FnR X.prog X.w X.K X.mg X.base CX k f sp) (hr : Room k X.A) (hx : Passes CX X E)
    (I : Inv X pins σ H s) (r : Vals vs us) (h : sp vs H Q E) : wpAny (model X.prog X.w) X.A (call (.ref f) us) (EP X pins σ Q) X.xe s := by
  refine wpAny_call (codeAny_mono (F X.A X.stack s H us vs Q E hr I.env0 r h) fun r s' hq => ?_)
  cases r with
  | error e => exact hx pins σ H s e s' I hq
  | ok fl =>
    cases fl with
    | ret u => exact I.after hq
    | next => exact False.elim hq
    | brk => exact False.elim hq
    | cont => exact False.elim hq

theorem back_of {pins : List (Addr × Obj)} {σ : L2.St} {Q : VK} {u : Value} {s' : Shared} (h : EP X pins σ Q u s') : PySem.W.CmpBack (EP X pins σ Q) u s' := by
  obtain ⟨v, H', I, r, q⟩ := h
  cases u with
  | notImplemented => exact nomatch (show absV Value.notImplemented = some v from RelV.abs r)
  | _ => exact ⟨v, H', I, r, q⟩

/-- an own instance, the instance's own place in the heap -/
def InsAt (H : Hp) (a C : Addr) : Prop := ∃ dx fs, H a = some (.ins C dx fs)

/-- a op b, both of the class at C, C's own method -/
def rOwn2 (C : Addr) (sp : Sp) (E : XK) : R2 := fun x y H Q => ∃ a b, x = .ref a ∧ y = .ref b ∧ InsAt H a C ∧ InsAt H b C ∧ sp [.ref a, .ref b] H Q E
theorem op_own2 {op : Operator} (F : FnR X.prog X.w X.K X.mg X.base CX k f sp) (hr : Room k X.A) (hx : Passes CX X E) (hc : PySem.W.selfFirst X.K C = true)
    (hs : PySem.W.findIn X.K (.ref C) (PySem.dunder op.info.2) = some (some (.ref f))) (hf : PySem.W.isFn X.K (.ref f) = true) : OpR X (binaryOp op) (rOwn2 C sp E) := by
  rintro pins s σ H x y u v Q I rx ry ⟨a, b, rfl, rfl, ⟨dx, fs, ha⟩, ⟨dy, gs, hb⟩, h⟩
  cases rx
  cases ry
  obtain ⟨mA, J, _⟩ := ins_get I.hok ha
  obtain ⟨mB, J', _⟩ := ins_get I.hok hb
  obtain ⟨od, J, _⟩ := J.look
  obtain ⟨od', J', _⟩ := J'.look
  obtain ⟨m, hF⟩ := I.fr
  exact PySem.W.binop_K hF I.ok.mod.kin J J'.type hc hs hf (thn (run_r (vs := [.ref a, .ref b]) F hr hx I (.cons rfl (.cons rfl .nil)) h) fun u s' q => back_of q)

/-- a op b, a of the class at C, b of the built-in type T -/
def rOwnT (C : Addr) (sp : Sp) (E : XK) (isT : V → Prop) : R2 := fun x y H Q => ∃ a, x = .ref a ∧ isT y ∧ InsAt H a C ∧ sp [.ref a, y] H Q E
theorem op_ownT {op : Operator} {T : String} {isT : V → Prop} {fo ro rc : Option Value} (F : FnR X.prog X.w X.K X.mg X.base CX k f sp) (hr : Room k X.A) (hx : Passes CX X E) (hc : PySem.W.selfFirst X.K C = true)
    (hT : ∀ y v, isT y → RelV y v → typeOf v = pure (.type T))
    (hs : PySem.W.findIn X.K (.ref C) (PySem.dunder op.info.2) = some (some (.ref f))) (hf : PySem.W.isFn X.K (.ref f) = true)
    (hr2 : PySem.W.findIn X.K (.ref C) (dunderR op.info.2) = some rc) (hp : rc = none ∨ ∃ g : Addr, rc = some (.ref g))
    (h1 : PySem.W.findIn X.K (.type T) (PySem.dunder op.info.2) = some fo) (h2 : PySem.W.findIn X.K (.type T) (dunderR op.info.2) = some ro) (hsub : PySem.W.subIn X.K (.type T) (.ref C) = some false) :
    OpR X (binaryOp op) (rOwnT C sp E isT) := by
  rintro pins s σ H x y u v Q I rx ry ⟨a, rfl, ht, ⟨dx, fs, ha⟩, h⟩
  cases rx
  obtain ⟨mA, J, _⟩ := ins_get I.hok ha
  obtain ⟨od, J, _⟩ := J.look
  obtain ⟨m, hF⟩ := I.fr
  exact PySem.W.ksp_binT hF I.ok.mod.kin J (hT _ _ ht ry) hc hs hf hr2 hp h1 h2 hsub (thn (run_r (vs := [.ref a, y]) F hr hx I (.cons rfl (.cons ry .nil)) h) fun u s' q => back_of q)
def isInt : V → Prop := fun y => ∃ i, y = .int i
def isStr : V → Prop := fun y => ∃ i, y = .str i
theorem ty_int : ∀ y v, isInt y → RelV y v → typeOf v = pure (.type "int") := by
  rintro y v ⟨i, rfl⟩ ⟨t, rfl⟩
  rfl
theorem ty_str : ∀ y v, isStr y → RelV y v → typeOf v = pure (.type "str") := by
  rintro y v ⟨i, rfl⟩ ⟨t, rfl⟩
  rfl

/-- x in a, not in: a's own __contains__, which hands back a bool -/
def rOwnIn (C : Addr) (neg : Bool) (sp : Sp) (E : XK) : R2 := fun x y H Q => ∃ a, y = .ref a ∧ InsAt H a C ∧ sp [.ref a, x] H (fun r H' => ∃ c, r = .bl c ∧ Q (.bl (if neg then !c else c)) H') E
theorem op_ownIn (F : FnR X.prog X.w X.K X.mg X.base CX k f sp) (hr : Room k X.A) (hx : Passes CX X E)
    (hs : PySem.W.findIn X.K (.ref C) "__contains__" = some (some (.ref f))) (hf : PySem.W.isFn X.K (.ref f) = true) : OpR X (compareOp .In) (rOwnIn C false sp E) := by
  rintro pins s σ H x y u v Q I rx ry ⟨a, rfl, ⟨dx, fs, ha⟩, h⟩
  cases ry
  obtain ⟨mA, J, _⟩ := ins_get I.hok ha
  obtain ⟨od, J, _⟩ := J.look
  obtain ⟨m, hF⟩ := I.fr
  refine PySem.W.in_K hF I.ok.mod.kin J hs hf (thn (run_r (vs := [.ref a, x]) F hr hx I (.cons rfl (.cons rx .nil)) h) fun r s' q => ?_)
  obtain ⟨v2, H2, I2, r2, c, rfl, q2⟩ := q
  cases r2
  exact wpAny_truthy_bool ⟨.bl _, H2, I2, rfl, q2⟩
theorem op_ownNotIn (F : FnR X.prog X.w X.K X.mg X.base CX k f sp) (hr : Room k X.A) (hx : Passes CX X E)
    (hs : PySem.W.findIn X.K (.ref C) "__contains__" = some (some (.ref f))) (hf : PySem.W.isFn X.K (.ref f) = true) : OpR X (compareOp .NotIn) (rOwnIn C true sp E) := by
  rintro pins s σ H x y u v Q I rx ry ⟨a, rfl, ⟨dx, fs, ha⟩, h⟩
  cases ry
  obtain ⟨mA, J, _⟩ := ins_get I.hok ha
  obtain ⟨od, J, _⟩ := J.look
  obtain ⟨m, hF⟩ := I.fr
  refine PySem.W.notIn_K hF I.ok.mod.kin J hs hf (thn (run_r (vs := [.ref a, x]) F hr hx I (.cons rfl (.cons rx .nil)) h) fun r s' q => ?_)
  obtain ⟨v2, H2, I2, r2, c, rfl, q2⟩ := q
  cases r2
  exact wpAny_truthy_bool ⟨.bl _, H2, I2, rfl, q2⟩

/-- a[i]: a's own __getitem__ -/
def rOwnIx (C : Addr) (sp : Sp) (E : XK) : R2 := fun x y H Q => ∃ a, x = .ref a ∧ InsAt H a C ∧ sp [.ref a, y] H Q E
/-- C(*y), y a list or a tuple -/
def tMakeS (K : PySem.W.Frag) (C : Addr) (sp : Sp) (E : XK) (te : TE) : TE := fun σ H Q => te σ H fun y H1 => ∃ a xs, y = V.ref a ∧ (SqT K H1 a xs ∨ SqL K H1 a xs) ∧ ∀ x dx, H1 x = Option.none → H1 dx = Option.none → dx ≠ x →
  sp (V.ref x :: xs) (upd (upd H1 dx (.own x)) x (.ins C dx [])) (fun v H2 => v = .non ∧ Q (.ref x) H2) E
theorem pe_makeS {x : Str} {e : Expr} {te : TE} {p sp_ pos : Pos} (M : Mk X.K C f) (F : FnR X.prog X.w X.K X.mg X.base CX k f sp) (hr : Room (k + 1) X.A) (hg : Gl X x) (hm : X.mg x = some (.ref C)) (hx : Passes CX X E) (he : PE X e te) (hd : (x == ("__debug__" : Str)) = false := by decide)
    (hst : starEach [.Starred e sp_] X.env = [(true, eval e X.env)] := by rfl) : PE X (.Call (.Name x p) [.Starred e sp_] [] pos) (tMakeS X.K C sp E te) := by
  refine ⟨fun pins s σ H Q I h => ?_⟩
  refine wpAny_Call_Name_kw (ld_glob I hg hm ?_ hd)
  refine PySem.W.callWith_S (h₀ := X.base) I.ok.mod.kin M.kp (thn (he.run pins s σ H _ I h) fun v s1 ⟨y, H1, I1, ry, a, xs, ey, hxs, q⟩ => ?_) hst
  subst ey
  obtain rfl : v = Value.ref a := ry
  exact star_any I1 hxs fun us s2 I2 rv => ⟨I2.kIn, run_makeR M F hr hx I2 rv q⟩
/-- C() -/
theorem pe_makeR0 {x : Str} {p pos : Pos} (M : Mk X.K C f) (F : FnR X.prog X.w X.K X.mg X.base CX k f sp) (hr : Room (k + 1) X.A) (hg : Gl X x) (hm : X.mg x = some (.ref C)) (hx : Passes CX X E) (hdb : (x == ("__debug__" : Str)) = false := by decide) :
    PE X (.Call (.Name x p) [] [] pos) (tMakeR C sp E tNil) := by
  refine ⟨fun pins s σ H Q I h => ?_⟩
  refine wpAny_Call_Name_kw (ld_glob I hg hm ?_ hdb)
  exact PySem.W.callWith_K0 I.kIn M.kp (run_makeR (us := []) M F hr hx I .nil h)
end
end Sho
set_option Elab.async false
set_option linter.all false
namespace Sh1
open PySem L2
abbrev pw : Program := PySem.Challenge.pw_shoepile_k03_one_guest_less
def top (i : Nat) : Stmt := PySem.Challenge.pw_shoepile_k03_one_guest_less.main.body.getD i (.Pass ⟨0, 0, 0, 0⟩)
abbrev sWall : Stmt := top 0
abbrev cPartyError : Stmt := top 2
abbrev cInvalidStay : Stmt := top 3
abbrev sInvInit : Stmt := inClass (top 3) 0
abbrev cUnknownGuest : Stmt := top 4
abbrev sUnkInit : Stmt := inClass (top 4) 0
abbrev sIsName : Stmt := top 8
abbrev sIsWithin : Stmt := top 9
abbrev sIsTick : Stmt := top 10
abbrev sIsStay : Stmt := top 11
abbrev sBottomUp : Stmt := top 12
abbrev sLiftedFrom : Stmt := top 13
abbrev sCheck : Stmt := top 15
abbrev cParty : Stmt := top 16
abbrev sPInit : Stmt := inClass (top 16) 1
abbrev sPEvening : Stmt := inClass (top 16) 2
abbrev sPStays : Stmt := inClass (top 16) 3
abbrev sPNames : Stmt := inClass (top 16) 4
abbrev sPStayOf : Stmt := inClass (top 16) 5
abbrev sPLen : Stmt := inClass (top 16) 6
abbrev sPBool : Stmt := inClass (top 16) 7
abbrev sPIn : Stmt := inClass (top 16) 8
abbrev sPIx : Stmt := inClass (top 16) 9
abbrev sPIter : Stmt := inClass (top 16) 10
abbrev sPEq : Stmt := inClass (top 16) 11
abbrev sPSub : Stmt := inClass (top 16) 12
abbrev sPAdd : Stmt := inClass (top 16) 13
abbrev sPShift : Stmt := inClass (top 16) 14
abbrev sPCall : Stmt := inClass (top 16) 15
abbrev sPCross : Stmt := inClass (top 16) 16
abbrev sPPile : Stmt := inClass (top 16) 17
abbrev sAllLifting : Stmt := top 17
abbrev sChange : Stmt := top 18
abbrev sCalmest : Stmt := top 19
abbrev sStart : Stmt := top 21
abbrev sDrawn : Stmt := top 22
abbrev sSame : Stmt := top 23
abbrev sRows : Stmt := top 24
abbrev sLawParty : Stmt := top 25
abbrev sLawPlayed : Stmt := top 26
abbrev sLawCounts : Stmt := top 27
abbrev sLawMixed : Stmt := top 28
abbrev sLaw : Stmt := top 29
abbrev nDue : PySem.Str := "_law_due"
abbrev nMix : PySem.Str := "_law_mixed_here"
end Sh1
set_option Elab.async false
set_option linter.all false
set_option maxRecDepth 100000
set_option maxHeartbeats 2000000
namespace Sh1
open PySem L2 Sho
abbrev Stay := Str × Int × Int
def StayV (H : Hp) (v : V) (x : Stay) : Prop := ∃ t, v = .ref t ∧ H t = some (.tup [.str x.1, .int x.2.1, .int x.2.2])
/-- the builtins that the text calls -/
structure Blt (mg : Str → Option Value) : Prop where
  len : mg "len" = none
  all : mg "all" = none
  isi : mg "isinstance" = none
  bool : mg "bool" = none
  tuple : mg "tuple" = none
  list : mg "list" = none
  range : mg "range" = none
  enum : mg "enumerate" = none
  int : mg "int" = none
  sup : mg "super" = none
  sorted : mg "sorted" = none
section
variable {P : Program} {w : World} {K : PySem.W.Frag} {mg : Str → Option Value} {base : Heap}
/-! ### is_name -/
def letter (c : Nat) : Bool := !decide (c < 97) && !decide (122 < c)
def okName (z : Str) : Bool := decide ((1 : Int) ≤ z.length) && (decide ((z.length : Int) ≤ 8) && z.cps.toList.all letter)
theorem one_lt (c d : Nat) : ([c] < [d]) ↔ c < d := by
  rw [List.cons_lt_cons_iff]
  simp
theorem cps_a : (Str.ofString "a").cps.toList = [97] := by decide +kernel
theorem cps_z : (Str.ofString "z").cps.toList = [122] := by decide +kernel
def spIsName : Sp := fun vs H Q _ => ∃ z : Str, vs = [.str z] ∧ z.length ≤ sizeLine ∧ ∀ H', Same H H' → Q (.bl (okName z)) H'
theorem scIsName : FnScope ["word", "letter"] ["word"] (defScope sIsName) := ⟨rfl, rfl, rfl, by decide +kernel, rfl, by decide +kernel, by decide +kernel⟩
theorem ok_isName {f : Addr} {fd : FuncData} {t8 : Tok} (F : Fun K "is_name" "is_name" sIsName f fd) (B : Blt mg) (g8 : mg "LONGEST_NAME" = some (.int 8 t8)) : FnOk P w K mg base CX0 1 f fd ["word"] spIsName := by
  refine F.ok scIsName (fun vs H Q E h => ?_) (fun cdv A outer s H vs Q E hr h => ?_)
  · obtain ⟨z, rfl, _⟩ := h
    rfl
  · obtain ⟨z, rfl, hz, k⟩ := h
    refine ⟨_, pss_one (ps_ret (pe_and (pe_chain op_le op_le pe_int (pe_callB call_len_str (by rfl) B.len PySem.boot_len (pa_cons (pv 0) pa_nil)) (pe_glob (v := .int 8) rfl g8 ⟨_, rfl⟩)) (pe_one
      (pe_callB (cr_all rfl) (by rfl) B.all (by decide +kernel) (pa_cons (pe_lc (own := [("letter", 1)]) (g := gName 1) (tt := tYes) rfl scIsName.nd (pi_str (pv 0)) (blkOk_by (own := [("letter", 1)]) (N := ["word", "letter"]) (sc := defScope sIsName) (by decide +kernel))
        (fun _ _ _ _ _ => pg_name (i := 1) scIsName.nd rfl (Or.inl rfl)) (fun _ _ _ _ _ => pts_nil)
        (fun _ _ _ _ _ => pe_chain op_le_str op_le_str pe_str (pv 1) pe_str)) pa_nil))))), ?_⟩
    refine ⟨_, rfl, z, rfl, hz, _, _, rfl, rfl, _, rfl, ?_⟩
    refine ite2 (fun h1 => ?_) (fun h1 => ?_)
    · refine ⟨_, _, rfl, rfl, _, rfl, ?_⟩
      refine ite2 (fun h2 => ?_) (fun h2 => ?_)
      · refine ⟨_, rfl, z, rfl, fun D hD => ?_⟩
        refine lc_map (walk_str (z := z)) (fun i => (z.cps.toList[i]?).map fun c => .bl (letter c)) hD hz (fun _ _ => trivial) (fun i x H1 H' hi s1 y R k1 => ?_) (fun i hi => ⟨_, by rw [List.getElem?_eq_getElem (by simpa using hi)]; rfl⟩) fun H1 s1 e1 => ?_
        · obtain ⟨rfl, c, hc, rfl⟩ := y
          refine ⟨rfl, _, rfl, _, _, rfl, rfl, _, rfl, ?_⟩
          have fi : Option.map (fun c => V.bl (letter c)) z.cps.toList[i]? = some (.bl (letter c)) := by
            rw [Array.getElem?_toList, hc]
            rfl
          have e1 : decide (({ cps := #[c] } : Str).cps.toList < (Str.ofString "a").cps.toList) = decide (c < 97) := by
            rw [cps_a]
            exact decide_eq_decide.mpr (one_lt c 97)
          have e2 : decide ((Str.ofString "z").cps.toList < ({ cps := #[c] } : Str).cps.toList) = decide (122 < c) := by
            rw [cps_z]
            exact decide_eq_decide.mpr (one_lt 122 c)
          rw [e1]
          by_cases h3 : c < 97
          · rw [decide_eq_true h3]
            refine iteF (k1 _ _ (Same.refl _) ?_)
            rw [fi]
            simp [letter, h3]
          · rw [decide_eq_false h3]
            refine iteT ⟨_, _, rfl, rfl, ?_⟩
            rw [e2]
            refine k1 _ _ (Same.refl _) ?_
            rw [fi]
            simp [letter, h3]
        · refine ⟨D, z.cps.toList.map letter, rfl, ?_, ?_⟩
          · have e2 : gather (fun i => (z.cps.toList[i]?).map fun c => V.bl (letter c)) z.cps.size = (z.cps.toList.map letter).map V.bl := by
              have := gather_map z.cps.toList fun c => V.bl (letter c)
              rw [Array.length_toList] at this
              rw [this, List.map_map]
              rfl
            rw [← e2]
            exact SqL.of e1
          · have e3 : okName z = (z.cps.toList.map letter).all id := by
              unfold okName
              have h1' : (1 : Int) ≤ z.length := of_decide_eq_true h1
              have h2' : (z.length : Int) ≤ 8 := of_decide_eq_true h2
              rw [decide_eq_true h1', decide_eq_true h2', List.all_map]
              rfl
            rw [← e3]
            exact k _ s1
      · have e3 : okName z = false := by
          unfold okName
          have h2' : ¬ (z.length : Int) ≤ 8 := fun q => h2 (decide_eq_true q)
          rw [decide_eq_false h2']
          simp
        have := k H (Same.refl H)
        rw [e3] at this
        exact this
    · have e3 : okName z = false := by
        unfold okName
        have h1' : ¬ (1 : Int) ≤ z.length := fun q => h1 (decide_eq_true q)
        rw [decide_eq_false h1']
        rfl
      have := k H (Same.refl H)
      rw [e3] at this
      exact ⟨_, rfl, iteF this⟩
end
end Sh1
set_option Elab.async false
set_option linter.all false
set_option maxRecDepth 100000
set_option maxHeartbeats 2000000
namespace Sh1
open PySem L2 Sho
section
variable {P : Program} {w : World} {K : PySem.W.Frag} {mg : Str → Option Value} {base : Heap}
/-! ### is_tick, is_stay -/
def okTick (n : Int) : Bool := decide (0 ≤ n) && decide (n ≤ 1000000000)
def spIsWithin : Sp := fun vs H Q _ => ∃ n a b : Int, vs = [.int n, .int a, .int b] ∧ Q (.bl (decide (a ≤ n) && decide (n ≤ b))) H
theorem scIsWithin : FnScope ["number", "low", "high"] ["number", "low", "high"] (defScope sIsWithin) := ⟨rfl, rfl, rfl, by decide +kernel, rfl, by decide +kernel, by decide +kernel⟩
theorem ok_isWithin {f : Addr} {fd : FuncData} (F : Fun K "is_within" "is_within" sIsWithin f fd) (B : Blt mg) : FnOk P w K mg base CX0 1 f fd ["number", "low", "high"] spIsWithin := by
  refine F.ok scIsWithin (fun vs H Q E h => ?_) (fun cdv A outer s H vs Q E hr h => ?_)
  · obtain ⟨n, a, b, rfl, _⟩ := h
    rfl
  · obtain ⟨n, a, b, rfl, k⟩ := h
    refine ⟨_, pss_one (ps_ret (pe_and (pe_not (pe_callB call_isi (by rfl) B.isi (by decide +kernel) (pa_cons (pv 0) (pa_cons (pe_bltn (v := .ty "bool") (by rfl) B.bool (by decide +kernel) rfl) pa_nil))))
      (pe_one (pe_chain op_le op_le (pv 1) (pv 0) (pv 2))))), ?_⟩
    refine ⟨_, rfl, .int n, .ty "bool", .type "int", .type "bool", false, rfl, .ty _, .base (.int n), kit_ty (by decide +kernel), _, rfl, _, rfl, iteT ⟨_, rfl, _, rfl, _, _, rfl, rfl, _, rfl, ?_⟩⟩
    refine ite2 (fun h1 => ?_) (fun h1 => ?_)
    · refine ⟨_, rfl, _, _, rfl, rfl, ?_⟩
      rw [h1] at k
      exact k
    · rw [Bool.eq_false_iff.mpr h1] at k
      exact k
def spIsTick : Sp := fun vs H Q _ => ∃ n : Int, vs = [.int n] ∧ Q (.bl (okTick n)) H
theorem scIsTick : FnScope ["number"] ["number"] (defScope sIsTick) := ⟨rfl, rfl, rfl, by decide +kernel, rfl, by decide +kernel, by decide +kernel⟩
theorem ok_isTick {f fW : Addr} {fd fdW : FuncData} {t8 : Tok} (F : Fun K "is_tick" "is_tick" sIsTick f fd) (g9 : mg "LAST_TICK" = some (.int 1000000000 t8))
    (GW : FnOk P w K mg base CX0 1 fW fdW ["number", "low", "high"] spIsWithin) (mW : mg "is_within" = some (.ref fW)) (kW : PySem.W.keepIn K (.ref fW) = true) (bW : Binds K fdW ["number", "low", "high"] []) : FnOk P w K mg base CX0 2 f fd ["number"] spIsTick := by
  refine F.ok scIsTick (fun vs H Q E h => ?_) (fun cdv A outer s H vs Q E hr h => ?_)
  · obtain ⟨n, rfl, _⟩ := h
    rfl
  · obtain ⟨n, rfl, k⟩ := h
    refine ⟨_, pss_one (ps_ret (pe_call GW hr rfl mW kW bW .nil pass0 (pa_cons (pv 0) (pa_cons pe_int (pa_cons (pe_glob (v := .int 1000000000) rfl g9 ⟨_, rfl⟩) pa_nil))))), ?_⟩
    exact ⟨_, rfl, n, 0, 1000000000, rfl, k⟩
def okStay (z : Str) (a b : Int) : Bool := okName z && (okTick a && (okTick b && decide (a < b)))
def spIsStay : Sp := fun vs H Q _ => ∃ (z : Str) (a b : Int), vs = [.str z, .int a, .int b] ∧ z.length ≤ sizeLine ∧ ∀ H', Same H H' → Q (.bl (okStay z a b)) H'
theorem scIsStay : FnScope ["name", "come", "go"] ["name", "come", "go"] (defScope sIsStay) := ⟨rfl, rfl, rfl, by decide +kernel, rfl, by decide +kernel, by decide +kernel⟩
theorem ok_isStay {f fN fT : Addr} {fd fdN fdT : FuncData} (F : Fun K "is_stay" "is_stay" sIsStay f fd) (GN : FnOk P w K mg base CX0 1 fN fdN ["word"] spIsName) (mN : mg "is_name" = some (.ref fN)) (kN : PySem.W.keepIn K (.ref fN) = true) (bN : Binds K fdN ["word"] [])
    (GT : FnOk P w K mg base CX0 2 fT fdT ["number"] spIsTick) (mT : mg "is_tick" = some (.ref fT)) (kT : PySem.W.keepIn K (.ref fT) = true) (bT : Binds K fdT ["number"] []) : FnOk P w K mg base CX0 3 f fd ["name", "come", "go"] spIsStay := by
  refine F.ok scIsStay (fun vs H Q E h => ?_) (fun cdv A outer s H vs Q E hr h => ?_)
  · obtain ⟨z, a, b, rfl, _⟩ := h
    rfl
  · obtain ⟨z, a, b, rfl, hz, k⟩ := h
    refine ⟨_, pss_one (ps_ret (pe_and (pe_call GN (hr.mono (by decide)) rfl mN kN bN .nil pass0 (pa_cons (pv 0) pa_nil)) (pe_and (pe_call GT hr rfl mT kT bT .nil pass0 (pa_cons (pv 1) pa_nil))
      (pe_and (pe_call GT hr rfl mT kT bT .nil pass0 (pa_cons (pv 2) pa_nil)) (pe_one (pe_cmpR op_lt (pv 1) (pv 2) (nomark _))))))), ?_⟩
    have fin : ∀ (c : Bool) (H' : Hp), Same H H' → c = okStay z a b → Q (.bl c) H' := fun c H' s e => by
      rw [e]
      exact k _ s
    refine ⟨_, rfl, z, rfl, hz, fun H1 s1 => ⟨_, rfl, ?_⟩⟩
    refine ite2 (fun h1 => ⟨_, rfl, a, rfl, _, rfl, ?_⟩) (fun h1 => fin _ _ s1 (by unfold okStay; rw [Bool.eq_false_iff.mpr h1]; rfl))
    refine ite2 (fun h2 => ⟨_, rfl, b, rfl, _, rfl, ?_⟩) (fun h2 => fin _ _ s1 (by unfold okStay; rw [Bool.eq_false_iff.mpr h2]; simp))
    refine ite2 (fun h3 => ⟨_, rfl, _, rfl, _, _, rfl, rfl, ?_⟩) (fun h3 => fin _ _ s1 (by unfold okStay; rw [Bool.eq_false_iff.mpr h3]; simp))
    exact fin _ _ s1 (by unfold okStay; rw [h1, h2, h3]; rfl)
end
end Sh1
set_option Elab.async false
set_option linter.all false
set_option maxRecDepth 100000
set_option maxHeartbeats 2000000
namespace Sh1
open PySem L2 Sho NdefX
abbrev nfInv (cc cda : Addr) : NF := ⟨"__init__", "InvalidStay.__init__", defArgs sInvInit, defBody sInvInit, defScope sInvInit, [("__class__", cc)], cda⟩
/-- an own error that stores one field -/
structure ErrC (P : Program) (K : PySem.W.Frag) (mg : Str → Option Value) (x fld : Str) (F : Addr → Addr → NF) (C : Addr) : Prop where
  txt : ∃ f cc cda, SupTxt P K mg (F cc cda) f cc C ∧ PySem.W.findIn K (.ref C) "__init__" = some (some (.ref f)) ∧ PySem.W.typeIn K (.ref f) = some (.type "function")
  cls : SupCls K C C
  xf : XfC K C
  no : PySem.W.findIn K (.ref C) fld = some none
  gm : mg x = some (.ref C)
  exm : PySem.W.exmOne K (.ref C) (.ref C) = some true
section
variable {X : Cx} {CX : CXT} {C : Addr} {k : Nat} {kws : List Keyword} {te : TA} {p pos : Pos}
theorem tells_len {v : V} (h : Tells v) : (∃ y : Str, v = .str y ∧ y.length ≤ 100000) ∨ ∃ i : Int, v = .int i ∧ i.natAbs.log2 < 1920 ∧ (Str.ofString (toString i)).length ≤ 100000 := by
  rcases h with ⟨y, rfl, hy⟩ | ⟨i, rfl, hi⟩
  · exact .inl ⟨y, rfl, hy⟩
  · exact .inr ⟨i, rfl, hi, Nat.le_trans (PyProof.Rows.int_text_len_1921 hi) (by decide)⟩
theorem small_cat {a b : Str} {n m : Nat} (ha : a.length ≤ n) (hb : b.length ≤ m) : (a ++ b).length ≤ n + m := by
  rw [PySem.Str.length_append]
  omega
theorem pmk_inv (EC : ErrC X.prog X.K X.mg "InvalidStay" "index" nfInv C) (hr : Room (k + 2) X.A) (hx : Passes CX X (fun _ _ _ => False)) (hg : Gl X "InvalidStay")
    (hkw : PK X kws te) (hall : (backToKw pos (keywordEach kws X.env)).all (·.1.isSome) = true) (hks : (backToKw pos (keywordEach kws X.env)).filterMap (·.1) = [("index" : Str)])
    (hpl : ((backTo pos (starEach [] X.env)).any (·.1) || (backToKw pos (keywordEach kws X.env)).any (·.1.isNone)) = false) : PMk X (.Call (.Name "InvalidStay" p) [] kws pos) (tMkW C "index" te) := by
  obtain ⟨f, cc, cda, T, iC, tI⟩ := EC.txt
  have S : NScope ["self", "index", "__class__"] ["self", "index"] ["__class__"] (defScope sInvInit) := nscope_by (by decide +kernel)
  refine pmk_kw (F := nfInv cc cda) (fld := "index") (k := k) T EC.cls EC.xf EC.no iC tI S hr hx hg EC.gm hkw hall hks hpl rfl (fun s doc pm an ct xa u => .of_eq rfl) (fun A outer s H E xa v hv => ?_) (fun L => rfl) (fun L => rfl) (fun L => rfl)
  refine ⟨_, pa_cons (pe_joined (.cons pe_str (.cons (pe_fmt (pv 1)) (.cons pe_str .nil)))) pa_nil, fun R hR => ?_⟩
  have e0 : (Str.empty ++ Str.ofString "stay ").length ≤ 10 := by decide +kernel
  have e2 : (Str.ofString " is not allowed").length ≤ 20 := by decide +kernel
  refine ⟨_, rfl, Nat.le_trans e0 (by decide), v, rfl, ?_⟩
  rcases tells_len hv with ⟨y, rfl, hy⟩ | ⟨i, rfl, hi, hl⟩
  · have l1 := small_cat e0 hy
    have l2 := small_cat l1 e2
    exact .inl ⟨y, rfl, Nat.le_trans hy (by decide), y, rfl, Nat.le_trans l1 (by decide), _, rfl, Nat.le_trans l2 (by decide), hR _⟩
  · have l1 := small_cat e0 hl
    have l2 := small_cat l1 e2
    exact .inr ⟨i, rfl, hi, _, rfl, Nat.le_trans l1 (by decide), _, rfl, Nat.le_trans l2 (by decide), hR _⟩
end
end Sh1
set_option Elab.async false
set_option linter.all false
set_option maxRecDepth 100000
set_option maxHeartbeats 2000000
namespace Sh1
open PySem L2 Sho NdefX
abbrev nfUnk (cc cda : Addr) : NF := ⟨"__init__", "UnknownGuest.__init__", defArgs sUnkInit, defBody sUnkInit, defScope sUnkInit, [("__class__", cc)], cda⟩
section
variable {X : Cx} {CX : CXT} {C : Addr} {k : Nat} {kws : List Keyword} {te : TA} {p pos : Pos}
theorem pmk_unk (EC : ErrC X.prog X.K X.mg "UnknownGuest" "name" nfUnk C) (hr : Room (k + 2) X.A) (hx : Passes CX X (fun _ _ _ => False)) (hg : Gl X "UnknownGuest")
    (hkw : PK X kws te) (hall : (backToKw pos (keywordEach kws X.env)).all (·.1.isSome) = true) (hks : (backToKw pos (keywordEach kws X.env)).filterMap (·.1) = [("name" : Str)])
    (hpl : ((backTo pos (starEach [] X.env)).any (·.1) || (backToKw pos (keywordEach kws X.env)).any (·.1.isNone)) = false) : PMk X (.Call (.Name "UnknownGuest" p) [] kws pos) (tMkW C "name" te) := by
  obtain ⟨f, cc, cda, T, iC, tI⟩ := EC.txt
  have S : NScope ["self", "name", "__class__"] ["self", "name"] ["__class__"] (defScope sUnkInit) := nscope_by (by decide +kernel)
  refine pmk_kw (F := nfUnk cc cda) (fld := "name") (k := k) T EC.cls EC.xf EC.no iC tI S hr hx hg EC.gm hkw hall hks hpl rfl (fun s doc pm an ct xa u => .of_eq rfl) (fun A outer s H E xa v hv => ?_) (fun L => rfl) (fun L => rfl) (fun L => rfl)
  refine ⟨_, pa_cons (pe_joined (.cons pe_str (.cons (pe_fmt (pv 1)) .nil))) pa_nil, fun R hR => ?_⟩
  have e0 : (Str.empty ++ Str.ofString "there is no guest ").length ≤ 30 := by decide +kernel
  refine ⟨_, rfl, Nat.le_trans e0 (by decide), v, rfl, ?_⟩
  rcases tells_len hv with ⟨y, rfl, hy⟩ | ⟨i, rfl, hi, hl⟩
  · have l1 := small_cat e0 hy
    exact .inl ⟨y, rfl, Nat.le_trans hy (by decide), y, rfl, Nat.le_trans l1 (by decide), hR _⟩
  · have l1 := small_cat e0 hl
    exact .inr ⟨i, rfl, hi, _, rfl, Nat.le_trans l1 (by decide), hR _⟩
end
end Sh1
set_option Elab.async false
set_option linter.all false
set_option maxRecDepth 100000
set_option maxHeartbeats 2000000
/-! enumerate of a tuple. -/
namespace ShE
open PySem
open Sem (wp)
open AutoSeq1 (wpAny_loadPart')
/-- the enumerate of the tuple o at t -/
theorem meets_enumT (t : Addr) (o : Obj) (items : Array Value) (hc : o.cls = .type "tuple") (n : Nat) (hd : o.data = .seq items n) :
    Meets (Builtin.«enumerate.__new__» ⟨[.type "enumerate", .ref t], []⟩) (fun _ R s => s.heap.get? t = some o ∧
      R (.ok (.ret (.ref (s.heap.push { cls := .type "tuple_iterator", data := .fields #[.ref t, .int 0 0] }).objs.size)))
        { s with heap := (s.heap.push { cls := .type "tuple_iterator", data := .fields #[.ref t, .int 0 0] }).push { cls := .type "enumerate", data := .fields #[.none, .bool false, .ref s.heap.objs.size, rawInt 0, .none, .none] } }) :=
  .of_wp fun prog w A R s h => by
    obtain ⟨hp, g, d, tk, os⟩ := s
    obtain ⟨ht, h⟩ := h
    obtain ⟨oc, od, odt, osl⟩ := o
    replace hc : oc = .type "tuple" := hc
    replace hd : odt = .seq items n := hd
    subst hc hd
    have sub := sub_enumerate
    have isT : Heap.IsTuple (Shared.heap ⟨hp, g, d, tk, os⟩) t items := ⟨_, ht, rfl, n, rfl⟩
    wp_walk using wpAny_loadPart' ht
    refine wpAny_stack_any fun st => wpAny_pure ?_
    split
    · rename_i c _ _ _ _ _
      cases (c == Value.type "enumerate")
      all_goals
        wp_walk using wpAny_loadPart' ht, wpAny_pyIter_tuple isT
        exact ⟨_, rfl, h⟩
    · wp_walk using wpAny_loadPart' ht, wpAny_pyIter_tuple isT
      exact ⟨_, rfl, h⟩
section
variable {prog : Program} {w : World} {A : Around} {E : Value → Shared → Prop} {s : Shared}
theorem call_enumT {t : Addr} {items : Array Value} {Q : Value → Shared → Prop} (hT : s.heap.IsTuple t items)
    (h : ∀ h', IsEnum h' (s.heap.objs.size + 1) s.heap.objs.size 0 .none → h'.IsTupleIter s.heap.objs.size t 0 → h'.objs.size = s.heap.objs.size + 2 →
      (∀ b o, s.heap.get? b = some o → h'.get? b = some o) → Q (.ref (s.heap.objs.size + 1)) { s with heap := h' }) :
    wpAny (model prog w) A (call (.type "enumerate") [.ref t]) Q E s := by
  obtain ⟨o, ho, hc, n, hd⟩ := hT
  refine callType_new F.called_enumerate (by decide) (F.typeCall_enumerate_1 _) (F.newCall_enumerate_1 _) (fun obj => F.args_object_init_2 obj _) F.entry_enumerate_new
    (meets_enumT t o items hc n hd) ⟨ho, ?_⟩
  generalize hI : s.heap.push { cls := .type "tuple_iterator", data := .fields #[.ref t, .int 0 0] } = h1
  have z1 : h1.objs.size = s.heap.objs.size + 1 := by
    rw [← hI]
    exact Heap.size_push ..
  have it1 : h1.get? s.heap.objs.size = some { cls := .type "tuple_iterator", data := .fields #[.ref t, .int 0 0] } := by
    rw [← hI]
    exact Heap.get?_push_size _ rfl
  show _ ∧ _
  rw [z1]
  have en : IsEnum (h1.push { cls := .type "enumerate", data := .fields #[.none, .bool false, .ref s.heap.objs.size, rawInt 0, .none, .none] }) (s.heap.objs.size + 1) s.heap.objs.size 0 .none := by
    have := Heap.get?_push_size h1 (o := { cls := .type "enumerate", data := .fields #[.none, .bool false, .ref s.heap.objs.size, rawInt 0, .none, .none] }) rfl
    rw [z1] at this
    exact this
  refine ⟨⟨_, en, rfl⟩, h _ en ⟨_, Heap.get?_push_of_some _ it1, rfl, rfl⟩ (by rw [Heap.size_push, z1]) fun b o x => Heap.get?_push_of_some _ ?_⟩
  rw [← hI]
  exact Heap.get?_push_of_some _ x
end
end ShE

namespace Sho
open PySem PySem.Spec PyProof.Rows L2
/-- enumerate of the tuple at a: pairs of the turn and its item -/
def Iet (K : PySem.W.Frag) (a : Addr) : It :=
  ⟨fun i H => ∃ (xs : List V) (x : V), SqT K H a xs ∧ xs[i]? = some x, fun i H v H' => ∃ T x, v = .ref T ∧ H T = none ∧ H' = upd H T (.tup [.int (i : Nat), x]) ∧ ∀ xs, SqT K H a xs → xs[i]? = some x,
    fun i H => ∃ xs : List V, SqT K H a xs ∧ xs.length = i⟩
theorem walk_enumT {K : PySem.W.Frag} {a : Addr} {xs : List V} : Walk (Iet K a) xs.length (fun H => SqT K H a xs) (YPair (fun i => some (.int (i : Nat))) (fun i => xs[i]?)) := by
  refine ⟨fun i H hi q => ⟨xs, xs[i], q, by simp [hi]⟩, fun H q => ⟨xs, q, rfl⟩, fun i H v H' _ q y => ?_⟩
  obtain ⟨T, x, h1, h2, h3, h4⟩ := y
  exact ⟨T, .int (i : Nat), x, h1, h2, h3, rfl, h4 xs q⟩
theorem turn_enumT {P : Program} {w : World} {K : PySem.W.Frag} {elts : List Expr} {kk : Nat} {tpos : Pos} (a e it : Addr) :
    Turn P w K (.Tuple elts kk tpos) (Iet K a) [e, it] e (fun i h => (∃ old, IsEnum h e it ((i : Nat) : Int) old) ∧ h.IsTupleIter it a i ∧ e ≠ it ∧ a ≠ it ∧ a ≠ e) where
  mem := by simp
  obj := fun i h st b hb => by
    obtain ⟨⟨old, he⟩, ⟨o, ho, hc, hd⟩, _⟩ := st
    have two : b = e ∨ b = it := by simpa using hb
    rcases two with z | z
    · rw [z]
      exact ⟨_, he, fun v q => nomatch q⟩
    · rw [z]
      exact ⟨o, ho, fun v q => by rw [hd] at q; cases q⟩
  keep := fun i h h' st k => let ⟨⟨old, he⟩, hi, n⟩ := st; ⟨⟨old, k e (by simp) _ he⟩, hi.at fun o q => k it (by simp) o q, n⟩
  item := by
    intro X hP hw hK hc i pins s σ H E I hf st hg
    subst hP hw hK
    obtain ⟨⟨old, he⟩, hit, n1, n2, n3⟩ := st
    obtain ⟨xs, x, hq, hx⟩ := hg
    obtain ⟨its, rv, isT, hz⟩ := I.tuple hq
    have DR := Draws.tuple (prog := X.prog) (w := X.w) (A := X.A.in1) (I.ok.hd hc) it a n2 its.toArray
    obtain ⟨u, hu, ru⟩ := rv.get hx
    have lt : i < its.toArray.size := by
      rw [List.size_toArray]
      exact (List.getElem?_eq_some_iff.mp hu).1
    refine wpAny_pyNext_enum_itemD DR he ⟨hit, isT⟩ lt n1 (by simp [n1, Ne.symm n3]) fun u' h' tk hu' ho st' hT hsz hk => ?_
    have eu : u' = u := by
      have hu' : its.toArray[i]? = some u' := hu'
      rw [List.getElem?_toArray, hu] at hu'
      exact (Option.some.inj hu').symm
    subst eu
    have hel : e < s.heap.objs.size := Heap.lt_size he
    have hil : it < s.heap.objs.size := by
      obtain ⟨_, q, _⟩ := hit
      exact Heap.lt_size q
    refine ⟨_, rfl, wpAny_letOwnedTupleGo_enum (s := { s with heap := h', toks := tk + 1 }) ho fun h'' he' sb => ?_⟩
    have hT2 : h''.get? s.heap.objs.size = some { cls := .type "tuple", data := .seq #[.int i tk, u'] } := (sb.2 _ (Nat.ne_of_gt hel)).trans hT
    have new : ObjOk X.prog X.w (upd H s.heap.objs.size (.tup [.int (i : Nat), x])) h'' s.heap.objs.size (.tup [.int (i : Nat), x]) :=
      ⟨by show 2 ≤ sizeLine; decide, [.int i tk, u'], .cons ⟨_, rfl⟩ (.cons ru .nil), ⟨_, hT2, rfl, _, rfl⟩⟩
    have I1 : Inv X pins σ (upd H s.heap.objs.size (.tup [.int (i : Nat), x])) { s with heap := h'', toks := tk + 1 } :=
      I.turnedNew (ch := [e, it]) (fun b ob hb q => (sb.2 b (fun z => hb (by simp [z]))).trans (hk b ob (fun z => hb (by simp [z])) (fun z => hb (by simp [z])) q)) hf (Nat.le_refl _) new
    refine ⟨.ref s.heap.objs.size, _, I1, rfl, ⟨_, x, rfl, I.hok.fresh (Nat.le_refl _), rfl, fun ys hy => by rw [I.tuple_inj hy hq]; exact hx⟩, ⟨⟨u', ?_⟩, st'.1.at fun o q => (sb.2 it (Ne.symm n1)).trans q, n1, n2, n3⟩, fun b hb => ?_⟩
    · have z : ((i + 1 : Nat) : Int) = (i : Int) + 1 := by omega
      rw [z]
      exact he'
    · have old' : b < s.heap.objs.size := by
        have two : b = e ∨ b = it := by simpa using hb
        rcases two with z | z <;> rw [z] <;> assumption
      rw [upd_ne (Nat.ne_of_lt old')]
      exact (hf b hb).1
  done := by
    intro X hP hw hK hc i pins s σ H E I hf st hg
    subst hP hw hK
    obtain ⟨⟨old, he⟩, hit, n1, n2, n3⟩ := st
    obtain ⟨xs, hq, hx⟩ := hg
    obtain ⟨its, rv, isT, hz⟩ := I.tuple hq
    have DR := Draws.tuple (prog := X.prog) (w := X.w) (A := X.A.in1) (I.ok.hd hc) it a n2 its.toArray
    obtain ⟨f0, f1, f2, f3, f4, f5⟩ := hf it (by simp)
    have ei : i = its.toArray.size := by
      rw [List.size_toArray, ← rv.length]
      exact hx.symm
    refine wpAny_pyNext_enum_endD DR he (show _ from ei ▸ ⟨hit, isT⟩) fun h' eb => ⟨rfl, I.turned (t' := s.toks) (fun b o hb q => eb b o hb q) f0 f1 f3 f4 f5⟩
  self := fun A i s Q E st h => let ⟨⟨_, he⟩, _⟩ := st; wpAny_pyIter_enum he h
def iEnumT (K : PySem.W.Frag) (ta : TA) : TI := fun σ H R => ta σ H fun vs H1 => ∃ a xs, vs = [.ref a] ∧ SqT K H1 a xs ∧ R (Iet K a) H1
theorem pi_enumT {X : Cx} {e : Expr} {ta : TA} {p pos tpos : Pos} {elts : List Expr} {kk : Nat} (hg : Gl X "enumerate") (hm : X.mg "enumerate" = none) (ha : PA X [e] ta) (hs : starEach [e] X.env = [(false, eval e X.env)] := by rfl) :
    PI X (.Tuple elts kk tpos) (.Call (.Name "enumerate" p) [e] [] pos) (iEnumT X.K ta) := by
  refine ⟨fun pins s σ H R I h => ?_⟩
  refine Call_ (ld_blt I hg hm boot_enumerate (PyProof.Rows.callWith_type1 (thn (ha.run pos pins s σ H _ I h) fun us s1 y => ?_) hs rfl))
  obtain ⟨vs, H1, I1, r1, a, xs, rfl, hq, q⟩ := y
  cases r1 with
  | cons r rr =>
    cases rr
    cases r
    obtain ⟨its, rv, isT, hz⟩ := I1.tuple hq
    have lt : a < s1.heap.objs.size := by
      obtain ⟨o, ho, _⟩ := isT
      exact Heap.lt_size ho
    refine ShE.call_enumT isT fun h' he hit hsz hk => wpAny_pyIter_enum he ?_
    have I2 : Inv X pins σ H1 { s1 with heap := h' } := I1.kept (t' := s1.toks) hk
    refine ⟨s1.heap.objs.size + 1, [s1.heap.objs.size + 1, s1.heap.objs.size], _, _, H1, rfl, I2, turn_enumT a (s1.heap.objs.size + 1) s1.heap.objs.size,
      ⟨⟨.none, he⟩, hit, Nat.succ_ne_self _, Nat.ne_of_lt lt, Nat.ne_of_lt (Nat.lt_succ_of_lt lt)⟩, fun b hb => ?_, q⟩
    have le : s1.heap.objs.size ≤ b := by
      have two : b = s1.heap.objs.size + 1 ∨ b = s1.heap.objs.size := by simpa using hb
      rcases two with z | z
      · rw [z]
        exact Nat.le_succ _
      · rw [z]
        exact Nat.le_refl _
    exact I1.fpOk le (I1.hok.fresh le)
end Sho

set_option Elab.async false
set_option linter.all false
set_option maxRecDepth 100000
set_option maxHeartbeats 2000000
namespace Sh1
open PySem L2 Sho NdefX
/-! ### stays as data -/
abbrev StaysV (H : Hp) (vs : List V) (xs : List Stay) : Prop := PySem.Paired (StayV H) vs xs
theorem StayV.same {H H' : Hp} {v : V} {x : Stay} (s : Same H H') (h : StayV H v x) : StayV H' v x := by
  obtain ⟨t, e, ht⟩ := h
  exact ⟨t, e, s _ _ ht⟩
theorem StaysV.same {H H' : Hp} (s : Same H H') : ∀ {vs : List V} {xs : List Stay}, StaysV H vs xs → StaysV H' vs xs
  | _, _, .nil => .nil
  | _, _, .cons h r => .cons (h.same s) (StaysV.same s r)
theorem pair_len {α β : Type} {R : α → β → Prop} : ∀ {as : List α} {bs : List β}, PySem.Paired R as bs → as.length = bs.length
  | _, _, .nil => rfl
  | _, _, .cons _ r => congrArg Nat.succ (pair_len r)
theorem pair_get {α β : Type} {R : α → β → Prop} : ∀ {as : List α} {bs : List β} {i : Nat} {a : α}, PySem.Paired R as bs → as[i]? = some a → ∃ b, bs[i]? = some b ∧ R a b
  | _, _, i, a, .nil, h => by simp at h
  | _, _, 0, a, .cons h r, e => by
    simp at e
    subst e
    exact ⟨_, rfl, h⟩
  | _, _, i + 1, a, .cons h r, e => by
    simp at e
    obtain ⟨b, e2, r2⟩ := pair_get r e
    exact ⟨b, by simpa using e2, r2⟩
theorem log_small {i : Nat} (h : i ≤ sizeLine) : ((i : Int)).natAbs.log2 < 1920 := by
  rw [Int.natAbs_natCast]
  rw [sizeLine_eq] at h
  by_cases z : i = 0
  · rw [z]
    decide
  · refine (Nat.log2_lt z).mpr (Nat.lt_of_le_of_lt h ?_)
    exact Nat.lt_of_lt_of_le (show 16777216 < 2 ^ 25 by decide) (Nat.pow_le_pow_right (by decide) (by decide))
/-! ### tests whose answers are known -/
theorem ans_or {A B : TT} {σ : L2.St} {H : Hp} {Q : Bool → Hp → Prop} (a b : Bool) (hA : ∀ R : Bool → Hp → Prop, (∀ H', Same H H' → R a H') → A σ H R)
    (hB : ∀ H1, Same H H1 → a = false → ∀ R : Bool → Hp → Prop, (∀ H', Same H1 H' → R b H') → B σ H1 R) (hQ : ∀ H', Same H H' → Q (a || b) H') : tOr A B σ H Q := by
  refine hA _ fun H1 s1 => ?_
  cases a with
  | true =>
    refine iteT ?_
    have := hQ H1 s1
    rw [Bool.true_or] at this
    exact this
  | false =>
    refine iteF (hB H1 s1 rfl _ fun H2 s2 => ?_)
    have := hQ H2 (s1.trans s2)
    rw [Bool.false_or] at this
    exact this
/-! ### the first invalid stay -/
def badStay (i : Nat) (seen : List Str) (x : Stay) : Bool := decide ((i : Int) = 24) || (seen.any (fun y => y == x.1) || !okStay x.1 x.2.1 x.2.2)
def firstBadFrom : Nat → List Str → List Stay → Option Nat
  | _, _, [] => none
  | i, seen, x :: r => if badStay i seen x = true then some i else firstBadFrom (i + 1) (seen ++ [x.1]) r
def firstBad (xs : List Stay) : Option Nat := firstBadFrom 0 [] xs
theorem inV_strs (z : Str) (l : List Str) : inV (.str z) (l.map V.str) = l.any (fun y => y == z) := by
  unfold inV
  rw [List.any_map]
  rfl
theorem flat_strs (l : List Str) : (l.map V.str).all flatV = true := by
  rw [List.all_map]
  exact List.all_eq_true.mpr fun _ _ => rfl
section
variable {P : Program} {w : World} {K : PySem.W.Frag} {mg : Str → Option Value} {base : Heap}
/-- names of a reasonable length -/
def Short (xs : List Stay) : Prop := ∀ x ∈ xs, x.1.length ≤ 100000 ∧ x.1.cps.all (· < 0x110000) = true
def spCheck (CI : Addr) : Sp := fun vs H Q E => ∃ (a : Addr) (ws : List V) (xs : List Stay), vs = [.ref a, .int 24] ∧ H a = some (.tup ws) ∧ StaysV H ws xs ∧ Short xs ∧ xs.length ≤ sizeLine ∧
  (firstBad xs = none → ∀ H', Same H H' → Q .non H') ∧
  ∀ i, firstBad xs = some i → ∀ (H' : Hp) (d : Addr), Same H H' → H d = none → H' d = some (.xd [(("index" : Str), .int (i : Nat))]) → E (.ref CI) (some d) H'
theorem scCheck : FnScope ["stays", "most", "names", "index", "name", "come", "go"] ["stays", "most"] (defScope sCheck) := ⟨rfl, rfl, rfl, by decide +kernel, rfl, by decide +kernel, by decide +kernel⟩
theorem ok_check {f fS CI : Addr} {fd fdS : FuncData} (F : Fun K "_check_stays" "_check_stays" sCheck f fd) (B : Blt mg) (EC : ErrC P K mg "InvalidStay" "index" nfInv CI)
    (GS : FnOk P w K mg base CX0 3 fS fdS ["name", "come", "go"] spIsStay) (mS : mg "is_stay" = some (.ref fS)) (kS : PySem.W.keepIn K (.ref fS) = true) (bS : Binds K fdS ["name", "come", "go"] []) :
    FnOk P w K mg base (L2.CX P w) 4 f fd ["stays", "most"] (spCheck CI) := by
  refine F.okX scCheck (fun vs H Q E h => ?_) (fun cdv A outer s H vs Q E hr h => ?_)
  · obtain ⟨a, ws, xs, rfl, _⟩ := h
    rfl
  · obtain ⟨a, ws, xs, rfl, ha, hxs, hsh, hz, kOk, kBad⟩ := h
    have nd := scCheck.nd
    refine ⟨_, pss_cons (ps_set (i := 2) nd rfl (Or.inl rfl) (pe_lst pa_nil)) (pss_one (ps_for (passes_of rfl) rfl (pi_enumT (by rfl) B.enum (pa_cons (pv 0) pa_nil))
      (pg_tup rfl (pgs_cons (pg_name (i := 3) nd rfl (Or.inl rfl)) (pgs_cons (pg_tup rfl (pgs_cons (pg_name (i := 4) nd rfl (Or.inl rfl)) (pgs_cons (pg_name (i := 5) nd rfl (Or.inl rfl)) (pgs_cons (pg_name (i := 6) nd rfl (Or.inl rfl)) pgs_nil)))) pgs_nil)))
      (pss_cons (ps_if (PW.pt (pw_or (pt_cmpR op_eq (pv 3) (pv 1) (nomark _)) (pw_or (pt_cmpR op_in_seq (pv 4) (pv 2) rfl) (pw_or1 (pt_not (pt_val (pe_call GS hr rfl mS kS bS .nil pass0 (pa_cons (pv 4) (pa_cons (pv 5) (pa_cons (pv 6) pa_nil))))))))))
          (pss_one (ps_raise rfl (takes_of rfl rfl rfl rfl) (pmk_inv (k := 0) EC (hr.mono (by decide)) passL (by rfl) (pk_cons (pv 3) pk_nil) rfl rfl rfl))) pss_nil)
        (pss_one (ps_expr (pe_bm PySem.F.plainAttrs_list PySem.F.slot_list_append PySem.F.type_list_append mt_append (pv 2) (pa_cons (pv 4) pa_nil))))))), ?_⟩
    refine ⟨Nat.zero_le _, fun L hL => ?_⟩
    have s1 : Same H (upd H L (.lst [])) := fun b o e => by rw [upd_ne (ne_of_none e hL)]; exact e
    refine ⟨_, rfl, a, ws, rfl, SqT.of (s1 _ _ ha), for_it walk_enumT (fun i σ H2 => ∃ o3 o4 o5 o6, σ = [some (.ref a), some (.int 24), some (.ref L), o3, o4, o5, o6] ∧ Same H H2 ∧
      H2 L = some (.lst ((xs.take i).map fun x => .str x.1)) ∧ firstBadFrom i ((xs.take i).map fun x => x.1) (xs.drop i) = firstBad xs)
      ⟨none, none, none, none, rfl, s1, upd_same, rfl⟩ (fun i σ H2 _ ⟨_, _, _, _, _, s2, _⟩ => SqT.of (s2 _ _ ha)) ?_ ?_⟩
    · rintro i y σ H2 H3 hi ⟨o3, o4, o5, o6, rfl, s2, hL2, hb⟩ ⟨T, y1, y2, rfl, hT, rfl, e1, e2⟩
      cases e1
      obtain ⟨x, hx, t, rfl, ht⟩ := pair_get hxs e2
      have s3 : Same H2 (upd H2 T (.tup [.int (i : Nat), .ref t])) := fun b o e => by rw [upd_ne (ne_of_none e hT)]; exact e
      have hx1 : x.1.length ≤ 100000 := (hsh x (List.mem_of_getElem? hx)).1
      refine ⟨T, _, rfl, SqT.of upd_same, rfl, _, _, rfl, _, _, rfl, t, _, rfl, SqT.of (s3 _ _ (s2 _ _ ht)), rfl, _, _, rfl, _, _, rfl, _, _, rfl, rfl, rfl, ?_⟩
      have hL3 := s3 _ _ hL2
      refine ans_or (decide ((i : Int) = 24)) (((xs.take i).map fun x => x.1).any (fun y => y == x.1) || !okStay x.1 x.2.1 x.2.2) (fun R h => ⟨_, rfl, _, rfl, rfl, _, rfl, ?_⟩) (fun H4 s4 _ R h => ?_) fun H4 s4 => ?_
      · have e : decide (V.int (i : Int) = V.int 24) = decide ((i : Int) = 24) := by
          rw [dec_int]
          rfl
        rw [e]
        exact h _ (Same.refl _)
      · refine ans_or _ _ (fun R h => ⟨_, rfl, _, rfl, L, _, rfl, .inl (SqL.of (s4 _ _ hL3)), rfl, ?_, _, rfl, ?_⟩) (fun H5 s5 _ R h => ⟨_, rfl, _, rfl, _, rfl, x.1, x.2.1, x.2.2, rfl, Nat.le_trans hx1 (by decide), fun H6 s6 => ⟨_, rfl, h _ s6⟩⟩) h
        · have e : (xs.take i).map (fun x => V.str x.1) = ((xs.take i).map fun x => x.1).map V.str := by
            rw [List.map_map]
            rfl
          rw [e]
          exact flat_strs _
        · have e : (xs.take i).map (fun x => V.str x.1) = ((xs.take i).map fun x => x.1).map V.str := by
            rw [List.map_map]
            rfl
          rw [e, if_neg Bool.false_ne_true, inV_strs]
          exact h _ (Same.refl _)
      · have hdrop : xs.drop i = x :: xs.drop (i + 1) := by
          have lt := (List.getElem?_eq_some_iff.mp hx)
          obtain ⟨lt, e⟩ := lt
          rw [List.drop_eq_getElem_cons lt, e]
        rw [hdrop] at hb
        unfold firstBadFrom at hb
        have s24 : Same H H4 := (s2.trans s3).trans s4
        by_cases hbad : badStay i ((xs.take i).map fun x => x.1) x = true
        · rw [if_pos hbad] at hb
          have e : (decide ((i : Int) = 24) || (((xs.take i).map fun x => x.1).any (fun y => y == x.1) || !okStay x.1 x.2.1 x.2.2)) = true := hbad
          rw [e]
          refine iteT ⟨_, rfl, _, rfl, .inr ⟨_, rfl, ?_⟩, fun d hd => ?_⟩
          · have lt : i < xs.length := (List.getElem?_eq_some_iff.mp hx).1
            exact log_small (Nat.le_trans (Nat.le_of_lt lt) hz)
          · refine kBad i hb.symm _ d (fun b o z => ?_) (s24.free hd) upd_same
            rw [upd_ne (ne_of_none (s24 _ _ z) hd)]
            exact s24 _ _ z
        · rw [if_neg hbad] at hb
          have e : (decide ((i : Int) = 24) || (((xs.take i).map fun x => x.1).any (fun y => y == x.1) || !okStay x.1 x.2.1 x.2.2)) = false := Bool.eq_false_iff.mpr hbad
          rw [e]
          have hL4 := s4 _ _ hL3
          refine iteF ⟨_, rfl, .inl ⟨rfl, _, SqL.of hL4⟩, _, rfl, L, _, _, rfl, rfl, hL4, ?_, ?_⟩
          · rw [List.length_map, List.length_take]
            have : i < ws.length := hi
            have := pair_len hxs
            omega
          · have take1 : xs.take (i + 1) = xs.take i ++ [x] := by rw [List.take_add_one, hx]; rfl
            refine ⟨_, _, _, _, rfl, fun b o z => ?_, ?_, ?_⟩
            · rw [upd_ne (ne_of_none z hL)]
              exact s24 _ _ z
            · rw [upd_same, take1, List.map_append]
              rfl
            · rw [take1, List.map_append]
              exact hb
    · rintro σ H2 ⟨o3, o4, o5, o6, rfl, s2, hL2, hb⟩
      refine kOk ?_ _ s2
      rw [← hb, pair_len hxs, List.drop_length]
      rfl
end
end Sh1
set_option Elab.async false
set_option linter.all false
set_option maxRecDepth 100000
set_option maxHeartbeats 2000000
namespace Sh1
open PySem L2 Sho NdefX
/-- a Party of the stays xs stands at p -/
def PartyAt (C : Addr) (H : Hp) (p : Addr) (xs : List Stay) : Prop := ∃ dx a ws, H p = some (.ins C dx [(("_stays" : Str), .ref a)]) ∧ H a = some (.tup ws) ∧ StaysV H ws xs
theorem PartyAt.same {C : Addr} {H H' : Hp} {p : Addr} {xs : List Stay} (s : Same H H') (h : PartyAt C H p xs) : PartyAt C H' p xs := by
  obtain ⟨dx, a, ws, h1, h2, h3⟩ := h
  exact ⟨dx, a, ws, s _ _ h1, s _ _ h2, h3.same s⟩
theorem lk_stays (a : V) : List.lookup ("_stays" : Str) [(("_stays" : Str), a)] = some a := by simp [List.lookup]
theorem no_max (a : V) : List.lookup ("MAX_GUESTS" : Str) [(("_stays" : Str), a)] = none := by
  have e : (("MAX_GUESTS" : Str) == ("_stays" : Str)) = false := by decide +kernel
  simp [List.lookup, e]
/-- what the written part says of the class -/
structure PartyC (K : PySem.W.Frag) (mg : Str → Option Value) (C : Addr) : Prop where
  gm : mg "Party" = some (.ref C)
  cl : Cls K C
  nS : NoAttr K C "_stays"
  max : ∃ t, Con K C "MAX_GUESTS" (.int 24) (.int 24 t)
  ca : PySem.W.findIn K (.ref C) "__class__" = some (some (.builtin "object.__class__"))
  cn : PySem.W.specialIn K (.builtin "object.__class__") "__get__" = some (some (.builtin "getset_descriptor.__get__"))
  ct : PySem.W.takesIn K (.builtin "object.__class__") = some true
  mo : PySem.W.mroIn K C (.type "object") = some true
  kS : PySem.W.kitOne K (.ref C) (.ref C) = some true
  kT : PySem.W.kitOne K (.type "tuple") (.ref C) = some false
  sT : PySem.W.subIn K (.type "tuple") (.ref C) = some false
section
variable {P : Program} {w : World} {K : PySem.W.Frag} {mg : Str → Option Value} {base : Heap}
/-! ### Party.__init__ -/
def spPInit (C CI : Addr) : Sp := fun vs H Q E => ∃ (x dx a : Addr) (ws : List V) (xs : List Stay), vs = [.ref x, .ref a] ∧ H x = some (.ins C dx []) ∧ H a = some (.tup ws) ∧ StaysV H ws xs ∧ Short xs ∧ xs.length ≤ sizeLine ∧
  (firstBad xs = none → ∀ H', H' x = some (.ins C dx [(("_stays" : Str), .ref a)]) → (∀ b o, H b = some o → b ≠ x → H' b = some o) → Q .non H') ∧
  ∀ i, firstBad xs = some i → ∀ (H' : Hp) (d : Addr), Same H H' → H d = none → H' d = some (.xd [(("index" : Str), .int (i : Nat))]) → E (.ref CI) (some d) H'
theorem scPInit : FnScope ["self", "stays"] ["self", "stays"] (defScope sPInit) := ⟨rfl, rfl, rfl, by decide +kernel, rfl, by decide +kernel, by decide +kernel⟩
/-- a def of the class with a star parameter -/
structure FunS (K : PySem.W.Frag) (x qual : Str) (st : Stmt) (f : Addr) : Prop where
  ex : ∃ (oc : Value) (od : Option Addr) (doc pm : Value) (an : Option Addr) (cdv ct : Value) (osl : Array (Option Value)),
    K.lookup f = some ⟨oc, od, .func (PySem.W.fnOf x qual (defArgs st) (defBody st) (defScope st) .none .none doc pm an cdv ct), osl⟩ ∧ PySem.W.codeIn K cdv qual = true
theorem ok_pinit {f C CI fC : Addr} {fdC : FuncData} (F : FunS K "__init__" "Party.__init__" sPInit f) (PC : PartyC K mg C)
    (GC : FnOk P w K mg base (L2.CX P w) 4 fC fdC ["stays", "most"] (spCheck CI)) (mC : mg "_check_stays" = some (.ref fC)) (kC : PySem.W.keepIn K (.ref fC) = true) (bC : Binds K fdC ["stays", "most"] []) :
    FnR P w K mg base (L2.CX P w) 5 f (fun vs H Q E => ∃ ws rest, vs = ws ++ rest ∧ ws.length = (["self"] : List Str).length ∧ rest.length ≤ sizeLine ∧ ∀ p, H p = none → spPInit C CI (ws ++ [V.ref p]) (upd H p (.tup rest)) Q E) := by
  obtain ⟨oc, od, doc, pm, an, cdv, ct, osl, lk, hcd⟩ := F.ex
  refine StX.fn_star (ps := ["self"]) (pv := "stays") lk hcd scPInit StX.cxUp (StX.bind_star1 (B := fun us => bindArgs (PySem.W.fnOf "__init__" "Party.__init__" (defArgs sPInit) (defBody sPInit) (defScope sPInit) .none .none doc pm an cdv ct) ⟨us, []⟩) (p1 := "self") (pv := "stays") (fun a => rfl) fun a r rs => rfl) fun A outer s H vs Q E hr h => ?_
  obtain ⟨x, dx, a, ws, xs, rfl, hx, ha, hxs, hsh, hz, kOk, kBad⟩ := h
  obtain ⟨t24, c24⟩ := PC.max
  refine ⟨_, pss_cons (ps_expr (pe_call GC hr rfl mC kC bC .nil (passes_call (takes_of rfl rfl rfl rfl) fun _ _ _ _ z => z) (pa_cons (pv 1) (pa_cons (pe_con (pv 0) rfl) pa_nil)))) (pss_one (ps_fld (pv 0) (pv 1) rfl)), ?_⟩
  refine ⟨_, rfl, _, rfl, x, C, dx, [], .int 24, _, rfl, hx, PC.cl, c24, rfl, a, ws, xs, rfl, ha, hxs, hsh, hz, fun ok H' s' => ?_, kBad⟩
  refine ⟨_, rfl, _, rfl, x, C, dx, [], rfl, s' _ _ hx, PC.cl, PC.nS, by decide, ?_⟩
  exact kOk ok _ upd_same fun b o e hb => by rw [upd_ne hb]; exact s' _ _ e
abbrev spPNew (C CI : Addr) : Sp := fun vs H Q E => ∃ ws rest, vs = ws ++ rest ∧ ws.length = (["self"] : List Str).length ∧ rest.length ≤ sizeLine ∧ ∀ p, H p = none → spPInit C CI (ws ++ [V.ref p]) (upd H p (.tup rest)) Q E
/-- a new Party of these stays, or the error of the first invalid one -/
theorem party_new {C CI : Addr} {H : Hp} {Q : VK} {E : XK} {ys : List V} {xs : List Stay} (hxs : StaysV H ys xs) (hsh : Short xs) (hz : ys.length ≤ sizeLine)
    (ok : firstBad xs = none → ∀ (p : Addr) (H' : Hp), Same H H' → H p = none → PartyAt C H' p xs → Q (.ref p) H')
    (bad : ∀ i, firstBad xs = some i → ∀ (H' : Hp) (d : Addr), Same H H' → H d = none → H' d = some (.xd [(("index" : Str), .int (i : Nat))]) → E (.ref CI) (some d) H') :
    ∀ x dx, H x = none → H dx = none → dx ≠ x → spPNew C CI (V.ref x :: ys) (upd (upd H dx (.own x)) x (.ins C dx [])) (fun v H2 => v = .non ∧ Q (.ref x) H2) E := by
  intro x dx hx hdx ne
  refine ⟨[.ref x], ys, rfl, rfl, hz, fun p hp => ?_⟩
  have px : p ≠ x := fun z => by
    rw [z, upd_same] at hp
    cases hp
  have hp0 : H p = none := by
    rw [upd_ne px] at hp
    by_cases pd : p = dx
    · rw [pd]
      exact hdx
    · rw [upd_ne pd] at hp
      exact hp
  have pd : p ≠ dx := fun z => by
    rw [upd_ne px, z, upd_same] at hp
    cases hp
  have same : Same H (upd (upd (upd H dx (.own x)) x (.ins C dx [])) p (.tup ys)) := fun b o e => by
    rw [upd_ne (ne_of_none e hp0), upd_ne (ne_of_none e hx), upd_ne (ne_of_none e hdx)]
    exact e
  refine ⟨x, dx, p, ys, xs, rfl, by rw [upd_ne (Ne.symm px), upd_same], upd_same, hxs.same same, hsh, by rw [← pair_len hxs]; exact hz, fun h0 H' h1 h2 => ⟨rfl, ?_⟩, fun i hi H' d s' hd e => ?_⟩
  · have s2 : Same H H' := fun b o e => h2 b o (same b o e) (ne_of_none e hx)
    exact ok h0 x H' s2 hx ⟨dx, p, ys, h1, h2 _ _ upd_same px, hxs.same s2⟩
  · exact bad i hi H' d (same.trans s') (same.free hd) e
/-! ### the properties -/
theorem scPStays : FnScope ["self"] ["self"] (defScope sPStays) := ⟨rfl, rfl, rfl, by decide +kernel, rfl, by decide +kernel, by decide +kernel⟩
theorem ok_pstays {f C : Addr} {fd : FuncData} (F : Fun K "stays" "Party.stays" sPStays f fd) (PC : PartyC K mg C) : FnOk P w K mg base CX0 1 f fd ["self"] (getSp C "_stays") := by
  refine F.ok scPStays (fun vs H Q E h => ?_) (fun cdv A outer s H vs Q E hr h => ?_)
  · obtain ⟨a, dx, fs, v, rfl, _⟩ := h
    rfl
  · obtain ⟨a, dx, fs, v, rfl, h1, h2, k⟩ := h
    refine ⟨_, pss_one (ps_ret (pe_fld (pv 0) rfl)), _, rfl, a, C, dx, fs, v, rfl, h1, PC.cl, PC.nS, h2, k⟩
def spPNames (C : Addr) : Sp := fun vs H Q _ => ∃ (p : Addr) (xs : List Stay), vs = [.ref p] ∧ PartyAt C H p xs ∧ xs.length ≤ sizeLine ∧ ∀ H' t, Same H H' → H t = none → H' t = some (.tup (xs.map fun x => .str x.1)) → Q (.ref t) H'
theorem scPNames : FnScope ["self", "name", "come", "go"] ["self"] (defScope sPNames) := ⟨rfl, rfl, rfl, by decide +kernel, rfl, by decide +kernel, by decide +kernel⟩
theorem ok_pnames {f C : Addr} {fd : FuncData} (F : Fun K "names" "Party.names" sPNames f fd) (B : Blt mg) (PC : PartyC K mg C) : FnOk P w K mg base CX0 1 f fd ["self"] (spPNames C) := by
  refine F.ok scPNames (fun vs H Q E h => ?_) (fun cdv A outer s H vs Q E hr h => ?_)
  · obtain ⟨p, xs, rfl, _⟩ := h
    rfl
  · obtain ⟨p, xs, rfl, ⟨dx, a, ws, h1, h2, h3⟩, hz, k⟩ := h
    have nd := scPNames.nd
    refine ⟨_, pss_one (ps_ret (pe_callTy call_tuple_of (by rfl) B.tuple (by decide +kernel) (pa_cons (pe_lc (own := [("name", 1), ("come", 2), ("go", 3)]) (g := gTup K 3 (gCons (gName 1) (gCons (gName 2) (gCons (gName 3) gNil)))) (tt := tYes) rfl nd
      (pi_tup (pe_fld (pv 0) rfl)) (blkOk_by (own := [("name", 1), ("come", 2), ("go", 3)]) (N := ["self", "name", "come", "go"]) (sc := defScope sPNames) (by decide +kernel))
      (fun _ _ _ _ _ => pg_tup rfl (pgs_cons (pg_name (i := 1) nd rfl (Or.inl rfl)) (pgs_cons (pg_name (i := 2) nd rfl (Or.inl rfl)) (pgs_cons (pg_name (i := 3) nd rfl (Or.inl rfl)) pgs_nil))))
      (fun _ _ _ _ _ => pts_nil) (fun _ _ _ _ _ => pv 1)) pa_nil))), ?_⟩
    refine ⟨_, rfl, p, C, dx, _, .ref a, rfl, h1, PC.cl, PC.nS, lk_stays _, a, rfl, ⟨_, SqT.of h2⟩, fun D hD => ?_⟩
    refine lc_map walk_tup (fun i => (xs[i]?).map fun x => .str x.1) hD (by rw [pair_len h3]; exact hz) (fun H1 s1 => SqT.of (s1 _ _ h2)) (fun i x H1 H' hi s1 y R k1 => ?_) (fun i hi => ⟨_, by rw [List.getElem?_eq_getElem (by rw [← pair_len h3]; exact hi)]; rfl⟩) fun H1 s1 e1 => ?_
    · obtain ⟨rfl, e2⟩ := y
      obtain ⟨z, hz2, t, rfl, ht⟩ := pair_get h3 e2
      refine ⟨t, _, rfl, SqT.of (s1 _ _ ht), rfl, _, _, rfl, _, _, rfl, _, _, rfl, rfl, rfl, _, rfl, ?_⟩
      exact k1 _ _ (Same.refl _) (by rw [hz2]; rfl)
    · rw [pair_len h3, gather_map xs fun x => V.str x.1] at e1
      refine ⟨D, _, rfl, .inl ⟨SqL.of e1, fun l hl => ?_⟩⟩
      refine k _ l (fun b o e => ?_) (s1.free hl) upd_same
      rw [upd_ne (ne_of_none (s1 _ _ e) hl)]
      exact s1 _ _ e
end
end Sh1
set_option Elab.async false
set_option linter.all false
set_option maxRecDepth 100000
set_option maxHeartbeats 2000000
/-! Small words that every law's text uses. -/
namespace Shg
open PySem L2 Sho
theorem pair_len {α β : Type} {R : α → β → Prop} : ∀ {as : List α} {bs : List β}, PySem.Paired R as bs → as.length = bs.length
  | _, _, .nil => rfl
  | _, _, .cons _ r => congrArg Nat.succ (pair_len r)
theorem pair_get {α β : Type} {R : α → β → Prop} : ∀ {as : List α} {bs : List β} {i : Nat} {a : α}, PySem.Paired R as bs → as[i]? = some a → ∃ b, bs[i]? = some b ∧ R a b
  | _, _, i, a, .nil, h => by simp at h
  | _, _, 0, a, .cons h r, e => by
    simp at e
    subst e
    exact ⟨_, rfl, h⟩
  | _, _, i + 1, a, .cons h r, e => by
    simp at e
    obtain ⟨b, e2, r2⟩ := pair_get r e
    exact ⟨b, by simpa using e2, r2⟩
theorem pair_mono {α β : Type} {R S : α → β → Prop} (k : ∀ a b, R a b → S a b) : ∀ {as : List α} {bs : List β}, PySem.Paired R as bs → PySem.Paired S as bs
  | _, _, .nil => .nil
  | _, _, .cons h r => .cons (k _ _ h) (pair_mono k r)
theorem pair_app {α β : Type} {R : α → β → Prop} : ∀ {as : List α} {bs : List β} {cs : List α} {ds : List β}, PySem.Paired R as bs → PySem.Paired R cs ds → PySem.Paired R (as ++ cs) (bs ++ ds)
  | _, _, _, _, .nil, k => k
  | _, _, _, _, .cons h r, k => .cons h (pair_app r k)
theorem same_upd {p : Addr} {H : Hp} {o : HO} (hp : H p = none) : Same H (upd H p o) := fun b u e => by rw [upd_ne (ne_of_none e hp)]; exact e
theorem asg_seq {te : TE} {g : TG} {u : TS} {D : Ends} {σ : L2.St} {H : Hp} (h : te σ H fun x H1 => g x σ H1 (u D)) : tSeq (tAsg te g) u D σ H := h
theorem asg_one {te : TE} {g : TG} {D : Ends} {σ : L2.St} {H : Hp} (h : te σ H fun x H1 => g x σ H1 D.nx) : tAsg te g D σ H := h
theorem cons_of {te : TE} {ta : L2.TA} {σ : L2.St} {H : Hp} {Q : List V → Hp → Prop} (h : te σ H fun v H1 => ta σ H1 fun vs H2 => Q (v :: vs) H2) : tCons te ta σ H Q := h
theorem name_of {i : Nat} {v : V} {σ : L2.St} {H : Hp} {N : L2.St → Hp → Prop} {r : VK} {b c : L2.St → Hp → Prop} (h : N (σ.set i (some v)) H) : gName i v σ H (L2.Ends.nx { nx := N, rt := r, bk := b, ct := c }) := h
theorem name_at {i : Nat} {v : V} {σ : L2.St} {H : Hp} {N : L2.St → Hp → Prop} (h : N (σ.set i (some v)) H) : gName i v σ H N := h
theorem lst_of {t : L2.TA} {σ : L2.St} {H : Hp} {Q : VK} (h : t σ H fun xs H1 => xs.length ≤ sizeLine ∧ ∀ p, H1 p = none → Q (.ref p) (upd H1 p (.lst xs))) : tLst t σ H Q := h
theorem nx_of {N : L2.St → Hp → Prop} {r : VK} {b c : L2.St → Hp → Prop} {σ : L2.St} {H : Hp} (h : N σ H) : L2.Ends.nx { nx := N, rt := r, bk := b, ct := c } σ H := h
theorem asg_val {te : TE} {g : TG} {u : TS} {D : Ends} {σ : L2.St} {H : Hp} (v : V) (h1 : ∀ R : VK, (∀ H', Same H H' → R v H') → te σ H R) (h2 : ∀ H', Same H H' → g v σ H' (u D)) : tSeq (tAsg te g) u D σ H := h1 _ h2
theorem asg_rel {te : TE} {g : TG} {u : TS} {D : Ends} {σ : L2.St} {H : Hp} (P : V → Hp → Prop) (h1 : ∀ R : VK, (∀ v H', P v H' → R v H') → te σ H R) (h2 : ∀ v H', P v H' → g v σ H' (u D)) : tSeq (tAsg te g) u D σ H := h1 _ h2
theorem if_rel {c : TT} {A u : TS} {D : Ends} {σ : L2.St} {H : Hp} (P : Hp → Prop) (h1 : ∀ R : Bool → Hp → Prop, (∀ H', P H' → R false H') → c σ H R) (h2 : ∀ H', P H' → u D σ H') : tSeq (tIfS c A tNext) u D σ H :=
  h1 _ fun H' p => iteF (h2 H' p)
theorem if_rel1 {c : TT} {A : TS} {D : Ends} {σ : L2.St} {H : Hp} (P : Hp → Prop) (h1 : ∀ R : Bool → Hp → Prop, (∀ H', P H' → R false H') → c σ H R) (h2 : ∀ H', P H' → D.nx σ H') : tIfS c A tNext D σ H :=
  h1 _ fun H' p => iteF (h2 H' p)
theorem ok_no {P : Program} {w : World} {K : PySem.W.Frag} {mg : Str → Option Value} {base : Heap} {CX : CXT} {k : Nat} {f : Addr} {fd : FuncData} {ps : List Str} : FnOk P w K mg base CX k f fd ps (fun _ _ _ _ => False) :=
  ⟨fun _ _ _ _ h => h.elim, fun _ _ _ _ _ _ _ _ _ _ _ _ _ h => h.elim⟩
theorem free_by {sn os : List (Str × NameKind)} (h : (sn.all fun y => !decide (y.2 = .free) || (decide (os.lookup y.1 = some .cell) || decide (os.lookup y.1 = some .free))) = true) :
    ∀ y ∈ sn, y.2 = .free → os.lookup y.1 = some .cell ∨ os.lookup y.1 = some .free := fun y hy e => by
  have q := List.all_eq_true.mp h y hy
  rw [decide_eq_true e] at q
  simpa using q
abbrev scL (l : List (Str × NameKind)) : Scope := { kind := .function, names := l, isGenerator := false, isCoroutine := false }
theorem ne_lst {L b : Addr} {H : Hp} {xs : List V} {o : HO} (hL : H L = some (.lst xs)) (e : H b = some o) (n : ∀ ys, o ≠ .lst ys) : b ≠ L := fun z => by
  rw [z, hL] at e
  exact n xs (Option.some.inj e).symm
theorem seq_nat {j n : Nat} (h : j < n) : seqIndex? (j : Int) n = some j := by
  have e0 : (if (j : Int) < 0 then (j : Int) + n else (j : Int)) = (j : Int) := if_neg (by omega)
  show (if (decide (0 ≤ (if (j : Int) < 0 then (j : Int) + n else (j : Int))) && decide ((if (j : Int) < 0 then (j : Int) + n else (j : Int)) < (n : Int))) = true then some (if (j : Int) < 0 then (j : Int) + n else (j : Int)).toNat else none) = some j
  rw [e0]
  have e : (decide (0 ≤ (j : Int)) && decide ((j : Int) < (n : Int))) = true := by simp; omega
  rw [if_pos e]
  simp
theorem ixN_nat {n j : Nat} (hj : j < n) : ixN n (j : Int) = some j := by
  unfold ixN
  rw [if_pos (by omega), if_pos (by omega)]
  simp
theorem gather_filter {α : Type} (xs : List α) (p : α → Bool) (f : α → V) : gather (fun i => (xs[i]?).bind fun x => if p x = true then some (f x) else none) xs.length = (xs.filter p).map f := by
  rw [gather_list]
  induction xs with
  | nil => rfl
  | cons x xs ih =>
    rw [List.filterMap_cons, List.filter_cons]
    cases h : p x with
    | true =>
      simp only [if_true, List.map_cons, ih]
    | false =>
      simp only [Bool.false_eq_true, if_false, ih]
/-- an expression read in one of two ways -/
theorem pe_either {X : Cx} {e : Expr} {t1 t2 : TE} (h1 : PE X e t1) (h2 : PE X e t2) : PE X e (fun σ H Q => t1 σ H Q ∨ t2 σ H Q) :=
  ⟨fun pins s σ H Q I h => h.elim (h1.run pins s σ H Q I) (h2.run pins s σ H Q I)⟩
/-- the builtins that the text calls -/
structure Blt (mg : Str → Option Value) : Prop where
  len : mg "len" = none
  all : mg "all" = none
  isi : mg "isinstance" = none
  bool : mg "bool" = none
  tuple : mg "tuple" = none
  list : mg "list" = none
  range : mg "range" = none
  enum : mg "enumerate" = none
  int : mg "int" = none
  sup : mg "super" = none
  sorted : mg "sorted" = none
  dict : mg "dict" = none
  str : mg "str" = none
  min : mg "min" = none
  max : mg "max" = none
  ve : mg "ValueError" = none
  set : mg "set" = none
  sum : mg "sum" = none
  any : mg "any" = none
/-- all but two objects stay -/
def But2 (l S : Addr) (H H' : Hp) : Prop := ∀ b o, H b = some o → b ≠ l → b ≠ S → H' b = some o
theorem But2.refl {l S : Addr} (H : Hp) : But2 l S H H := fun _ _ e _ _ => e
theorem But2.trans {l S : Addr} {H H1 H2 : Hp} (a : But2 l S H H1) (b : But2 l S H1 H2) : But2 l S H H2 := fun c o e n m => b c o (a c o e n m) n m
theorem But2.of {l S : Addr} {H H' : Hp} (s : Same H H') : But2 l S H H' := fun b o e _ _ => s b o e
theorem But2.upd1 {l S : Addr} {H : Hp} {o : HO} : But2 l S H (upd H l o) := fun b u e nb _ => by rw [upd_ne nb]; exact e
theorem But2.upd2 {l S : Addr} {H : Hp} {o : HO} : But2 l S H (upd H S o) := fun b u e _ nb => by rw [upd_ne nb]; exact e
/-- all but two objects and the tables stay -/
def Keep2 (l S : Addr) (H H' : Hp) : Prop := ∀ b o, H b = some o → b ≠ l → b ≠ S → (∀ ps, o ≠ .tbl ps) → H' b = some o
theorem Keep2.trans {l S : Addr} {H H1 H2 : Hp} (a : Keep2 l S H H1) (b : Keep2 l S H1 H2) : Keep2 l S H H2 := fun c o e n m t => b c o (a c o e n m t) n m t
theorem Keep2.of {l S : Addr} {H H' : Hp} (s : Same H H') : Keep2 l S H H' := fun b o e _ _ _ => s b o e
theorem Keep2.but {l S : Addr} {H H' : Hp} (s : But2 l S H H') : Keep2 l S H H' := fun b o e n m _ => s b o e n m
theorem Keep2.ext {l S : Addr} {H H' : Hp} (s : LamX.ExtN H H') : Keep2 l S H H' := fun b o e _ _ t => s b o e t
/-- a def whose code object is known -/
structure FunL (K : PySem.W.Frag) (x qual : Str) (st : Stmt) (f c : Addr) (fd : FuncData) : Prop where
  ex : ∃ (oc : Value) (od : Option Addr) (kV doc pm : Value) (an : Option Addr) (ct : Value) (osl : Array (Option Value)),
    fd = PySem.W.fnOf x qual (defArgs st) (defBody st) (defScope st) .none kV doc pm an (.ref c) ct ∧ K.lookup f = some ⟨oc, od, .func (PySem.W.fnOf x qual (defArgs st) (defBody st) (defScope st) .none kV doc pm an (.ref c) ct), osl⟩ ∧ PySem.W.codeIn K (.ref c) qual = true
theorem FunL.okX {P : Program} {w : World} {K : PySem.W.Frag} {mg : Str → Option Value} {base : Heap} {x qual : Str} {st : Stmt} {f c : Addr} {fd : FuncData} {N ps : List Str} {k : Nat} {sp : Sp} (F : FunL K x qual st f c fd) (S : FnScope N ps (defScope st)) (len : ∀ vs H Q E, sp vs H Q E → vs.length = ps.length)
    (hbody : ∀ (A : Around) (outer : List Env) (s : Shared) (H : Hp) (vs : List V) (Q : VK) (E : XK), Room k (A.deeper (PyProof.Rows.envOfC qual (defScope st) s.heap.objs.size f (.ref c))) → sp vs H Q E →
      ∃ t, PSs (cxOf (L2.CX P w) P w K mg base N qual (defScope st) f (.ref c) A outer s H E) (defBody st) t ∧ t { nx := fun _ H' => Q .non H', rt := Q } (L2.start N vs) H) : FnOk P w K mg base (L2.CX P w) (k + 1) f fd ps sp := by
  obtain ⟨oc, od, kV, doc, pm, an, ct, osl, rfl, lk, hcd⟩ := F.ex
  exact fn_of lk hcd S len fun A outer s H vs Q E hr hsp => hbody A outer s H vs Q E hr hsp
theorem FunL.ok0 {P : Program} {w : World} {K : PySem.W.Frag} {mg : Str → Option Value} {base : Heap} {x qual : Str} {st : Stmt} {f c : Addr} {fd : FuncData} {N ps : List Str} {k : Nat} {sp : Sp} (F : FunL K x qual st f c fd) (S : FnScope N ps (defScope st)) (len : ∀ vs H Q E, sp vs H Q E → vs.length = ps.length)
    (hbody : ∀ (A : Around) (outer : List Env) (s : Shared) (H : Hp) (vs : List V) (Q : VK) (E : XK), Room k (A.deeper (PyProof.Rows.envOfC qual (defScope st) s.heap.objs.size f (.ref c))) → sp vs H Q E →
      ∃ t, PSs (cxOf CX0 P w K mg base N qual (defScope st) f (.ref c) A outer s H E).nox (defBody st) t ∧ t { nx := fun _ H' => Q .non H', rt := Q } (L2.start N vs) H) : FnOk P w K mg base CX0 (k + 1) f fd ps sp := by
  obtain ⟨oc, od, kV, doc, pm, an, ct, osl, rfl, lk, hcd⟩ := F.ex
  refine fn_of lk hcd S len fun A outer s H vs Q E hr hsp => ?_
  obtain ⟨t, h, q⟩ := hbody A outer s H vs Q E hr hsp
  exact ⟨t, h.nox, q⟩
end Shg
set_option Elab.async false
set_option linter.all false
set_option maxRecDepth 100000
set_option maxHeartbeats 2000000
namespace Sh1
open PySem L2 Sho NdefX He Shh
/-! Facts of the head about Party, InvalidStay, UnknownGuest. -/
section
variable {K : Shh.Fr} {h : Heap} {mg : Str → Option Value}
def cvalB (K : Shh.Fr) (C : Addr) (f : Str) (i : Int) : Bool := match PySem.W.findCls K (.ref C) (.type "type") f with
  | some (.val (.int j _)) => decide (j = i)
  | _ => false
theorem cvalB_ok {C : Addr} {f : Str} {i : Int} (c : cvalB K C f i = true) : ∃ u, ClX.CVal K C (.type "type") f (.int i) u := by
  unfold cvalB at c
  split at c
  · rename_i j t e
    rw [of_decide_eq_true c] at e
    exact ⟨_, e, ⟨_, rfl⟩⟩
  · cases c
def partyB (K : Shh.Fr) (C : Addr) : Bool := PySem.W.plainGet K C Str.empty && (PySem.W.hasDictIn K C && (PySem.W.plainOver K C && (eqO (PySem.W.findIn K (.ref C) "__setattr__") (some (some (.builtin "object.__setattr__"))) &&
  (eqO (PySem.W.findIn K (.ref C) "_stays") (some none) && (conB K "Party" "MAX_GUESTS" (.int 24) && (eqO (PySem.W.findIn K (.ref C) "__class__") (some (some (.builtin "object.__class__"))) &&
  (eqO (PySem.W.specialIn K (.builtin "object.__class__") "__get__") (some (some (.builtin "getset_descriptor.__get__"))) && (decide (PySem.W.takesIn K (.builtin "object.__class__") = some true) && (decide (PySem.W.mroIn K C (.type "object") = some true) &&
  (decide (PySem.W.kitOne K (.ref C) (.ref C) = some true) && (decide (PySem.W.kitOne K (.type "tuple") (.ref C) = some false) && (decide (PySem.W.subIn K (.type "tuple") (.ref C) = some false) && (PySem.W.selfFirst K C && (PySem.W.makesIn K C && (PySem.W.keepIn K (.ref C) &&
  (PySem.W.readsIn K C (.type "type") && (eqO (PySem.W.specialIn K (.ref C) "__getattribute__") (some (some (.builtin "type.__getattribute__"))) && cvalB K C "MAX_GUESTS" 24)))))))))))))))))
structure PartyF (K : Shh.Fr) (mg : Str → Option Value) (C : Addr) : Prop where
  pc : PartyC K mg C
  self : PySem.W.selfFirst K C = true
  makes : PySem.W.makesIn K C = true
  kp : PySem.W.keepIn K (.ref C) = true
  rd : ClX.CRead K C (.type "type")
  mx : ∃ u, ClX.CVal K C (.type "type") "MAX_GUESTS" (.int 24) u
theorem partyB_ok (gm : mg "Party" = some (.ref (ga K "Party"))) (c : partyB K (ga K "Party") = true) : PartyF K mg (ga K "Party") := by
  obtain ⟨c1, c⟩ := ba c
  obtain ⟨c2, c⟩ := ba c
  obtain ⟨c3, c⟩ := ba c
  obtain ⟨c4, c⟩ := ba c
  obtain ⟨c5, c⟩ := ba c
  obtain ⟨c6, c⟩ := ba c
  obtain ⟨c7, c⟩ := ba c
  obtain ⟨c8, c⟩ := ba c
  obtain ⟨c9, c⟩ := ba c
  obtain ⟨c10, c⟩ := ba c
  obtain ⟨c11, c⟩ := ba c
  obtain ⟨c12, c⟩ := ba c
  obtain ⟨c13, c⟩ := ba c
  obtain ⟨c14, c⟩ := ba c
  obtain ⟨c15, c⟩ := ba c
  obtain ⟨c16, c⟩ := ba c
  obtain ⟨c17, c⟩ := ba c
  obtain ⟨c18, c19⟩ := ba c
  have mx : ∃ t, Con K (ga K "Party") "MAX_GUESTS" (.int 24) (.int 24 t) := by
    obtain ⟨u, q⟩ := conB_ok c6 (by decide)
    obtain ⟨t, e⟩ : ∃ t, u = .int 24 t := by
      have r := q.rel
      cases u with
      | int j t =>
        obtain ⟨t', e⟩ := (show ∃ t', Value.int j t = .int 24 t' from r)
        exact ⟨t', e⟩
      | _ =>
        obtain ⟨t', e⟩ := r
        cases e
    rw [e] at q
    exact ⟨t, q⟩
  exact ⟨⟨gm, ⟨c1, c2, c3, eqO_ok c4⟩, eqO_ok c5, mx, eqO_ok c7, eqO_ok c8, of_decide_eq_true c9, of_decide_eq_true c10, of_decide_eq_true c11, of_decide_eq_true c12, of_decide_eq_true c13⟩, c14, c15, c16, ⟨c17, eqO_ok c18⟩, cvalB_ok c19⟩
/-! ### InvalidStay, UnknownGuest -/
abbrev aInv (K : Shh.Fr) : Addr := ga K "InvalidStay"
abbrev aUnk (K : Shh.Fr) : Addr := ga K "UnknownGuest"
abbrev dnErr (x : Str) (qual : Str) (st : Stmt) : Dn := ⟨fun K => eInit K x, "__init__", qual, st, fun K => [(("__class__" : Str), cellA K (eInit K x))]⟩
theorem errC_inv {P : Program} (E : ErrF "/claim/cut.py" K "InvalidStay" "index") (D : FunF K "__init__" "InvalidStay.__init__" sInvInit [(("__class__" : Str), cellA K (eInit K "InvalidStay"))] (eInit K "InvalidStay")) (hf : P.main.file = "/claim/cut.py") (sup : mg "super" = none)
    (h2 : (P.main.scope.names.lookup ("super" : Str)).isSome = false) (gm : mg "InvalidStay" = some (.ref (aInv K))) : ErrC P K mg "InvalidStay" "index" nfInv (aInv K) :=
  ⟨⟨_, _, _, err_txt E D hf sup ⟨_, rfl, rfl⟩ h2 (by decide +kernel) (by decide +kernel) (by decide +kernel), E.ini, E.ity⟩, E.sup, E.xf, E.no, gm, E.exm⟩
theorem errC_unk {P : Program} (E : ErrF "/claim/cut.py" K "UnknownGuest" "name") (D : FunF K "__init__" "UnknownGuest.__init__" sUnkInit [(("__class__" : Str), cellA K (eInit K "UnknownGuest"))] (eInit K "UnknownGuest")) (hf : P.main.file = "/claim/cut.py") (sup : mg "super" = none)
    (h2 : (P.main.scope.names.lookup ("super" : Str)).isSome = false) (gm : mg "UnknownGuest" = some (.ref (aUnk K))) : ErrC P K mg "UnknownGuest" "name" nfUnk (aUnk K) :=
  ⟨⟨_, _, _, err_txt E D hf sup ⟨_, rfl, rfl⟩ h2 (by decide +kernel) (by decide +kernel) (by decide +kernel), E.ini, E.ity⟩, E.sup, E.xf, E.no, gm, E.exm⟩
end
end Sh1
set_option Elab.async false
set_option linter.all false
set_option maxRecDepth 100000
set_option maxHeartbeats 2000000
/-! Facts of the head for laws without the ten errors. -/
namespace Shd
open PySem L2 Sho NdefX He Shh Shg
section
variable {K : Shh.Fr} {h : Heap} {mg : Str → Option Value}
abbrev bltNames : List Str := ["len", "all", "isinstance", "bool", "tuple", "list", "range", "enumerate", "int", "super", "sorted", "dict", "str", "min", "max", "ValueError", "set", "sum", "any"]
theorem blt_ok (X : K.In h) (G : h.Ns mainGlobals mg) (c : freeB K bltNames = true) : Shg.Blt mg := by
  have k : ∀ x, x ∈ bltNames → mg x = none := fun x hx => freeB_ok X G c hx
  exact ⟨k _ (by simp), k _ (by simp), k _ (by simp), k _ (by simp), k _ (by simp), k _ (by simp), k _ (by simp), k _ (by simp), k _ (by simp), k _ (by simp), k _ (by simp), k _ (by simp), k _ (by simp), k _ (by simp), k _ (by simp), k _ (by simp), k _ (by simp), k _ (by simp), k _ (by simp)⟩
end
theorem _root_.Shh.FunF.funL9 {K : Shh.Fr} {x qual : Str} {st : Stmt} {f : Addr} (F : FunF K x qual st [] f) : ∃ fd, Shg.FunL K x qual st f (codeA K f) fd ∧
    (∀ ps : List Str, (∀ (kV doc pm : Value) (an : Option Addr) (cdv ct : Value) (us : List Value), us.length = ps.length → bindArgs (PySem.W.fnOf x qual (defArgs st) (defBody st) (defScope st) .none kV doc pm an cdv ct) ⟨us, []⟩ = pure (ps.zip us)) → Binds K fd ps []) ∧
    ∀ ps : List Str, (∀ (kV doc pm : Value) (an : Option Addr) (cdv ct : Value) (us : List Value), us.length = ps.length → bindArgs (PySem.W.fnOf x qual (defArgs st) (defBody st) (defScope st) .none kV doc pm an cdv ct) ⟨us, []⟩ = pure (ps.zip us)) → ∀ (s : Shared) (us : List Value), us.length = ps.length → BindsTo s fd ⟨us, []⟩ (ps.zip us) := by
  obtain ⟨oc, od, doc, pm, an, ct, osl, lk, hcd⟩ := F.ex
  exact ⟨_, ⟨oc, od, .none, doc, pm, an, ct, osl, rfl, lk, hcd⟩, fun ps h => .all (h .none doc pm an _ ct), fun ps h s us hl => .of_eq (h .none doc pm an _ ct us hl)⟩
abbrev dn (x : Str) (st : Stmt) : Dn := ⟨fun K => ga K x, x, x, st, fun _ => []⟩
def tabA (K : Shh.Fr) (x : Str) : Addr := tabOf K (codeA K (ga K x))
end Shd
set_option Elab.async false
set_option linter.all false
set_option maxRecDepth 100000
set_option maxHeartbeats 4000000
/-! sorted(xs, key=lambda ..): a stable order by whole numbers. -/
namespace Sho
open PySem PySem.Spec PyProof.Rows L2 LamX NdefX

/-! ### the order -/
section
variable {α β : Type}
def insK (p : Int × α) : List (Int × α) → List (Int × α)
  | [] => [p]
  | q :: r => if p.1 ≤ q.1 then p :: q :: r else q :: insK p r
def sortK : List (Int × α) → List (Int × α)
  | [] => []
  | p :: r => insK p (sortK r)
/-- ys in the order of their numbers kz; who stands first stays first among equals -/
def sortV (kz : List Int) (ys : List α) : List α := (sortK (kz.zip ys)).map Prod.snd
theorem insK_perm (p : Int × α) : ∀ l, (insK p l).Perm (p :: l)
  | [] => .refl _
  | q :: r => by
    unfold insK
    split
    · exact .refl _
    · exact ((insK_perm p r).cons q).trans (.swap p q r)
theorem sortK_perm : ∀ l : List (Int × α), (sortK l).Perm l
  | [] => .refl _
  | p :: r => (insK_perm p (sortK r)).trans ((sortK_perm r).cons p)
theorem insK_pair (p : Int × α) : ∀ {l : List (Int × α)}, l.Pairwise (fun a b => a.1 ≤ b.1) → (insK p l).Pairwise (fun a b => a.1 ≤ b.1)
  | [], _ => List.pairwise_singleton _ _
  | q :: r, h => by
    have hh := List.pairwise_cons.mp h
    unfold insK
    split
    · rename_i le
      refine List.pairwise_cons.mpr ⟨fun b hb => ?_, h⟩
      rcases List.mem_cons.mp hb with rfl | hb
      · exact le
      · exact Int.le_trans le (hh.1 b hb)
    · rename_i le
      refine List.pairwise_cons.mpr ⟨fun b hb => ?_, insK_pair p hh.2⟩
      rcases List.mem_cons.mp ((insK_perm p r).mem_iff.mp hb) with rfl | hb
      · omega
      · exact hh.1 b hb
theorem sortK_pair : ∀ l : List (Int × α), (sortK l).Pairwise (fun a b => a.1 ≤ b.1)
  | [] => .nil
  | p :: r => insK_pair p (sortK_pair r)
theorem insK_filter (p : Int × α) (c : Int) : ∀ l : List (Int × α), (insK p l).filter (fun q => q.1 == c) = (p :: l).filter (fun q => q.1 == c)
  | [] => rfl
  | q :: r => by
    unfold insK
    split
    · rfl
    · rename_i le
      have ih := insK_filter p c r
      rw [List.filter_cons, ih, List.filter_cons (x := p), List.filter_cons (x := p), List.filter_cons (x := q)]
      by_cases h1 : (p.1 == c) = true
      · have h2 : (q.1 == c) = false := by
          have := beq_iff_eq.mp h1
          simp only [beq_eq_false_iff_ne, ne_eq]
          omega
        simp [h1, h2]
      · simp [h1]
theorem sortK_filter (c : Int) : ∀ l : List (Int × α), (sortK l).filter (fun q => q.1 == c) = l.filter (fun q => q.1 == c)
  | [] => rfl
  | p :: r => by
    show (insK p (sortK r)).filter _ = _
    rw [insK_filter, List.filter_cons, List.filter_cons, sortK_filter c r]
/-- a sorted list that keeps equals in order is the only one -/
theorem stable_one : ∀ {l m : List (Int × α)}, l.Pairwise (fun a b => a.1 ≤ b.1) → m.Pairwise (fun a b => a.1 ≤ b.1) → (∀ c, l.filter (fun q => q.1 == c) = m.filter (fun q => q.1 == c)) → l = m
  | [], [], _, _, _ => rfl
  | [], q :: m, _, _, h => by
    have := h q.1
    simp at this
  | p :: l, [], _, _, h => by
    have := h p.1
    simp at this
  | p :: l, q :: m, hl, hm, h => by
    have hl' := List.pairwise_cons.mp hl
    have hm' := List.pairwise_cons.mp hm
    have mem1 : p ∈ (q :: m) := by
      have e := h p.1
      have : p ∈ (p :: l).filter (fun z => z.1 == p.1) := List.mem_filter.mpr ⟨List.mem_cons_self, by simp⟩
      rw [e] at this
      exact (List.mem_filter.mp this).1
    have mem2 : q ∈ (p :: l) := by
      have e := h q.1
      have : q ∈ (q :: m).filter (fun z => z.1 == q.1) := List.mem_filter.mpr ⟨List.mem_cons_self, by simp⟩
      rw [← e] at this
      exact (List.mem_filter.mp this).1
    have e1 : q.1 ≤ p.1 := by
      rcases List.mem_cons.mp mem1 with z | z
      · rw [z]; exact Int.le_refl _
      · exact hm'.1 _ z
    have e2 : p.1 ≤ q.1 := by
      rcases List.mem_cons.mp mem2 with z | z
      · rw [z]; exact Int.le_refl _
      · exact hl'.1 _ z
    have ek : p.1 = q.1 := Int.le_antisymm e2 e1
    have hp : p = q := by
      have e := h p.1
      rw [List.filter_cons, List.filter_cons] at e
      simp only [beq_self_eq_true, ek, if_true] at e
      exact (List.cons.inj e).1
    subst hp
    rw [stable_one hl'.2 hm'.2 fun c => ?_]
    have e := h c
    rw [List.filter_cons, List.filter_cons] at e
    split at e
    · exact (List.cons.inj e).2
    · exact e
theorem sortK_one {l m : List (Int × α)} (hm : m.Pairwise (fun a b => a.1 ≤ b.1)) (h : ∀ c, m.filter (fun q => q.1 == c) = l.filter (fun q => q.1 == c)) : m = sortK l :=
  stable_one hm (sortK_pair l) fun c => (h c).trans (sortK_filter c l).symm
theorem sortV_length {kz : List Int} {ys : List α} (h : kz.length = ys.length) : (sortV kz ys).length = ys.length := by
  unfold sortV
  rw [List.length_map, (sortK_perm _).length_eq, List.length_zip, h, Nat.min_self]
end

/-! ### list.sort by a key, whatever stands around -/
section
variable {prog : Program} {w : World} {A : Around} {E : Value → Shared → Prop} {a : Addr} {vs : List Value} {kz : List Int}
/-- all objects of a heap but three -/
def rest3 (h : Heap) (L x y : Addr) : List (Addr × Obj) := (List.range h.objs.size).filterMap fun b => if b = L ∨ b = x ∨ b = y then none else (h.get? b).map fun o => (b, o)
theorem mem_rest3 {h : Heap} {L x y b : Addr} {o : Obj} (h1 : b ≠ L) (h2 : b ≠ x) (h3 : b ≠ y) (e : h.get? b = some o) : (b, o) ∈ rest3 h L x y :=
  List.mem_filterMap.mpr ⟨b, List.mem_range.mpr (Heap.lt_size e), by simp [h1, h2, h3, e]⟩
theorem of_rest3 {h : Heap} {L x y : Addr} {p : Addr × Obj} (hp : p ∈ rest3 h L x y) : p.1 ≠ L ∧ p.1 ≠ x ∧ p.1 ≠ y ∧ h.get? p.1 = some p.2 := by
  obtain ⟨b, _, e⟩ := List.mem_filterMap.mp hp
  split at e
  · cases e
  · rename_i hn
    cases q : h.get? b with
    | none =>
      rw [q] at e
      cases e
    | some o =>
      rw [q] at e
      cases e
      exact ⟨fun z => hn (.inl z), fun z => hn (.inr (.inl z)), fun z => hn (.inr (.inr z)), q⟩

/-- the end: from the list of the numbers -/
theorem sortkey_end {s : Shared} {kS L : Addr} {m : Str → Option Value} {keys : Array Value} {e e1 : Nat} {P : PySem.Fin → Shared → Prop} (hn : s.heap.Ns L m) (hkL : kS ≠ L) (haL : a ≠ L) (hka : kS ≠ a)
    (hkS : s.heap.get? kS = some (seqObj "list" keys e)) (ha : s.heap.get? a = some (seqObj "list" #[] e1)) (hk : IntsAre keys.toList kz) (hlen : kz.length = vs.length) (hZ : vs.length ≤ sizeLine)
    (h : ∀ h' tk out c, h'.Ns L m → (∀ b o, b ≠ L → b ≠ kS → b ≠ a → s.heap.get? b = some o → h'.get? b = some o) → h'.get? a = some (seqObj "list" out c) → KskOutSt false kz vs out.toList → P (.done (.ret .none)) { s with heap := h', toks := tk }) :
    wpAny (model prog w) A (ksk_end a false vs.toArray e1 (.ref kS) keys) P E s := by
  have F := Att.fr_all hn
  refine ksk_end_St (h₀ := Att.noObjs s.heap) (news := rest3 s.heap L kS a) (L := L) (m := m) (kz := kz) (vs := vs) (e := e) F (fun p hp => ?_) hka (fun p hp => (of_rest3 hp).2.1) (fun p hp => (of_rest3 hp).2.2.1) hk hlen hZ fun h' tk out c F' N' k' => ?_
  · rcases List.mem_append.mp hp with hp | hp
    · obtain ⟨p1, _, _, p4⟩ := of_rest3 hp
      exact ⟨p4, p1, Att.noObjs_get _ _⟩
    · rcases List.mem_cons.mp hp with rfl | hp
      · exact ⟨hkS, hkL, Att.noObjs_get _ _⟩
      · rw [List.mem_singleton.mp hp]
        exact ⟨ha, haL, Att.noObjs_get _ _⟩
  · refine h h' tk out c F'.ns (fun b o b1 b2 b3 eb => ?_) (N' _ List.mem_cons_self).1 k'
    exact (N' _ (List.mem_cons_of_mem _ (mem_rest3 b1 b2 b3 eb))).1

theorem sortkey_rest {f : Value} {s : Shared} {kS L : Addr} {m : Str → Option Value} {e1 : Nat} {P : PySem.Fin → Shared → Prop} (J : Shared → Prop) (hkL : kS ≠ L) (haL : a ≠ L) (hka : kS ≠ a) (hlen : kz.length = vs.length) (hZ : vs.length ≤ sizeLine) (h0 : J s)
    (hns : ∀ s', J s' → s'.heap.Ns L m)
    (hkS : s.heap.get? kS = some (seqObj "list" #[] 0)) (ha : s.heap.get? a = some (seqObj "list" #[] e1))
    (hup : ∀ s' g, J s' → J { s' with heap := s'.heap.update kS (Obj.mapSeq g) })
    (turn : ∀ (i : Nat) (v : Value) (k : Int), vs[i]? = some v → kz[i]? = some k → ∀ s', J s' →
      wpAny (model prog w) A (call f [v]) (fun u s2 => ∃ t, u = .int k t ∧ J s2 ∧ (∀ o, s'.heap.get? kS = some o → s2.heap.get? kS = some o) ∧ (∀ o, s'.heap.get? a = some o → s2.heap.get? a = some o)) (fun _ _ => False) s')
    (h : ∀ s' h' tk out c, J s' → h'.Ns L m → (∀ b o, b ≠ L → b ≠ kS → b ≠ a → s'.heap.get? b = some o → h'.get? b = some o) → h'.get? a = some (seqObj "list" out c) → KskOutSt false kz vs out.toList → P (.done (.ret .none)) { s' with heap := h', toks := tk }) :
    wpAny (model prog w) A (ksk_rest a f false vs.toArray e1 (.ref kS)) P E s := by
  have hZ2 := hZ
  rw [sizeLine_eq] at hZ2
  unfold ksk_rest
  refine wpAny_bind (wpAny_rule ?_)
  first
    | rw [List.forIn_toArray]
    | (rw [← Array.forIn_toList]; simp only [List.toList_toArray])
  refine wpAny_bind (ksk_fold (fun i s' => ∃ kA e, J s' ∧ s'.heap.get? kS = some (seqObj "list" kA e) ∧ s'.heap.get? a = some (seqObj "list" #[] e1) ∧ IntsAre kA.toList (kz.take i)) vs 0 s
    ⟨#[], 0, h0, hkS, ha, by simpa using IntsAre.nil⟩ ?step ?done)
  case step =>
    rintro j x s' hx ⟨kA, e, hJ, gk, ga, hk⟩
    simp only [Nat.zero_add] at hk ⊢
    have hj := (List.getElem?_eq_some_iff.mp hx).1
    obtain ⟨k, hkj⟩ : ∃ k, kz[j]? = some k := ⟨_, List.getElem?_eq_getElem (by omega)⟩
    have hz : kA.size ≤ vs.length := by
      have h1 := hk.length
      rw [Array.length_toList, List.length_take] at h1
      omega
    refine wpAny_bind (wpAny_attempt (wpAny_mono (turn j x k hx hkj s' hJ) (fun v s2 he => ?_) fun _ _ hF => hF.elim))
    obtain ⟨t2, rfl, J2, q1, q2⟩ := he
    try dsimp only
    have gk2 := q1 _ gk
    have ek : kz.take (j + 1) = kz.take j ++ [k] := by rw [List.take_add_one, hkj]; simp
    have ea : (kA.push (Value.int k t2)).toList = kA.toList ++ [Value.int k t2] := by simp
    refine wpAny_bind (listUpdate_at gk2 rfl ?_ (by rw [sizeLine_eq]; omega) (Nat.le_trans (Nat.le_of_eq (Array.size_push ..)) (by rw [sizeLine_eq]; omega)))
    refine wpAny_pure ⟨rfl, kA.push (.int k t2), _, hup s2 _ J2, get?_update_seq gk2 (·.push (.int k t2)), ?_, by rw [ea, ek]; exact ksk_snoc hk⟩
    exact ((Heap.SameBut.update s2.heap kS _).2 a hka.symm).trans (q2 _ ga)
  case done =>
    rintro s' ⟨kA, e, hJ, gk, ga, hk⟩
    have hk' : IntsAre kA.toList kz := by
      have e3 : kz.take (0 + vs.length) = kz := List.take_of_length_le (by omega)
      rw [e3] at hk
      exact hk
    try dsimp only
    refine wpAny_bind (listItems_at gk rfl ?_)
    exact sortkey_end (hns s' hJ) hkL haL hka gk ga hk' hlen hZ fun h' tk out c n1 n2 n3 n4 => h s' h' tk out c hJ n1 n2 n3 n4
end

/-! ### at the layer -/
theorem abs_of {x : V} {u : Value} (r : L2.RelV x u) : absV u = some x := RelV.abs r
def unV (u : Value) : V := (absV u).getD .non
theorem unV_of {x : V} {u : Value} (r : L2.RelV x u) : unV u = x := by
  unfold unV
  rw [abs_of r]
  rfl
theorem zip_unV : ∀ {ys : List V} {us : List Value} (kz : List Int), Vals ys us → (kz.zip us).map (fun p => (p.1, unV p.2)) = kz.zip ys
  | _, _, [], _ => rfl
  | _, _, _ :: _, .nil => by simp
  | _, _, k :: kz, .cons r rs => by
    simp only [List.zip_cons_cons, List.map_cons]
    rw [unV_of r, zip_unV kz rs]
theorem vals_mem : ∀ {ys : List V} {us : List Value} {u : Value}, Vals ys us → u ∈ us → L2.RelV (unV u) u
  | _, _, _, .cons r rs, h => by
    rcases List.mem_cons.mp h with rfl | h
    · rw [unV_of r]
      exact r
    · exact vals_mem rs h
theorem vals_un : ∀ {us : List Value}, (∀ u ∈ us, L2.RelV (unV u) u) → Vals (us.map unV) us
  | [], _ => .nil
  | u :: us, h => .cons (h u List.mem_cons_self) (vals_un fun v hv => h v (List.mem_cons_of_mem _ hv))
theorem out_sorted {ys : List V} {vs out : List Value} {kz : List Int} (r : Vals ys vs) (hl : kz.length = vs.length) (h : KskOutSt false kz vs out) : Vals (sortV kz ys) out := by
  obtain ⟨ps, h1, rfl, h2, h3⟩ := h
  have mem : ∀ u ∈ ps.map Prod.snd, L2.RelV (unV u) u := fun u hu => by
    obtain ⟨p, hp, rfl⟩ := List.mem_map.mp hu
    have q := h1.mem_iff.mp hp
    exact vals_mem r (List.of_mem_zip (a := p.1) (b := p.2) q).2
  have e1 : (ps.map fun p => (p.1, unV p.2)) = sortK (kz.zip ys) := by
    refine sortK_one ?_ fun c => ?_
    · refine List.pairwise_map.mpr (h2.imp fun {x y} z => ?_)
      simpa using z
    · rw [← zip_unV kz r, List.filter_map, List.filter_map]
      have e := h3 c
      exact congrArg (List.map fun p => (p.1, unV p.2)) e
  have e2 : sortV kz ys = (ps.map Prod.snd).map unV := by
    unfold sortV
    rw [← e1, List.map_map, List.map_map]
    rfl
  rw [e2]
  exact vals_un mem

/-- a list or a tuple, collected: the very heap behind it -/
theorem collect_any {prog : Program} {w : World} {A : Around} {E : Value → Shared → Prop} {s : Shared} {l : Addr} {vs : List Value} {o : Obj} {n : Nat} {T : String} {Q : List Value → Shared → Prop} (hT : T = "list" ∨ T = "tuple") (ho : s.heap.get? l = some o) (hc : o.cls = .type T) (hd : o.data = .seq vs.toArray n)
    (h : Q vs { s with heap := (s.heap.push (seqObj "list" #[] 0)).update s.heap.objs.size (Obj.mapSeq (· ++ vs.toArray)) }) (hsz : vs.length ≤ sizeLine) :
    wpAny (model prog w) A (collect (.ref l)) Q E s := by
  have new : (s.heap.push (seqObj "list" #[] 0)).get? s.heap.objs.size = some (seqObj "list" #[] 0) := Heap.get?_push_size _ rfl
  have size : vs.toArray.size ≤ sizeLine := by simpa using hsz
  have grown := Heap.get?_update_self (Obj.mapSeq (· ++ vs.toArray)) new rfl
  have fin : ∀ s', s' = { s with heap := (s.heap.push (seqObj "list" #[] 0)).update s.heap.objs.size (Obj.mapSeq (· ++ vs.toArray)) } → wpAny (model prog w) A (load s.heap.objs.size >>= fun o => match o.data with
      | .seq xs _ => pure xs.toList
      | _ => unsupported "internal:collect") Q E s' := by
    rintro _ rfl
    refine wpAny_bind (wpAny_load grown ?_)
    show wpAny _ _ (pure (#[] ++ vs.toArray).toList) _ _ _
    have e : ((#[] : Array Value) ++ vs.toArray).toList = vs := by simp
    rw [e]
    exact wpAny_pure h
  unfold collect
  refine wpAny_bind (wpAny_runValue (codeAny_builtin F.entry_proto_collect ?_))
  rw [Around.under_plainId F.plain_proto_collect _]
  refine wpAny_bind (m := newList []) (wpAny_newList (wpAny_pure ⟨plainId_quiet F.plain_list_iadd _, codeAny_builtin F.entry_list_iadd ?_⟩))
  rw [Around.under_plainId F.plain_list_iadd _]
  have run := wpAny_extend_seq (prog := prog) (w := w) (A := A) (s := { s with heap := s.heap.push (seqObj "list" #[] 0) }) (R := fun r s' => r = .ok (.ret (.ref s.heap.objs.size)) ∧ s' = { s with heap := (s.heap.push (seqObj "list" #[] 0)).update s.heap.objs.size (Obj.mapSeq (· ++ vs.toArray)) })
    s.heap.objs.size l (.ref s.heap.objs.size) 0 hT new (Heap.get?_push_of_some _ ho) hc hd ⟨rfl, rfl⟩ size
  refine wpAny_mono run (fun f s' q => ?_) fun _ _ q => nomatch q.1
  cases f with
  | done r =>
    obtain ⟨e, q⟩ := q
    cases e
    exact fin _ q
  | again c => exact ⟨q.1, codeAny_mono q.2 fun r s'' z => by
      obtain ⟨rfl, z⟩ := z
      exact fin _ z⟩
section
variable {X : Cx} {k : Nat}
/-- sorted(xs, key=f): f a lambda, hands back whole numbers and leaves all as it was -/
def rSortL (X : Cx) (k : Nat) : List V → List V → Hp → VK → Prop := fun xs zs H Q => ∃ (a f : Addr) (Z : LF) (ys : List V) (kz : List Int), xs = [V.ref a] ∧ zs = [V.ref f] ∧ (SqL X.K H a ys ∨ SqT X.K H a ys) ∧ LamAt H f Z ∧ kz.length = ys.length ∧
  (∀ (A : Around) (outer : List Env) (s : Shared) (i : Nat) (v : V) (n : Int) (u : Value), Room k A → Env0 X.prog X.w X.K X.mg X.base A outer s H → ys[i]? = some v → kz[i]? = some n → RelV v u →
    codeAny (model X.prog X.w) A (.call (.ref f) ⟨[u], []⟩) (CR CX0 outer X.prog X.w H s (fun r H' => r = .int n ∧ H' = H) E0) s) ∧
  ∀ p, H p = none → Q (.ref p) (upd H p (.lst (sortV kz ys)))
theorem cr_sortedLam (hr : Room (k + 3) X.A) : CallRK X (.builtin "sorted") [Str.ofString "key"] (rSortL X k) := by
  rintro pins s σ H xs zs us ws Q I rx rz ⟨l, f, Z, ys, kz, rfl, rfl, hl, hf, hlen, hkey, hq⟩
  obtain ⟨us1, rfl⟩ : ∃ u, us = [u] := by cases rx with | cons r t => cases t; exact ⟨_, rfl⟩
  obtain ⟨ws1, rfl⟩ : ∃ u, ws = [u] := by cases rz with | cons r t => cases t; exact ⟨_, rfl⟩
  obtain rfl : us1 = .ref l := by cases rx with | cons r t => exact r
  obtain rfl : ws1 = .ref f := by cases rz with | cons r t => exact r
  obtain ⟨vs, T, o1, n1, rv, hT, e1, e2, e3, hZ⟩ : ∃ (vs : List Value) (T : String) (o1 : Obj) (n1 : Nat), Vals ys vs ∧ (T = "list" ∨ T = "tuple") ∧ s.heap.get? l = some o1 ∧ o1.cls = .type T ∧ o1.data = .seq vs.toArray n1 ∧ ys.length ≤ sizeLine := by
    rcases hl with hl | hl
    · obtain ⟨vs, rv, pl, hZ⟩ := I.list hl
      obtain ⟨o, n, e1, e2, _, e3⟩ := pl
      exact ⟨vs, "list", o, n, rv, .inl rfl, e1, e2, e3, hZ⟩
    · obtain ⟨vs, rv, pl, hZ⟩ := I.tuple hl
      obtain ⟨o, e1, e2, n, e3⟩ := pl
      exact ⟨vs, "tuple", o, n, rv, .inr rfl, e1, e2, e3, hZ⟩
  have hlv : kz.length = vs.length := by rw [hlen, rv.length]
  have hZv : vs.length ≤ sizeLine := by rw [← rv.length]; exact hZ
  have hZ2 := hZv
  rw [sizeLine_eq] at hZ2
  show wpAny _ _ (call (.builtin "sorted") [.ref l] [(Str.ofString "key", .ref f)]) _ _ _
  refine call_function_entry_kw kind_sorted plain_sorted entry_sorted (ksk_s1 _ _) ?_
  unfold Builtin.«sorted»
  refine wpAny_bind (m := checkCount "sorted" 1 1 _) (wpAny_pure ?_)
  refine wpAny_bind (collect_any hT e1 e2 e3 ?_ hZv)
  refine wpAny_bind (wpAny_newList ?_ (by rw [sizeLine_eq]; omega))
  generalize hh1 : ((s.heap.push (seqObj "list" #[] 0)).update s.heap.objs.size (Obj.mapSeq (· ++ vs.toArray))) = h1
  have z1 : h1.objs.size = s.heap.objs.size + 1 := by rw [← hh1, Heap.size_update, size_push']
  have k1 : ∀ b o, s.heap.get? b = some o → h1.get? b = some o := fun b o q => by
    have lt := Heap.lt_size q
    rw [← hh1, Heap.get?_update_ne _ _ _ _ (Nat.ne_of_lt lt), Heap.get?_push_ne _ _ _ (Nat.ne_of_lt lt)]
    exact q
  show wpAny _ _ _ _ _ { s with heap := h1.push (seqObj "list" vs.toArray 0) }
  have k2 : ∀ b o, s.heap.get? b = some o → (h1.push (seqObj "list" vs.toArray 0)).get? b = some o := fun b o q => Heap.get?_push_of_some _ (k1 b o q)
  have g2 : (h1.push (seqObj "list" vs.toArray 0)).get? h1.objs.size = some (seqObj "list" vs.toArray 0) := Heap.get?_push_size _ rfl
  generalize ha0 : h1.objs.size = a0 at g2 ⊢
  generalize hh2 : h1.push (seqObj "list" vs.toArray 0) = h2 at g2 k2 ⊢
  have a0s : s.heap.objs.size ≤ a0 := by omega
  have z2 : h2.objs.size = a0 + 1 := by rw [← hh2, size_push', ha0]
  refine wpAny_bind (wpAny_holding (wpAny_call_entry_kw slot_list_sort ⟨_, g2, rfl⟩ entry_list_sort ?body (ksk_l1 _ _)))
  case body =>
    show wpAny _ X.A.in1.in1 (Builtin.«list.sort» ⟨[.ref a0], [(Str.ofString "key", .ref f)]⟩) _ _ _
    rw [ksk_t1]
    unfold ksk_tree
    have sb3 := Heap.SameBut.update h2 a0 (Obj.mapSeq fun _ => (#[] : Array Value))
    obtain ⟨e1, g3⟩ : ∃ e1, (h2.update a0 (Obj.mapSeq fun _ => (#[] : Array Value))).get? a0 = some (seqObj "list" #[] e1) := ⟨_, get?_update_seq g2 fun _ => #[]⟩
    have z3 : (h2.update a0 (Obj.mapSeq fun _ => (#[] : Array Value))).objs.size = a0 + 1 := by rw [Heap.size_update, z2]
    refine wpAny_bind (listItems_at g2 rfl ?_)
    refine wpAny_bind (listUpdate_at g2 rfl ?_ (by rw [List.size_toArray, sizeLine_eq]; omega) (Nat.zero_le _))
    refine wpAny_bind (seqEpoch_at g3 rfl ?_)
    have k3 : ∀ b o, s.heap.get? b = some o → (h2.update a0 (Obj.mapSeq fun _ => (#[] : Array Value))).get? b = some o := fun b o q =>
      (sb3.2 b (Nat.ne_of_lt (Nat.lt_of_lt_of_le (Heap.lt_size q) a0s))).trans (k2 b o q)
    generalize h2.update a0 (Obj.mapSeq fun _ => (#[] : Array Value)) = h3 at g3 k3 z3
    refine wpAny_bind (wpAny_newTuple ?_ (by show vs.length ≤ _; rw [sizeLine_eq]; omega))
    refine wpAny_bind (wpAny_newList ?_ (Nat.zero_le _))
    refine wpAny_holding ?_
    have z4 : (h3.push (seqObj "tuple" vs.toArray 0)).objs.size = a0 + 2 := by rw [size_push', z3]
    have k5 : ∀ b o, h3.get? b = some o → ((h3.push (seqObj "tuple" vs.toArray 0)).push (seqObj "list" #[] 0)).get? b = some o := fun b o q => Heap.get?_push_of_some _ (Heap.get?_push_of_some _ q)
    have gk : ((h3.push (seqObj "tuple" vs.toArray 0)).push (seqObj "list" #[] 0)).get? (h3.push (seqObj "tuple" vs.toArray 0)).objs.size = some (seqObj "list" #[] 0) := Heap.get?_push_size _ rfl
    have ga := k5 _ _ g3
    generalize hkS : (h3.push (seqObj "tuple" vs.toArray 0)).objs.size = kS at gk
    have hkS2 : kS = a0 + 2 := by rw [← hkS]; exact z4
    have h5k : ∀ b o, s.heap.get? b = some o → ((h3.push (seqObj "tuple" vs.toArray 0)).push (seqObj "list" #[] 0)).get? b = some o := fun b o q => k5 b o (k3 b o q)
    show wpAny _ _ (ksk_rest a0 (.ref f) false vs.toArray e1 (.ref kS)) _ _ { s with heap := (h3.push (seqObj "tuple" vs.toArray 0)).push (seqObj "list" #[] 0) }
    generalize (h3.push (seqObj "tuple" vs.toArray 0)).push (seqObj "list" #[] 0) = h5 at gk ga h5k
    have I5 : Inv X pins σ H { s with heap := h5 } := I.kept (t' := s.toks) h5k
    have na : H a0 = none := I.hok.fresh a0s
    have nk : H kS = none := I.hok.fresh (by omega)
    have fa := I.fpOk a0s na
    have fk := I.fpOk (b := kS) (by omega) nk
    have hka : kS ≠ a0 := by omega
    obtain ⟨m, hm, _⟩ := I5.loc
    have nstk : ∀ b, FpOk X pins H b → b ∉ frs X.stack := fun b fb hb => by
      rcases List.mem_cons.mp (I.stkSub b hb) with z | z
      · exact fb.2.1 z
      · exact fb.2.2.1 z
    have nsOne : ∀ {g : Heap} {m1 m2 : Str → Option Value}, g.Ns X.env.locals m1 → g.Ns X.env.locals m2 → m1 = m2 := by
      rintro g m1 m2 ⟨o, es, ep, q1, q2, _, q3⟩ ⟨o', es', ep', r1, r2, _, r3⟩
      rw [q1] at r1
      cases r1
      rw [q2] at r2
      cases r2
      funext y
      rw [← q3, ← r3]
    refine sortkey_rest (kz := kz) (m := m) (L := X.env.locals) (fun s' => Inv X pins σ H s' ∧ s'.heap.Ns X.env.locals m) fk.2.1 fa.2.1 hka hlv hZv ⟨I5, hm⟩ (fun s' q => q.2) gk ga (fun s' g q => ?_) (fun i v n hv hn s' q => ?_)
      fun s' h' tk out c q n1 n2 n3 n4 => ?_
    · have sb := Heap.SameBut.update s'.heap kS (Obj.mapSeq g)
      refine ⟨q.1.turned (t' := s'.toks) (fun b o hb e => (sb.2 b hb).trans e) nk fk.2.1 fk.2.2.2.1 fk.2.2.2.2.1 fk.2.2.2.2.2, ?_⟩
      exact q.2.sameBut sb (Ne.symm fk.2.1)
    · obtain ⟨I', hm'⟩ := q
      obtain ⟨y, hy⟩ : ∃ y, ys[i]? = some y := by
        cases e : ys[i]? with
        | some y => exact ⟨y, rfl⟩
        | none =>
          rw [rv.none_of e] at hv
          cases hv
      obtain ⟨v2, hv2, ry⟩ := rv.get hy
      rw [hv] at hv2
      cases hv2
      have e0 := I'.env0.in1.in1
      have room : Room k X.A.in1.in1 := (((hr.mono (show k + 2 ≤ k + 3 by omega)).in1).in1).mono (Nat.le_refl _)
      have run := hkey X.A.in1.in1 X.stack s' i y n v room e0 hy hn ry
      refine wpAny_call (codeAny_mono run fun r s2 hq2 => ?_)
      cases r with
      | error e => exact False.elim hq2
      | ok fl =>
        cases fl with
        | ret u =>
          have hq3 : CE X.stack X.prog X.w H s' (fun r H' => r = .int n ∧ H' = H) u s2 := hq2
          have un := hq3
          obtain ⟨_, _, _, _, un, _⟩ := un
          obtain ⟨w2, H2, I2, r2, rfl, rfl⟩ := I'.after hq3
          obtain ⟨t, rfl⟩ := (show ∃ t, u = Value.int n t from r2)
          refine ⟨t, rfl, ⟨I2, ?_⟩, fun o e => un.keep kS o e nk (nstk kS fk) (by simp), fun o e => un.keep a0 o e na (nstk a0 fa) (by simp)⟩
          obtain ⟨o, es, ep, ho, hd, hs, hf'⟩ := hm'
          by_cases hL : X.env.locals ∈ frs X.stack
          · obtain ⟨sl, e2⟩ := un.slot _ o ho I'.free hL (by simp)
            exact ⟨_, es, ep, e2, hd, hs, hf'⟩
          · exact ⟨o, es, ep, un.keep _ o ho I'.free hL (by simp), hd, hs, hf'⟩
        | next => exact False.elim hq2
        | brk => exact False.elim hq2
        | cont => exact False.elim hq2
    · obtain ⟨I', hm'⟩ := q
      have rout : Vals (sortV kz ys) out.toList := out_sorted rv hlv n4
      have ex : ∀ b o, b ≠ X.env.locals → b ∉ [kS, a0] → s'.heap.get? b = some o → h'.get? b = some o := fun b o b1 b2 e => by
        simp only [List.mem_cons, List.not_mem_nil, or_false, not_or] at b2
        exact n2 b o b1 b2.1 b2.2 e
      have tr : ∀ b u, H b = some u → b ≠ a0 := fun b u e z => by rw [z, na] at e; cases e
      have up : ∀ b u, H b = some u → upd H a0 (.lst (sortV kz ys)) b = some u := fun b u e => by rw [upd_ne (tr b u e)]; exact e
      have off : ∀ b u, H b = some u → b ≠ X.env.locals ∧ b ∉ [kS, a0] := fun b u e => by
        refine ⟨fun z => ?_, fun z => ?_⟩
        · rw [z, I'.free] at e
          cases e
        · simp only [List.mem_cons, List.not_mem_nil, or_false] at z
          rcases z with z | z
          · rw [z, nk] at e
            cases e
          · exact tr b u e z
      refine ⟨_, rfl, ?_⟩
      refine wpAny_pure ⟨_, rfl, .ref a0, upd H a0 (.lst (sortV kz ys)), ?_, rfl, hq a0 na⟩
      refine I'.step (g' := s'.gens) (d' := s'.drawn) (t' := tk) (h' := h') (ch := [kS, a0]) (fun b hb => ?_) (fun b o b1 _ b3 e _ => ex b o b1 b3 e) (fun b o b1 _ b3 e _ => ⟨o.slots, ex b o b1 b3 e⟩)
        (fun b o b3 e n => ?_) (fun b o b3 e => ?_) (fun b u e => up b _ e) (fun b o u e => up b _ e) (fun b ps e => ⟨#[], by rw [up b _ e]; simp⟩) (fun m' hm2 => ?_) (fun b u e => ?_) I'.bare
      · simp only [List.mem_cons, List.not_mem_nil, or_false] at hb
        rcases hb with rfl | rfl
        · exact ⟨fk.2.2.2.1, fk.2.1, fk.2.2.2.2.1, fk.2.2.2.2.2⟩
        · exact ⟨fa.2.2.2.1, fa.2.1, fa.2.2.2.2.1, fa.2.2.2.2.2⟩
      · simp only [List.mem_cons, List.not_mem_nil, or_false, not_or] at b3
        rw [upd_ne b3.2]
        exact n
      · by_cases bL : b = X.env.locals
        · rw [bL]
          obtain ⟨o', _, _, q, _⟩ := n1
          exact ⟨o', q⟩
        · exact ⟨o, ex b o bL b3 e⟩
      · rw [nsOne hm2 hm']
        exact n1
      · by_cases hb : b = a0
        · subst hb
          rw [upd_same] at e
          cases e
          have el : (sortV kz ys).length ≤ sizeLine := by
            rw [sortV_length hlen]
            exact hZ
          exact ⟨el, out.toList, c, rout, by rw [n3]⟩
        · rw [upd_ne hb] at e
          refine (I'.hok b u e).stay (fun d v hd q => ?_) (fun d q => up d _ q) fun d xs q => up d _ q
          rcases hd with rfl | hd
          · exact ex _ v (off _ _ e).1 (off _ _ e).2 q
          · exact ex _ v (off _ _ hd).1 (off _ _ hd).2 q
end
end Sho
set_option Elab.async false
set_option linter.all false
set_option maxRecDepth 100000
set_option maxHeartbeats 4000000
/-! Rows (name, come, go, ..); bottom_up, lifted_from. -/
namespace Sh1
open PySem L2 Sho NdefX Shg
/-! ### the stable sort commutes with maps -/
theorem insK_map {α β : Type} (f : α → β) (p : Int × α) : ∀ l : List (Int × α), insK (p.1, f p.2) (l.map fun q => (q.1, f q.2)) = (insK p l).map fun q => (q.1, f q.2)
  | [] => rfl
  | q :: r => by
    show (if p.1 ≤ q.1 then (p.1, f p.2) :: (q.1, f q.2) :: _ else (q.1, f q.2) :: insK (p.1, f p.2) (r.map fun q => (q.1, f q.2))) = (if p.1 ≤ q.1 then p :: q :: r else q :: insK p r).map _
    split
    · rfl
    · rw [insK_map f p r]
      rfl
theorem sortK_map {α β : Type} (f : α → β) : ∀ l : List (Int × α), sortK (l.map fun q => (q.1, f q.2)) = (sortK l).map fun q => (q.1, f q.2)
  | [] => rfl
  | p :: r => by
    show insK (p.1, f p.2) (sortK (r.map fun q => (q.1, f q.2))) = (insK p (sortK r)).map _
    rw [sortK_map f r, insK_map]
theorem sortV_map {α β : Type} (f : α → β) (kz : List Int) (ys : List α) : sortV kz (ys.map f) = (sortV kz ys).map f := by
  unfold sortV
  have e : kz.zip (ys.map f) = (kz.zip ys).map fun q => (q.1, f q.2) := by
    rw [List.zip_map_right]
    rfl
  rw [e, sortK_map, List.map_map, List.map_map]
  rfl
/-! ### rows -/
structure Rw where
  nm : Str
  come : Int
  go : Int
  more : List Int
  deriving DecidableEq
def rwV (r : Rw) : List V := .str r.nm :: .int r.come :: .int r.go :: r.more.map V.int
def RwAt (H : Hp) (v : V) (r : Rw) : Prop := ∃ t, v = .ref t ∧ H t = some (.tup (rwV r))
theorem RwAt.ext {H H' : Hp} (e : LamX.ExtN H H') {v : V} {r : Rw} (h : RwAt H v r) : RwAt H' v r := by
  obtain ⟨t, rfl, ht⟩ := h
  exact ⟨t, rfl, e _ _ ht fun _ z => nomatch z⟩
theorem RwAt.same {H H' : Hp} (e : Same H H') {v : V} {r : Rw} (h : RwAt H v r) : RwAt H' v r := h.ext (LamX.ExtN.of e)
def rwD (r : Rw) : PyData := .tuple (.str r.nm :: .int r.come :: .int r.go :: r.more.map PyData.int)
theorem eqv_ints : ∀ xs ys : List Int, PyData.eqvAll (xs.map PyData.int) (ys.map PyData.int) = decide (xs = ys)
  | [], [] => rfl
  | [], _ :: _ => rfl
  | _ :: _, [] => rfl
  | x :: xs, y :: ys => by
    show ((x == y) && PyData.eqvAll (xs.map PyData.int) (ys.map PyData.int)) = _
    rw [eqv_ints xs ys, Bool.eq_iff_iff]
    simp
theorem eqv_rw (a b : Rw) : PyData.eqv (rwD a) (rwD b) = decide (a = b) := by
  obtain ⟨a1, a2, a3, a4⟩ := a
  obtain ⟨b1, b2, b3, b4⟩ := b
  show ((a1 == b1) && ((a2 == b2) && ((a3 == b3) && PyData.eqvAll (a4.map PyData.int) (b4.map PyData.int)))) = _
  rw [eqv_ints, Bool.eq_iff_iff]
  simp
abbrev OkRw (r : Rw) : Prop := r.nm.cps.all (· < 0x110000) = true
theorem lay_ints : ∀ xs : List Int, PyData.canLayAll0 (xs.map PyData.int) = true
  | [] => rfl
  | x :: xs => by
    show (true && PyData.canLayAll0 (xs.map PyData.int)) = true
    rw [lay_ints xs]
    rfl
theorem depth_ints : ∀ xs : List Int, PyData.depthAll (xs.map PyData.int) = 0
  | [] => rfl
  | x :: xs => by
    show max (PyData.depth (.int x)) (PyData.depthAll (xs.map PyData.int)) = 0
    rw [depth_ints xs]
    rfl
theorem depth_rw (r : Rw) : PyData.depth (rwD r) = 1 := by
  show PyData.depthAll (.str r.nm :: .int r.come :: .int r.go :: r.more.map PyData.int) + 1 = 1
  have e : PyData.depthAll (.str r.nm :: .int r.come :: .int r.go :: r.more.map PyData.int) = 0 := by
    show max (PyData.depth (.str r.nm)) (max (PyData.depth (.int r.come)) (max (PyData.depth (.int r.go)) (PyData.depthAll (r.more.map PyData.int)))) = 0
    rw [depth_ints]
    rfl
  rw [e]
theorem lay_rw {r : Rw} (h : OkRw r) : PyData.canLay0 (rwD r) = true := by
  show (PyData.canLay0 (.str r.nm) && (true && (true && PyData.canLayAll0 (r.more.map PyData.int)))) = true
  rw [lay_ints]
  simp only [Bool.and_true]
  exact h
theorem shaped_rw {r : Rw} (h : OkRw r) : SeqAt.shaped (rwD r) = true := by
  unfold SeqAt.shaped
  rw [lay_rw h, depth_rw]
  rfl
theorem lay_rws : ∀ {rs : List Rw}, (∀ r ∈ rs, OkRw r) → PyData.canLayAll0 (rs.map rwD) = true
  | [], _ => rfl
  | r :: rs, h => by
    show (PyData.canLay0 (rwD r) && PyData.canLayAll0 (rs.map rwD)) = true
    rw [lay_rw (h r List.mem_cons_self), lay_rws fun x hx => h x (List.mem_cons_of_mem _ hx)]
    rfl
theorem depth_rws : ∀ rs : List Rw, PyData.depthAll (rs.map rwD) ≤ 1
  | [] => Nat.zero_le _
  | r :: rs => by
    show max (PyData.depth (rwD r)) (PyData.depthAll (rs.map rwD)) ≤ 1
    have := depth_rws rs
    rw [depth_rw]
    omega
theorem shaped_rws {rs : List Rw} (h : ∀ r ∈ rs, OkRw r) : SeqAt.shaped (.list (rs.map rwD)) = true := by
  unfold SeqAt.shaped
  have h1 : PyData.canLay0 (.list (rs.map rwD)) = true := lay_rws h
  have h2 : PyData.depth (.list (rs.map rwD)) ≤ 64 := Nat.le_trans (Nat.succ_le_succ (depth_rws rs)) (by decide)
  rw [h1, decide_eq_true h2]
  rfl
end Sh1
set_option Elab.async false
set_option linter.all false
set_option maxRecDepth 100000
set_option maxHeartbeats 4000000
namespace Sh1
open PySem L2 Sho NdefX Shg
abbrev qBot : Str := "bottom_up.<locals>.<lambda>"
theorem sql_grows {K : PySem.W.Frag} {H H' : Hp} {a : Addr} {xs : List V} (e : LamX.ExtN H H') (h : SqL K H a xs) : SqL K H' a xs := by
  rcases h with (h | ⟨o, h⟩) | h
  · exact .inl (.inl (e _ _ h fun _ z => nomatch z))
  · exact .inl (.inr ⟨o, e _ _ h fun _ z => nomatch z⟩)
  · exact .inr h
theorem sqt_grows {K : PySem.W.Frag} {H H' : Hp} {a : Addr} {xs : List V} (e : LamX.ExtN H H') (h : SqT K H a xs) : SqT K H' a xs := by
  rcases h with (h | ⟨o, h⟩) | h
  · exact .inl (.inl (e _ _ h fun _ z => nomatch z))
  · exact .inl (.inr ⟨o, e _ _ h fun _ z => nomatch z⟩)
  · exact .inr h
/-- a key lambda: its tuple's item j -/
theorem key_item {P : Program} {w : World} {K : PySem.W.Frag} {mg : Str → Option Value} {base : Heap} {Z : LF} {f : Addr} {H : Hp} {j : Nat} {x : Str} (l : LamAt H f Z) (S : NScope [x] [x] [] Z.F.scope) (hcl : Z.F.cl = []) (hb : ∀ (pm ctv u : Value), bindArgs (Z.fd pm ctv) ⟨[u], []⟩ = pure [(x, u)])
    (body : ∀ (A : Around) (outer : List Env) (s : Shared), PE (lcx CX0 P w K mg base [x] Z f A outer s H E0) Z.e (tOp (rIxT K) (tVar 0) (tC (.int (j : Int)))))
    {A : Around} {outer : List Env} {s : Shared} {v : V} {n : Int} {u : Value} (hr : Room 1 A) (e0 : Env0 P w K mg base A outer s H) (hv : ∃ t ws, v = .ref t ∧ H t = some (.tup ws) ∧ ws[j]? = some (.int n)) (ru : RelV v u) :
    codeAny (model P w) A (.call (.ref f) ⟨[u], []⟩) (CR CX0 outer P w H s (fun r H' => r = .int n ∧ H' = H) E0) s := by
  obtain ⟨pm, ctv, ho⟩ := lamO_at e0.hok l.o
  obtain ⟨t, ws, rfl, ht, hw⟩ := hv
  have C : CellsAt Z.F.cl [] [] s.heap H := by
    rw [hcl]
    exact ⟨rfl, fun _ _ e => (nomatch e), fun _ _ _ e => (nomatch e), fun i y e => (nomatch e)⟩
  refine lam_call (ps := [x]) (us := [u]) (vs := [.ref t]) S hr e0 ho (codeO_at e0.hok l.c) (.of_eq (hb pm ctv u)) rfl C (.cons ru .nil) (fun _ => body A outer s) ?_
  exact ⟨_, rfl, t, ws, _, .int n, rfl, rfl, SqT.of ht, atI_nat hw, rfl, rfl⟩
section
variable {P : Program} {w : World} {K : PySem.W.Frag} {mg : Str → Option Value} {base : Heap}
def spBottom (K : PySem.W.Frag) (T : List (Addr × Str)) : Sp := fun vs H Q _ => ∃ (a : Addr) (ys : List V) (kz : List Int), vs = [.ref a] ∧ (SqL K H a ys ∨ SqT K H a ys) ∧ kz.length = ys.length ∧
  (∀ (i : Nat) (v : V) (n : Int), ys[i]? = some v → kz[i]? = some n → ∃ t ws, v = .ref t ∧ H t = some (.tup ws) ∧ ws[1]? = some (.int n)) ∧ LamX.Tabs T H ∧
  ∀ p H', Grows T H H' → H' p = some (.lst (sortV kz ys)) → Q (.ref p) H'
theorem scBottom : FnScope ["stays"] ["stays"] (defScope sBottomUp) := ⟨rfl, rfl, rfl, by decide +kernel, rfl, by decide +kernel, by decide +kernel⟩
theorem ok_bottom {f c TP : Addr} {fd : FuncData} {T : List (Addr × Str)} (F : Shg.FunL K "bottom_up" "bottom_up" sBottomUp f c fd) (B : Shg.Blt mg) (TB : LamX.TabB base mg c TP) (hm : (TP, qBot) ∈ T) (hu : ∀ p ∈ T, p.1 = TP → p.2 = qBot) :
    FnOk P w K mg base CX0 5 f fd ["stays"] (spBottom K T) := by
  refine Shg.FunL.ok0 F scBottom (fun vs H Q E h => ?_) (fun A outer s H vs Q E hr h => ?_)
  · obtain ⟨a, ys, kz, rfl, _⟩ := h
    rfl
  · obtain ⟨a, ys, kz, rfl, ha, hl, hk, hT, k⟩ := h
    refine ⟨_, pss_one (ps_ret (pe_callBK (cr_sortedLam (k := 1) hr) (by rfl) B.sorted (by decide +kernel) (pa_cons (pv 0) pa_nil) (pk_cons (pe_lam TB rfl hm hu (Shg.free_by (os := (defScope sBottomUp).names) (by decide +kernel))) pk_nil))), ?_⟩
    refine ⟨_, rfl, hT, fun f0 c0 H1 G1 n0 l0 => ⟨a, f0, _, ys, kz, rfl, rfl, ha.imp (sql_grows G1.ext) (sqt_grows G1.ext), l0, hl, fun A' outer' s' i v n u hr' e0 hv hn ru => ?_, fun p hp => ?_⟩⟩
    · obtain ⟨t, ws, e, ht, hw⟩ := hk i v n hv hn
      exact key_item (j := 1) l0 (nscope_by (sc := Shg.scL [("stay", .local)]) (by decide +kernel)) rfl (fun _ _ _ => rfl) (fun A outer s => pe_ix ix_tup (pv 0) pe_int (fun _ _ => rfl)) hr' e0 ⟨t, ws, e, G1.ext _ _ ht (fun _ z => nomatch z), hw⟩ ru
    · exact k p _ (G1.trans (Grows.upd hp)) upd_same
end
end Sh1
/-! bottom_up: told in P2b0, which a law without parties can use too. -/
set_option Elab.async false
set_option linter.all false
set_option maxRecDepth 100000
set_option maxHeartbeats 4000000
namespace Sh1
open PySem L2 Sho NdefX Shg
theorem Grows.of {T : List (Addr × Str)} {H H' : Hp} (s : Same H H') : Grows T H H' := ⟨LamX.ExtN.of s, fun t => LamX.Tabs.ext t s⟩
/-- paired in another order: what a list of pairs says -/
theorem zip_paired {α β : Type} {R : α → β → Prop} {as : List α} {bs : List β} (h : PySem.Paired R as bs) : ∀ q ∈ as.zip bs, R q.1 q.2 := by
  induction h with
  | nil => intro q hq; cases hq
  | cons x r ih =>
    intro q hq
    rcases List.mem_cons.mp hq with rfl | hq
    · exact x
    · exact ih q hq
theorem paired_of {α β : Type} {R : α → β → Prop} : ∀ {l : List (α × β)}, (∀ q ∈ l, R q.1 q.2) → PySem.Paired R (l.map (·.1)) (l.map (·.2))
  | [], _ => .nil
  | q :: l, h => .cons (h q List.mem_cons_self) (paired_of fun x hx => h x (List.mem_cons_of_mem _ hx))
theorem insK_mem {α : Type} {p : Int × α} : ∀ {l : List (Int × α)} {q : Int × α}, q ∈ insK p l ↔ q = p ∨ q ∈ l
  | [], q => by simp [insK]
  | r :: l, q => by
    unfold insK
    split
    · simp
    · rw [List.mem_cons, insK_mem]
      simp only [List.mem_cons]
      constructor
      · rintro (h | h | h)
        · exact .inr (.inl h)
        · exact .inl h
        · exact .inr (.inr h)
      · rintro (h | h | h)
        · exact .inr (.inl h)
        · exact .inl h
        · exact .inr (.inr h)
theorem sortK_mem {α : Type} : ∀ {l : List (Int × α)} {q : Int × α}, q ∈ sortK l ↔ q ∈ l
  | [], q => by simp [sortK]
  | r :: l, q => by
    unfold sortK
    rw [insK_mem, sortK_mem, List.mem_cons]
theorem insK_length {α : Type} {p : Int × α} : ∀ {l : List (Int × α)}, (insK p l).length = l.length + 1
  | [] => rfl
  | r :: l => by
    unfold insK
    split
    · rfl
    · rw [List.length_cons, insK_length, List.length_cons]
theorem sortK_length {α : Type} : ∀ {l : List (Int × α)}, (sortK l).length = l.length
  | [] => rfl
  | r :: l => by
    unfold sortK
    rw [insK_length, sortK_length, List.length_cons]
/-- rows in the order of coming -/
def bot (rs : List Rw) : List Rw := sortV (rs.map Rw.come) rs
def RwsV (H : Hp) (ws : List V) (rs : List Rw) : Prop := PySem.Paired (RwAt H) ws rs
theorem RwsV.ext {H H' : Hp} (e : LamX.ExtN H H') {ws : List V} {rs : List Rw} (h : RwsV H ws rs) : RwsV H' ws rs := pair_mono (fun _ _ k => k.ext e) h
theorem zip_self_snd {α β : Type} : ∀ {as : List α} {bs : List β}, as.length = bs.length → (as.zip bs).map (·.2) = bs ∧ (as.zip bs).map (·.1) = as
  | [], [], _ => ⟨rfl, rfl⟩
  | [], _ :: _, h => by simp at h
  | _ :: _, [], h => by simp at h
  | a :: as, b :: bs, h => by
    obtain ⟨h1, h2⟩ := zip_self_snd (as := as) (bs := bs) (by simpa using h)
    exact ⟨by rw [List.zip_cons_cons, List.map_cons, h1], by rw [List.zip_cons_cons, List.map_cons, h2]⟩
theorem bot_paired {H : Hp} {ws : List V} {rs : List Rw} (h : RwsV H ws rs) : RwsV H (sortV (rs.map Rw.come) ws) (bot rs) := by
  have hl := pair_len h
  obtain ⟨e2, e1⟩ := zip_self_snd hl
  have a : sortV (rs.map Rw.come) ws = (sortV (rs.map Rw.come) (ws.zip rs)).map (·.1) := by
    rw [← sortV_map, e1]
  have b : bot rs = (sortV (rs.map Rw.come) (ws.zip rs)).map (·.2) := by
    unfold bot
    rw [← sortV_map, e2]
  rw [a, b]
  refine paired_of fun q hq => ?_
  unfold sortV at hq
  obtain ⟨x, hx, rfl⟩ := List.mem_map.mp hq
  have := sortK_mem.mp hx
  exact zip_paired h _ (List.of_mem_zip this).2
theorem bot_mem {rs : List Rw} {r : Rw} : r ∈ bot rs ↔ r ∈ rs := by
  unfold bot sortV
  constructor
  · intro h
    obtain ⟨x, hx, rfl⟩ := List.mem_map.mp h
    exact (List.of_mem_zip (sortK_mem.mp hx)).2
  · intro h
    refine List.mem_map.mpr ⟨(r.come, r), sortK_mem.mpr ?_, rfl⟩
    induction rs with
    | nil => cases h
    | cons x rs ih =>
      rw [List.map_cons, List.zip_cons_cons]
      rcases List.mem_cons.mp h with rfl | h
      · exact List.mem_cons_self
      · exact List.mem_cons_of_mem _ (ih h)
theorem bot_length {rs : List Rw} : (bot rs).length = rs.length := by
  unfold bot sortV
  rw [List.length_map, sortK_length, List.length_zip, List.length_map]
  exact Nat.min_self _
/-- those that lie higher than the first x -/
def above (x : Rw) : List Rw → List Rw
  | [] => []
  | r :: rs => if r = x then rs else above x rs
theorem above_ix {x : Rw} : ∀ {l : List Rw}, x ∈ l → ∃ j, l[j]? = some x ∧ (∀ m, m < j → ∀ z, l[m]? = some z → z ≠ x) ∧ l.drop (j + 1) = above x l
  | [], h => nomatch h
  | r :: l, h => by
    by_cases e : r = x
    · refine ⟨0, by rw [e]; rfl, fun m hm => absurd hm (Nat.not_lt_zero _), ?_⟩
      unfold above
      rw [if_pos e]
      rfl
    · obtain ⟨j, h1, h2, h3⟩ := above_ix (x := x) (l := l) ((List.mem_cons.mp h).resolve_left fun z => e z.symm)
      refine ⟨j + 1, by simpa using h1, fun m hm z hz => ?_, ?_⟩
      · cases m with
        | zero =>
          simp at hz
          rw [← hz]
          exact e
        | succ m => exact h2 m (by omega) z (by simpa using hz)
      · unfold above
        rw [if_neg e, ← h3]
        rfl
def crosses (x r : Rw) : Bool := decide (r.come < x.go) && decide (x.go < r.go)
/-- who is lifted when x goes, from the top -/
def lifted (rs : List Rw) (x : Rw) : List Rw := (above x (bot rs)).reverse.filter (crosses x)
theorem paired_drop {α β : Type} {R : α → β → Prop} : ∀ (n : Nat) {as : List α} {bs : List β}, PySem.Paired R as bs → PySem.Paired R (as.drop n) (bs.drop n)
  | 0, _, _, h => h
  | _ + 1, _, _, .nil => .nil
  | n + 1, _, _, .cons _ r => paired_drop n r
theorem paired_rev {α β : Type} {R : α → β → Prop} : ∀ {as : List α} {bs : List β}, PySem.Paired R as bs → PySem.Paired R as.reverse bs.reverse
  | _, _, .nil => .nil
  | _, _, .cons x r => by
    rw [List.reverse_cons, List.reverse_cons]
    exact pair_app (paired_rev r) (.cons x .nil)
theorem paired_filter {α β : Type} {R : α → β → Prop} (p : β → Bool) : ∀ {ws : List α} {xs : List β}, PySem.Paired R ws xs → PySem.Paired R ((ws.zip xs).filterMap fun q => if p q.2 = true then some q.1 else none) (xs.filter p)
  | _, _, .nil => .nil
  | _, _, .cons (a := v) (b := x) h r => by
    have ih := paired_filter p r
    rw [List.zip_cons_cons, List.filterMap_cons, List.filter_cons]
    by_cases e : p x = true
    · simp only [e, if_true]
      exact .cons h ih
    · simp only [e, if_false]
      exact ih
theorem dp_rw {K : PySem.W.Frag} {H : Hp} {v : V} {r : Rw} (h : RwAt H v r) : Dp K H v (rwD r) := by
  obtain ⟨t, rfl, ht⟩ := h
  refine .tup (SqT.of ht) (.cons (.str _) (.cons (.int _) (.cons (.int _) ?_)))
  generalize r.more = l
  induction l with
  | nil => exact .nil
  | cons x l ih => exact .cons (.int _) ih
theorem dp_rws {K : PySem.W.Frag} {H : Hp} : ∀ {ws : List V} {rs : List Rw}, RwsV H ws rs → DpAll K H ws (rs.map rwD)
  | [], [], _ => .nil
  | _ :: _, _ :: _, h => by
    cases h with
    | cons x r => exact .cons (dp_rw x) (dp_rws r)
  | [], _ :: _, h => nomatch h
  | _ :: _, [], h => nomatch h
section
variable {P : Program} {w : World} {K : PySem.W.Frag} {mg : Str → Option Value} {base : Heap}
theorem units65 {k : Nat} {A : Around} (r : Room k A) : A.units + 65 < cLine := by have := r.un; omega
def spLifted (K : PySem.W.Frag) (T : List (Addr × Str)) : Sp := fun vs H Q _ => ∃ (a : Addr) (v : V) (ws : List V) (rs : List Rw) (x : Rw), vs = [.ref a, v] ∧ (SqL K H a ws ∨ SqT K H a ws) ∧ RwsV H ws rs ∧ RwAt H v x ∧ x ∈ rs ∧ (∀ r ∈ rs, OkRw r) ∧ rs.length ≤ 1000 ∧ LamX.Tabs T H ∧
  ∀ p H' ys, Grows T H H' → H' p = some (.lst ys) → RwsV H' ys (lifted rs x) → Q (.ref p) H'
/-- nothing but a table was tracked there -/
def NewN (H : Hp) (p : Addr) : Prop := ∀ o, H p = some o → ∃ ps, o = .tbl ps
def spLiftedN (K : PySem.W.Frag) (T : List (Addr × Str)) : Sp := fun vs H Q _ => ∃ (a : Addr) (v : V) (ws : List V) (rs : List Rw) (x : Rw), vs = [.ref a, v] ∧ (SqL K H a ws ∨ SqT K H a ws) ∧ RwsV H ws rs ∧ RwAt H v x ∧ x ∈ rs ∧ (∀ r ∈ rs, OkRw r) ∧ rs.length ≤ 1000 ∧ LamX.Tabs T H ∧
  ∀ p H' ys, NewN H p → Grows T H H' → H' p = some (.lst ys) → RwsV H' ys (lifted rs x) → Q (.ref p) H'
theorem scLifted : FnScope ["stays", "taker", "pile", "later", "stay"] ["stays", "taker"] (defScope sLiftedFrom) := ⟨rfl, rfl, rfl, by decide +kernel, rfl, by decide +kernel, by decide +kernel⟩
theorem ok_liftedN {f fB : Addr} {fd fdB : FuncData} {T : List (Addr × Str)} (F : Fun K "lifted_from" "lifted_from" sLiftedFrom f fd) (GB : FnOk P w K mg base CX0 5 fB fdB ["stays"] (spBottom K T)) (mB : mg "bottom_up" = some (.ref fB)) (kB : PySem.W.keepIn K (.ref fB) = true) (bB : Binds K fdB ["stays"] []) :
    FnOk P w K mg base CX0 6 f fd ["stays", "taker"] (spLiftedN K T) := by
  refine F.ok scLifted (fun vs H Q E h => ?_) (fun cdv A outer s H vs Q E hr h => ?_)
  · obtain ⟨a, v, ws, rs, x, rfl, _⟩ := h
    rfl
  · obtain ⟨a, v, ws, rs, x, rfl, ha, hw, hv, hx, hok, hlen, hT, k⟩ := h
    have nd := scLifted.nd
    refine ⟨_, pss_cons (ps_set (i := 2) nd rfl (Or.inl rfl) (pe_call GB hr rfl mB kB bB .nil pass0 (pa_cons (pv 0) pa_nil)))
      (pss_cons (ps_set (i := 3) nd rfl (Or.inl rfl) (pe_slice sl_list (pv 2) (po_some (pe_op op_add (pe_bm PySem.F.plainAttrs_list PySem.F.slot_list_index PySem.F.type_list_index (mt_indexD (units65 hr)) (pv 2) (pa_cons (pv 1) pa_nil)) pe_int)) po_none))
      (pss_one (ps_ret (pe_lc (own := [("stay", 4)]) (g := gName 4) (tt := tTest (tChain (rI0 fun i j => .bl (decide (i < j))) (rI0 fun i j => .bl (decide (i < j))) (tOp (rIxT K) (tVar 4) (tC (.int 1))) (tOp (rIxT K) (tVar 1) (tC (.int 2))) (tOp (rIxT K) (tVar 4) (tC (.int 2))))) (te := tVar 4) rfl nd (pi_list (pe_revL (pv 3))) (blkOk_by (own := [("stay", 4)]) (N := ["stays", "taker", "pile", "later", "stay"]) (sc := defScope sLiftedFrom) (by decide +kernel))
        (fun _ _ _ _ _ => pg_name (i := 4) nd rfl (Or.inl rfl)) (fun _ _ _ _ _ => pts_one (pt_chain op_lt op_lt (pe_ix ix_tup (pv 4) pe_int (fun _ _ => rfl)) (pe_ix ix_tup (pv 1) pe_int (fun _ _ => rfl)) (pe_ix ix_tup (pv 4) pe_int (fun _ _ => rfl)))) (fun _ _ _ _ _ => pv 4))))), ?_⟩
    refine ⟨_, rfl, a, ws, rs.map Rw.come, rfl, ha, ?_, ?_, hT, fun pb H1 G1 e1 => ?_⟩
    · rw [List.length_map, pair_len hw]
    · intro i y n hy hn
      obtain ⟨r, hr', t, rfl, ht⟩ := pair_get hw hy
      rw [List.getElem?_map, hr'] at hn
      exact ⟨t, _, rfl, ht, congrArg (Option.map V.int) hn⟩
    · have hb := bot_paired (hw.ext G1.ext)
      have lb := pair_len hb
      have hokb : ∀ r ∈ bot rs, OkRw r := fun r hr' => hok r (bot_mem.mp hr')
      obtain ⟨j, hj1, hj2, hj3⟩ := above_ix (bot_mem.mpr hx)
      have hjlt : j < (bot rs).length := (List.getElem?_eq_some_iff.mp hj1).1
      refine ⟨_, rfl, _, rfl, .inl ⟨rfl, _, SqL.of e1⟩, _, rfl, pb, v, rwD x, (bot rs).map rwD, j, rwD x, rfl, rfl, .lst (SqL.of e1) (dp_rws hb), dp_rw (hv.ext G1.ext), shaped_rws hokb, shaped_rw (hok x hx), ?_, ?_, ?_, ?_⟩
      · rw [List.getElem?_map, hj1]
        rfl
      · rw [eqv_rw]
        exact decide_eq_true rfl
      · intro m z' hm hz
        rw [List.getElem?_map] at hz
        obtain ⟨z, hz1, rfl⟩ := Option.map_eq_some_iff.mp hz
        rw [eqv_rw]
        exact decide_eq_false (hj2 m hm z hz1)
      · refine ⟨_, _, rfl, rfl, _, rfl, pb, _, rfl, SqL.of e1, fun p2 hp2 => ?_⟩
        have ec : cutV (sortV (rs.map Rw.come) ws) (some ((j : Int) + 1)) none = (sortV (rs.map Rw.come) ws).drop (j + 1) := by
          unfold cutV
          rw [show (some ((j : Int) + 1)) = some ((j + 1 : Nat) : Int) from rfl, HT.sIx_nat, HT.sIx_none, Nat.min_eq_left (by omega)]
          exact List.take_of_length_le (by rw [List.length_drop]; exact Nat.le_refl _)
        rw [ec]
        generalize hys : (sortV (rs.map Rw.come) ws).drop (j + 1) = ys
        have s2 : Same H1 (upd H1 p2 (.lst ys)) := same_upd hp2
        have y1 : RwsV H1 ys (above x (bot rs)) := by
          rw [← hys, ← hj3]
          exact paired_drop _ hb
        have g2 : (upd H1 p2 (.lst ys)) p2 = some (.lst ys) := upd_same
        generalize upd H1 p2 (.lst ys) = H2 at s2 g2 ⊢
        refine ⟨_, rfl, p2, ys, rfl, SqL.of g2, fun p3 hp3 => ?_⟩
        have s3 : Same H2 (upd H2 p3 (.lst ys.reverse)) := same_upd hp3
        have g3 : (upd H2 p3 (.lst ys.reverse)) p3 = some (.lst ys.reverse) := upd_same
        have s4 := s2.trans s3
        generalize upd H2 p3 (.lst ys.reverse) = H3 at s3 g3 s4 ⊢
        have y3 : RwsV H3 ys.reverse (above x (bot rs)).reverse := paired_rev (y1.ext (LamX.ExtN.of s4))
        generalize hZ : (above x (bot rs)).reverse = Z at y3
        refine ⟨p3, rfl, ⟨_, SqL.of g3⟩, fun D hD => ?_⟩
        obtain ⟨tx, rfl, htx⟩ := hv.ext (G1.ext.trans (LamX.ExtN.of s4))
        have lz : ys.reverse.length = Z.length := pair_len y3
        have ly : ys.length ≤ 1000 := by
          have := pair_len y1
          rw [← hys, List.length_drop]
          have := pair_len hw
          rw [lb, bot_length]
          omega
        refine lc_gather walk_list (fun i => ((ys.reverse.zip Z)[i]?).bind fun q => if crosses x q.2 = true then some q.1 else none) hD (by rw [List.length_reverse]; exact Nat.le_trans ly (by decide)) (fun H4 s5 => SqL.of (s5 _ _ g3)) (fun i v H4 H5 hi s5 y R k1 => ?_) fun H4 s5 e4 => ?_
        · obtain ⟨rfl, e2⟩ := y
          obtain ⟨r, hr', t', rfl, ht'⟩ := pair_get y3 e2
          have k2 := k1 _ (Same.refl _)
          have ez : (ys.reverse.zip Z)[i]? = some (.ref t', r) := by
            rw [List.getElem?_zip_eq_some]
            exact ⟨e2, hr'⟩
          rw [ez] at k2
          simp only [Option.bind_some] at k2
          have t1 := SqT.of (K := K) (s5 _ _ ht')
          have t2 := SqT.of (K := K) (s5 _ _ htx)
          refine ⟨rfl, _, rfl, t', _, 1, .int r.come, rfl, rfl, t1, atI_nat (j := 1) rfl, _, rfl, tx, _, 2, .int x.go, rfl, rfl, t2, atI_nat (j := 2) rfl, _, _, rfl, rfl, _, rfl, ?_⟩
          by_cases c1 : r.come < x.go
          · rw [if_pos (decide_eq_true c1)]
            refine ⟨_, rfl, t', _, 2, .int r.go, rfl, rfl, t1, atI_nat (j := 2) rfl, _, _, rfl, rfl, ?_⟩
            by_cases c2 : x.go < r.go
            · have e : crosses x r = true := by
                unfold crosses
                rw [decide_eq_true c1, decide_eq_true c2]
                rfl
              rw [if_pos e] at k2
              exact ⟨_, rfl, ite2 (fun _ => ⟨_, rfl, k2⟩) (fun h => absurd (decide_eq_true c2) h)⟩
            · have e : crosses x r = false := by
                unfold crosses
                rw [decide_eq_true c1, decide_eq_false c2]
                rfl
              rw [if_neg (by rw [e]; exact Bool.false_ne_true)] at k2
              exact ⟨_, rfl, ite2 (fun h => absurd (of_decide_eq_true h) c2) (fun _ => k2)⟩
          · have e : crosses x r = false := by
              unfold crosses
              rw [decide_eq_false c1]
              rfl
            rw [if_neg (by rw [e]; exact Bool.false_ne_true)] at k2
            rw [if_neg (by rw [decide_eq_false c1]; exact Bool.false_ne_true)]
            exact ⟨_, rfl, iteF k2⟩
        · have ez : (ys.reverse.zip Z).length = ys.reverse.length := by
            rw [List.length_zip, lz]
            exact Nat.min_self _
          rw [← ez, gather_list] at e4
          have sv := paired_filter (crosses x) (pair_mono (fun _ _ k => RwAt.same s5 k) y3)
          rw [← hZ] at sv
          rw [← hZ] at e4
          refine k D _ _ (fun o e => Classical.byContradiction fun hn => ?_) ((G1.trans (Sh1.Grows.of s4)).trans (Sh1.Grows.of s5)) e4 sv
          have e2 := s4 _ _ (G1.ext D o e fun ps z => hn ⟨ps, z⟩)
          rw [hD] at e2
          cases e2
theorem ok_lifted {f fB : Addr} {fd fdB : FuncData} {T : List (Addr × Str)} (F : Fun K "lifted_from" "lifted_from" sLiftedFrom f fd) (GB : FnOk P w K mg base CX0 5 fB fdB ["stays"] (spBottom K T)) (mB : mg "bottom_up" = some (.ref fB)) (kB : PySem.W.keepIn K (.ref fB) = true) (bB : Binds K fdB ["stays"] []) :
    FnOk P w K mg base CX0 6 f fd ["stays", "taker"] (spLifted K T) :=
  (ok_liftedN F GB mB kB bB).imp fun vs H Q E ⟨a, v, ws, rs, x, h1, h2, h3, h4, h5, h6, h7, h8, k⟩ => ⟨a, v, ws, rs, x, h1, h2, h3, h4, h5, h6, h7, h8, fun p H' ys _ => k p H' ys⟩
end
end Sh1
set_option Elab.async false
set_option linter.all false
set_option maxRecDepth 100000
set_option maxHeartbeats 4000000
/-! What is sorted: bot is a permutation, in the order of coming, stable. -/
namespace Sh1
open PySem L2 Sho NdefX Shg
theorem insK_perm {α : Type} {p : Int × α} : ∀ {l : List (Int × α)}, (insK p l).Perm (p :: l)
  | [] => List.Perm.refl _
  | q :: l => by
    unfold insK
    split
    · exact List.Perm.refl _
    · exact ((insK_perm (p := p) (l := l)).cons q).trans (List.Perm.swap p q l)
theorem sortK_perm {α : Type} : ∀ {l : List (Int × α)}, (sortK l).Perm l
  | [] => List.Perm.refl _
  | q :: l => by
    unfold sortK
    exact insK_perm.trans ((sortK_perm (l := l)).cons q)
theorem insK_sorted {α : Type} {p : Int × α} : ∀ {l : List (Int × α)}, l.Pairwise (fun a b => a.1 ≤ b.1) → (insK p l).Pairwise (fun a b => a.1 ≤ b.1)
  | [], _ => by
    unfold insK
    simp
  | q :: l, h => by
    rw [List.pairwise_cons] at h
    unfold insK
    split
    · rename_i hle
      rw [List.pairwise_cons]
      refine ⟨fun b hb => ?_, List.pairwise_cons.mpr h⟩
      rcases List.mem_cons.mp hb with rfl | hb
      · exact hle
      · exact Int.le_trans hle (h.1 b hb)
    · rename_i hle
      rw [List.pairwise_cons]
      refine ⟨fun b hb => ?_, insK_sorted h.2⟩
      rcases insK_mem.mp hb with rfl | hb
      · omega
      · exact h.1 b hb
theorem sortK_sorted {α : Type} : ∀ {l : List (Int × α)}, (sortK l).Pairwise (fun a b => a.1 ≤ b.1)
  | [] => by
    unfold sortK
    exact List.Pairwise.nil
  | q :: l => by
    unfold sortK
    exact insK_sorted sortK_sorted
theorem zip_map_self {α β : Type} (f : α → β) : ∀ l : List α, (l.map f).zip l = l.map fun x => (f x, x)
  | [] => rfl
  | x :: l => by rw [List.map_cons, List.zip_cons_cons, zip_map_self f l, List.map_cons]
theorem bot_perm (rs : List Rw) : (bot rs).Perm rs := by
  unfold bot sortV
  rw [zip_map_self]
  refine (sortK_perm.map _).trans ?_
  rw [List.map_map]
  simp [Function.comp_def]
theorem bot_sorted (rs : List Rw) : (bot rs).Pairwise (fun a b => a.come ≤ b.come) := by
  unfold bot sortV
  rw [zip_map_self]
  rw [List.pairwise_map]
  refine List.Pairwise.imp_of_mem (fun {a b} ha hb h => ?_) sortK_sorted
  obtain ⟨x, _, rfl⟩ := List.mem_map.mp (sortK_mem.mp ha)
  obtain ⟨y, _, rfl⟩ := List.mem_map.mp (sortK_mem.mp hb)
  exact h
theorem bot_key {rs : List Rw} : ∀ q ∈ sortK (rs.map fun x => (x.come, x)), q.1 = q.2.come := fun q hq => by
  obtain ⟨x, _, rfl⟩ := List.mem_map.mp (sortK_mem.mp hq)
  rfl
theorem sortV_self (f : Rw → Int) (rs : List Rw) : sortV (rs.map f) rs = (sortK (rs.map fun x => (f x, x))).map (·.2) := by
  unfold sortV
  rw [zip_map_self]
theorem sortV_filter (f : Rw → Int) (rs : List Rw) (c : Int) : (sortV (rs.map f) rs).filter (fun r => decide (f r = c)) = rs.filter fun r => decide (f r = c) := by
  have key : ∀ q ∈ sortK (rs.map fun x => (f x, x)), q.1 = f q.2 := fun q hq => by
    obtain ⟨x, _, rfl⟩ := List.mem_map.mp (sortK_mem.mp hq)
    rfl
  rw [sortV_self, List.filter_map]
  have e1 : (sortK (rs.map fun x => (f x, x))).filter ((fun r => decide (f r = c)) ∘ fun x => x.2) = (sortK (rs.map fun x => (f x, x))).filter fun q => q.1 == c :=
    List.filter_congr fun q hq => by
      show decide (f q.2 = c) = (q.1 == c)
      rw [key q hq, Bool.eq_iff_iff]
      simp
  rw [e1, sortK_filter, List.filter_map, List.map_map]
  have e2 : ((fun x : Int × Rw => x.2) ∘ fun x : Rw => (f x, x)) = id := rfl
  rw [e2, List.map_id]
  refine List.filter_congr fun x _ => ?_
  show (f x == c) = decide (f x = c)
  rw [Bool.eq_iff_iff]
  simp
theorem sortV_perm (f : Rw → Int) (rs : List Rw) : (sortV (rs.map f) rs).Perm rs := by
  rw [sortV_self]
  refine (sortK_perm.map _).trans ?_
  rw [List.map_map]
  simp [Function.comp_def]
theorem sortV_sorted (f : Rw → Int) (rs : List Rw) : (sortV (rs.map f) rs).Pairwise (fun a b => f a ≤ f b) := by
  rw [sortV_self, List.pairwise_map]
  refine List.Pairwise.imp_of_mem (fun {a b} ha hb h => ?_) sortK_sorted
  obtain ⟨x, _, rfl⟩ := List.mem_map.mp (sortK_mem.mp ha)
  obtain ⟨y, _, rfl⟩ := List.mem_map.mp (sortK_mem.mp hb)
  exact h
end Sh1
set_option Elab.async false
set_option linter.all false
set_option maxRecDepth 100000
set_option maxHeartbeats 4000000
/-! Rows played tick by tick: who lifts whom, as pairs of rows; numbers only. -/
namespace Pq
open PySem L2 Sho NdefX Shg Sh1
/-- the takers in the order of going, who lie higher first -/
def takers (rs : List Rw) : List Rw := sortV ((bot rs).reverse.map Rw.go) (bot rs).reverse
def crossed (rs : List Rw) : List (Rw × Rw) := (takers rs).flatMap fun x => (lifted rs x).map fun y => (x, y)
theorem takers_mem {rs : List Rw} {r : Rw} (h : r ∈ takers rs) : r ∈ rs := by
  unfold takers sortV at h
  obtain ⟨x, hx, rfl⟩ := List.mem_map.mp h
  exact bot_mem.mp (List.mem_reverse.mp (List.of_mem_zip (sortK_mem.mp hx)).2)
/-- the goings of a tick, from the top down: what is lifted, the pile that is left -/
def gone (t : Int) : List Rw → List (Rw × Rw) × List Rw
  | [] => ([], [])
  | p :: l => if p.go = t then ((gone t l).1 ++ (gone t l).2.reverse.map fun y => (p, y), (gone t l).2) else ((gone t l).1, p :: (gone t l).2)
/-- one tick: what is lifted, the pile behind it -/
def tickOf (rs : List Rw) (t : Int) (pile : List Rw) : List (Rw × Rw) × List Rw := ((gone t pile).1, (gone t pile).2 ++ rs.filter fun r => decide (r.come = t))
def playOn (rs : List Rw) : List Int → List Rw → List (Rw × Rw)
  | [], _ => []
  | t :: ts, pile => (tickOf rs t pile).1 ++ playOn rs ts (tickOf rs t pile).2
def liftsOf (rs : List Rw) (x : Rw) : List (Rw × Rw) := (lifted rs x).map fun y => (x, y)
theorem gone_left (t : Int) : ∀ l : List Rw, (gone t l).2 = l.filter fun r => decide (r.go ≠ t)
  | [] => rfl
  | p :: l => by
    unfold gone
    by_cases h : p.go = t
    · rw [if_pos h, List.filter_cons, if_neg (by simp [h])]
      exact gone_left t l
    · rw [if_neg h, List.filter_cons, if_pos (by simp [h])]
      show p :: (gone t l).2 = _
      rw [gone_left t l]
theorem above_cons_ne {x p : Rw} {l : List Rw} (h : p ≠ x) : above x (p :: l) = above x l := by
  show (if p = x then l else above x l) = _
  rw [if_neg h]
theorem above_cons_eq {x : Rw} {l : List Rw} : above x (x :: l) = l := by
  show (if x = x then l else above x l) = _
  rw [if_pos rfl]
theorem flat_congrI {α β : Type} {f g : α → List β} : ∀ {l : List α}, (∀ x ∈ l, f x = g x) → l.flatMap f = l.flatMap g
  | [], _ => rfl
  | x :: l, h => by
    rw [List.flatMap_cons, List.flatMap_cons, h x List.mem_cons_self, flat_congrI fun y hy => h y (List.mem_cons_of_mem _ hy)]
theorem flat_congr {α β : Type} {f g : α → List β} : ∀ {l : List α}, (∀ x ∈ l, f x = g x) → l.flatMap f = l.flatMap g
  | [], _ => rfl
  | x :: l, h => by
    rw [List.flatMap_cons, List.flatMap_cons, h x List.mem_cons_self, flat_congr fun y hy => h y (List.mem_cons_of_mem _ hy)]
theorem gone_out (t : Int) : ∀ l : List Rw, l.Nodup → (gone t l).1 = (l.filter fun r => decide (r.go = t)).reverse.flatMap fun x => ((above x l).filter fun r => decide (r.go ≠ t)).reverse.map fun y => (x, y)
  | [], _ => rfl
  | p :: l, nd => by
    rw [List.nodup_cons] at nd
    have ih := gone_out t l nd.2
    have cg : (l.filter fun r => decide (r.go = t)).reverse.flatMap (fun x => ((above x (p :: l)).filter fun r => decide (r.go ≠ t)).reverse.map fun y => (x, y)) = (gone t l).1 := by
      rw [ih]
      refine flat_congr fun x hx => ?_
      have hxl : x ∈ l := (List.mem_filter.mp (List.mem_reverse.mp hx)).1
      rw [above_cons_ne fun e => nd.1 (by rw [e]; exact hxl)]
    unfold gone
    by_cases h : p.go = t
    · rw [if_pos h, List.filter_cons, if_pos (by simp [h]), List.reverse_cons, List.flatMap_append, cg, List.flatMap_cons, List.flatMap_nil, List.append_nil, above_cons_eq, gone_left]
    · rw [if_neg h, List.filter_cons, if_neg (by simp [h])]
      exact cg.symm
theorem above_filter {p : Rw → Bool} {x : Rw} (hp : p x = true) : ∀ l : List Rw, above x (l.filter p) = (above x l).filter p
  | [] => rfl
  | r :: l => by
    by_cases e : r = x
    · subst e
      rw [List.filter_cons, if_pos hp, above_cons_eq, above_cons_eq]
    · rw [above_cons_ne e, List.filter_cons]
      split
      · rw [above_cons_ne e, above_filter hp l]
      · exact above_filter hp l
theorem bot_filter (rs : List Rw) (c : Int) : (bot rs).filter (fun r => decide (r.come = c)) = rs.filter fun r => decide (r.come = c) := sortV_filter Rw.come rs c
theorem sorted_split {f : Rw → Int} {t : Int} : ∀ {l : List Rw}, l.Pairwise (fun a b => f a ≤ f b) → l.filter (fun r => decide (f r ≤ t)) = l.filter (fun r => decide (f r < t)) ++ l.filter (fun r => decide (f r = t))
  | [], _ => rfl
  | r :: l, h => by
    rw [List.pairwise_cons] at h
    have ih := sorted_split (t := t) h.2
    rcases Int.lt_trichotomy (f r) t with e | e | e
    · rw [List.filter_cons, if_pos (by simp; omega), List.filter_cons, if_pos (by simp; omega), List.filter_cons, if_neg (by simp; omega), ih]
      rfl
    · have z : l.filter (fun r => decide (f r < t)) = [] := by
        rw [List.filter_eq_nil_iff]
        intro a ha
        have := h.1 a ha
        simp
        omega
      rw [z] at ih
      rw [List.filter_cons, if_pos (by simp; omega), List.filter_cons, if_neg (by simp; omega), z, List.filter_cons, if_pos (by simp; omega), ih]
      rfl
    · have z : ∀ a ∈ l, t < f a := fun a ha => by
        have := h.1 a ha
        omega
      have z1 : l.filter (fun r => decide (f r ≤ t)) = [] := by
        rw [List.filter_eq_nil_iff]
        intro a ha
        have := z a ha
        simp
        omega
      rw [z1] at ih
      rw [List.filter_cons, if_neg (by simp; omega), List.filter_cons, if_neg (by simp; omega), List.filter_cons, if_neg (by simp; omega), z1, ← ih]
/-- what lies on the pile behind tick t -/
def pileOf (rs : List Rw) (t : Int) : List Rw := (bot rs).filter fun r => decide (r.come ≤ t) && decide (t < r.go)
/-- .. and ahead of the goings of tick t -/
def pileTo (rs : List Rw) (t : Int) : List Rw := (bot rs).filter fun r => decide (r.come < t) && decide (t ≤ r.go)
theorem tick_pile {rs : List Rw} (hv : ∀ r ∈ rs, r.come < r.go) (t : Int) : (tickOf rs t (pileTo rs t)).2 = pileOf rs t := by
  show (gone t (pileTo rs t)).2 ++ _ = _
  rw [gone_left]
  unfold pileTo pileOf
  rw [List.filter_filter]
  have s := sorted_split (f := Rw.come) (t := t) (bot_sorted rs)
  have e : (bot rs).filter (fun r => decide (r.come ≤ t) && decide (t < r.go)) = ((bot rs).filter fun r => decide (r.come ≤ t)).filter fun r => decide (t < r.go) := by
    rw [List.filter_filter]
    exact List.filter_congr fun r _ => Bool.and_comm ..
  rw [e, s, List.filter_append, List.filter_filter, bot_filter]
  congr 1
  · refine List.filter_congr fun r _ => ?_
    rw [Bool.eq_iff_iff]
    simp
    omega
  · refine (List.filter_eq_self.mpr fun r hr => ?_).symm
    obtain ⟨h1, h2⟩ := List.mem_filter.mp hr
    have := hv r h1
    simp at h2 ⊢
    omega
theorem nodup_bot {rs : List Rw} (h : rs.Nodup) : (bot rs).Nodup := (bot_perm rs).nodup_iff.mpr h
theorem tick_out {rs : List Rw} (hv : ∀ r ∈ rs, r.come < r.go) (nd : rs.Nodup) (t : Int) : (tickOf rs t (pileTo rs t)).1 = ((bot rs).reverse.filter fun r => decide (r.go = t)).flatMap (liftsOf rs) := by
  show (gone t (pileTo rs t)).1 = _
  have nd' : (pileTo rs t).Nodup := (nodup_bot nd).filter _
  rw [gone_out t _ nd']
  have e1 : ((pileTo rs t).filter fun r => decide (r.go = t)).reverse = (bot rs).reverse.filter fun r => decide (r.go = t) := by
    rw [List.filter_reverse]
    congr 1
    unfold pileTo
    rw [List.filter_filter]
    refine List.filter_congr fun r hr => ?_
    have := hv r (bot_mem.mp hr)
    rw [Bool.eq_iff_iff]
    simp
    omega
  rw [e1]
  refine flat_congr fun x hx => ?_
  obtain ⟨hx1, hx2⟩ := List.mem_filter.mp hx
  have hxb : x ∈ bot rs := List.mem_reverse.mp hx1
  have xg : x.go = t := of_decide_eq_true hx2
  have xc := hv x (bot_mem.mp hxb)
  unfold liftsOf lifted
  congr 1
  rw [List.filter_reverse]
  congr 1
  unfold pileTo
  rw [above_filter (by simp; omega), List.filter_filter]
  refine List.filter_congr fun r hr => ?_
  unfold crosses
  rw [Bool.eq_iff_iff]
  simp
  omega
theorem pile_between {rs : List Rw} {p t : Int} (hpt : p < t) (h : ∀ r ∈ rs, (r.come ≤ p ∨ t ≤ r.come) ∧ (r.go ≤ p ∨ t ≤ r.go)) : pileOf rs p = pileTo rs t := by
  unfold pileOf pileTo
  refine List.filter_congr fun r hr => ?_
  have := h r (bot_mem.mp hr)
  rw [Bool.eq_iff_iff]
  simp
  omega
theorem play_ticks {rs : List Rw} (hv : ∀ r ∈ rs, r.come < r.go) (nd : rs.Nodup) : ∀ (ts : List Int) (p : Int), ts.Pairwise (fun a b => a < b) → (∀ t ∈ ts, p < t) → (∀ r ∈ rs, (r.come ≤ p ∨ r.come ∈ ts) ∧ (r.go ≤ p ∨ r.go ∈ ts)) →
    playOn rs ts (pileOf rs p) = ts.flatMap fun t => ((bot rs).reverse.filter fun r => decide (r.go = t)).flatMap (liftsOf rs)
  | [], _, _, _, _ => rfl
  | t :: ts, p, hs, hp, hc => by
    rw [List.pairwise_cons] at hs
    have ge : ∀ z, z ∈ t :: ts → t ≤ z := fun z hz => by
      rcases List.mem_cons.mp hz with rfl | hz
      · exact Int.le_refl _
      · exact Int.le_of_lt (hs.1 z hz)
    have e := pile_between (rs := rs) (hp t List.mem_cons_self) fun r hr => ⟨(hc r hr).1.imp id (ge _), (hc r hr).2.imp id (ge _)⟩
    show (tickOf rs t (pileOf rs p)).1 ++ playOn rs ts (tickOf rs t (pileOf rs p)).2 = _
    rw [e, tick_pile hv, tick_out hv nd, List.flatMap_cons]
    congr 1
    refine play_ticks hv nd ts t hs.2 hs.1 fun r hr => ?_
    have := hp t List.mem_cons_self
    constructor
    · rcases (hc r hr).1 with h | h
      · exact .inl (by omega)
      · rcases List.mem_cons.mp h with h | h
        · exact .inl (by omega)
        · exact .inr h
    · rcases (hc r hr).2 with h | h
      · exact .inl (by omega)
      · rcases List.mem_cons.mp h with h | h
        · exact .inl (by omega)
        · exact .inr h
theorem sorted_flat {f : Rw → Int} : ∀ (ts : List Int) (l : List Rw), ts.Pairwise (fun a b => a < b) → l.Pairwise (fun a b => f a ≤ f b) → (∀ r ∈ l, f r ∈ ts) → ts.flatMap (fun t => l.filter fun r => decide (f r = t)) = l
  | [], [], _, _, _ => rfl
  | [], r :: l, _, _, h => nomatch h r List.mem_cons_self
  | t :: ts, l, hs, hl, h => by
    rw [List.pairwise_cons] at hs
    have ge : ∀ r ∈ l, t ≤ f r := fun r hr => by
      rcases List.mem_cons.mp (h r hr) with e | e
      · omega
      · exact Int.le_of_lt (hs.1 _ e)
    have ih := sorted_flat ts (l.filter fun r => decide (t < f r)) hs.2 (hl.filter _) fun r hr => by
      obtain ⟨h1, h2⟩ := List.mem_filter.mp hr
      have h2 := of_decide_eq_true h2
      rcases List.mem_cons.mp (h r h1) with e | e
      · omega
      · exact e
    have e1 : ts.flatMap (fun z => l.filter fun r => decide (f r = z)) = ts.flatMap fun z => (l.filter fun r => decide (t < f r)).filter fun r => decide (f r = z) := flat_congr fun z hz => by
      have := hs.1 z hz
      rw [List.filter_filter]
      refine List.filter_congr fun r _ => ?_
      rw [Bool.eq_iff_iff]
      simp
      omega
    rw [List.flatMap_cons, e1, ih]
    have key : ∀ m : List Rw, m.Pairwise (fun a b => f a ≤ f b) → (∀ r ∈ m, t ≤ f r) → (m.filter fun r => decide (f r = t)) ++ (m.filter fun r => decide (t < f r)) = m := fun m => by
      induction m with
      | nil => intros; rfl
      | cons r m ihm =>
        intro hm hg
        rw [List.pairwise_cons] at hm
        have g0 := hg r List.mem_cons_self
        by_cases e : f r = t
        · rw [List.filter_cons, if_pos (by simp [e]), List.filter_cons, if_neg (by simp; omega), List.cons_append, ihm hm.2 fun y hy => hg y (List.mem_cons_of_mem _ hy)]
        · have z : (m.filter fun r => decide (f r = t)) = [] := by
            rw [List.filter_eq_nil_iff]
            intro a ha
            have := hm.1 a ha
            simp
            omega
          have ih2 := ihm hm.2 fun y hy => hg y (List.mem_cons_of_mem _ hy)
          rw [z, List.nil_append] at ih2
          rw [List.filter_cons, if_neg (by simp [e]), z, List.nil_append, List.filter_cons, if_pos (by simp; omega), ih2]
    exact key l hl ge
/-- the theorem: a party that is played lifts as `crossed` tells -/
theorem play_crossed {rs : List Rw} (hv : ∀ r ∈ rs, r.come < r.go) (nd : rs.Nodup) {ts : List Int} (hs : ts.Pairwise (fun a b => a < b)) (hc : ∀ r ∈ rs, r.come ∈ ts ∧ r.go ∈ ts) : playOn rs ts [] = crossed rs := by
  obtain ⟨p, hp⟩ : ∃ p : Int, ∀ t ∈ ts, p < t := by
    clear hc
    induction ts with
    | nil => exact ⟨0, fun _ h => nomatch h⟩
    | cons t ts _ =>
      rw [List.pairwise_cons] at hs
      refine ⟨t - 1, fun z hz => ?_⟩
      rcases List.mem_cons.mp hz with rfl | hz
      · omega
      · have := hs.1 z hz
        omega
  have e0 : ([] : List Rw) = pileOf rs p := by
    unfold pileOf
    refine (List.filter_eq_nil_iff.mpr fun r hr => ?_).symm
    have := hp _ (hc r (bot_mem.mp hr)).1
    simp
    omega
  rw [e0, play_ticks hv nd ts p hs hp fun r hr => ⟨.inr (hc r hr).1, .inr (hc r hr).2⟩]
  have st := sorted_flat (f := Rw.go) ts (takers rs) hs (sortV_sorted Rw.go _) fun r hr => (hc r (takers_mem hr)).2
  show _ = (takers rs).flatMap (liftsOf rs)
  rw [← st]
  have fl : ∀ l : List Int, (l.flatMap fun t => (takers rs).filter fun r => decide (r.go = t)).flatMap (liftsOf rs) = l.flatMap fun t => ((bot rs).reverse.filter fun r => decide (r.go = t)).flatMap (liftsOf rs) := fun l => by
    induction l with
    | nil => rfl
    | cons t l ih =>
      rw [List.flatMap_cons, List.flatMap_append, ih, List.flatMap_cons]
      congr 2
      exact sortV_filter Rw.go (bot rs).reverse t
  exact (fl ts).symm
end Pq
set_option Elab.async false
set_option linter.all false
set_option maxRecDepth 100000
set_option maxHeartbeats 2000000
/-! bool(x), len(x), x[i], x == y of own instances by promises. -/
namespace ShB
open PySem
theorem meets_bool {prog : Program} {w : World} (v : Value) :
    MeetsIn prog w (Builtin.«bool.__new__» ⟨[.type "bool", v], []⟩) (fun A R s => wpAny (model prog w) A.in1 (truthy v) (fun b s' => R (.ok (.ret (.bool b))) s') (fun e s' => R (.error e) s') s) := by
  intro A R s h
  obtain ⟨hp, g, d, tk, os⟩ := s
  have f1 := F.conv_sub_bool
  unfold Builtin.«bool.__new__»
  repeat (any_goals (first | assumption | (with_reducible refine wpAny_mono h (fun b s' z => ?_) fun _ _ z => z) | wp_step))
  all_goals first | exact ⟨_, rfl, z⟩ | exact z | skip
theorem call_boolT {prog : Program} {w : World} {A : Around} {E : Value → Shared → Prop} {s : Shared} {v : Value} {Q : Value → Shared → Prop}
    (h : wpAny (model prog w) A.in1.in1 (truthy v) (fun b s' => Q (.bool b) s') E s) : wpAny (model prog w) A (call (.type "bool") [v]) Q E s :=
  callType_newIn F.called_bool F.newNe_bool (F.typeCall_bool_1 v) (F.newCall_bool_1 v) (fun obj => F.args_object_init_2 obj v) F.entry_bool_new (meets_bool v)
    (wpAny_mono h (fun b s' z => ⟨by rfl, z⟩) fun _ _ z => z)
end ShB

namespace Sho
open PySem PySem.Spec PyProof.Rows L2 StX
section
variable {X : Cx} {CX : CXT} {k : Nat} {f C : Addr} {sp : Sp} {E : XK}
/-- a promise, run around A (which bears the frames of X) -/
theorem run_at {A : Around} {pins : List (Addr × Obj)} {σ : L2.St} {H : Hp} {s : Shared} {Q : VK} {us : List Value} {vs : List V} (F : FnR X.prog X.w X.K X.mg X.base CX k f sp) (hr : Room k A) (e0 : Env0 X.prog X.w X.K X.mg X.base A X.stack s H) (hx : Passes CX X E)
    (I : Inv X pins σ H s) (r : Vals vs us) (h : sp vs H Q E) : wpAny (model X.prog X.w) A (call (.ref f) us) (EP X pins σ Q) X.xe s := by
  refine wpAny_call (codeAny_mono (F A X.stack s H us vs Q E hr e0 r h) fun r s' hq => ?_)
  cases r with
  | error e => exact hx pins σ H s e s' I hq
  | ok fl =>
    cases fl with
    | ret u => exact I.after hq
    | next => exact hq.elim
    | brk => exact hq.elim
    | cont => exact hq.elim
theorem inst_of {pins : List (Addr × Obj)} {σ : L2.St} {H : Hp} {s : Shared} {a : Addr} (I : Inv X pins σ H s) (h : InsAt H a C) : ∃ ox od, PySem.W.InstAt s.heap a ox C od := by
  obtain ⟨dx, fs, h⟩ := h
  obtain ⟨mA, J, _⟩ := ins_get I.hok h
  obtain ⟨od, J, _⟩ := J.look
  exact ⟨_, _, J⟩
/-- len(a), a's own __len__ -/
def rLenO (C : Addr) (sp : Sp) (E : XK) : List V → Hp → VK → Prop := fun xs H Q => ∃ a, xs = [.ref a] ∧ InsAt H a C ∧ sp [.ref a] H (fun r H' => ∃ n : Int, r = .int n ∧ 0 ≤ n ∧ n < 2 ^ 63 ∧ Q (.int n) H') E
theorem call_lenO (F : FnR X.prog X.w X.K X.mg X.base CX k f sp) (hr : Room (k + 1) X.A) (hx : Passes CX X E) (hs : PySem.W.findIn X.K (.ref C) "__len__" = some (some (.ref f))) (hf : PySem.W.isFn X.K (.ref f) = true) :
    CallR X (.builtin "len") (rLenO C sp E) := by
  rintro pins s σ H xs us Q I r ⟨a, rfl, ha, h⟩
  obtain rfl := Vals.ref1 r
  obtain ⟨ox, od, J⟩ := inst_of I ha
  obtain ⟨m, hF⟩ := I.fr
  refine PySem.W.len_K hF I.ok.mod.kin J hs hf (thn (run_at (vs := [.ref a]) F hr.in1 I.env0.in1 hx I (.cons rfl .nil) h) fun u s' q => ?_)
  obtain ⟨v, H', I', rv, n, rfl, n0, n1, q⟩ := q
  obtain ⟨t, rfl⟩ := rv
  exact ⟨⟨n0, n1⟩, .int n, H', I'.tok _, ⟨_, rfl⟩, q⟩
/-- bool(a), a's own __bool__ -/
def rBoolO (C : Addr) (sp : Sp) (E : XK) : List V → Hp → VK → Prop := fun xs H Q => ∃ a, xs = [.ref a] ∧ InsAt H a C ∧ sp [.ref a] H (fun r H' => ∃ b : Bool, r = .bl b ∧ Q (.bl b) H') E
theorem call_boolO (F : FnR X.prog X.w X.K X.mg X.base CX k f sp) (hr : Room (k + 2) X.A) (hx : Passes CX X E) (hs : PySem.W.findIn X.K (.ref C) "__bool__" = some (some (.ref f))) (hf : PySem.W.isFn X.K (.ref f) = true) :
    CallR X (.type "bool") (rBoolO C sp E) := by
  rintro pins s σ H xs us Q I r ⟨a, rfl, ha, h⟩
  obtain rfl := Vals.ref1 r
  obtain ⟨ox, od, J⟩ := inst_of I ha
  obtain ⟨m, hF⟩ := I.fr
  refine ShB.call_boolT (PySem.W.truthy_K hF I.ok.mod.kin J hs hf (thn (run_at (vs := [.ref a]) F hr.in1.in1 I.env0.in1.in1 hx I (.cons rfl .nil) h) fun u s' q => ?_))
  obtain ⟨v, H', I', rv, b, rfl, q⟩ := q
  cases rv
  exact ⟨.bl b, H', I', rfl, q⟩
/-- bool(a tuple) -/
theorem call_boolTup : CallR X (.type "bool") (fun xs H Q => ∃ (a : Addr) (zs : List V), xs = [.ref a] ∧ SqT X.K H a zs ∧ Q (.bl (!zs.isEmpty)) H) := by
  rintro pins s σ H xs us Q I r ⟨a, zs, rfl, hq, q⟩
  obtain rfl := Vals.ref1 r
  obtain ⟨its, rv, pl, hz⟩ := I.tuple hq
  have hl := line63
  have hlen := rv.length
  refine ShB.call_boolT (truthy_tuple pl (by simp only [List.size_toArray]; omega) ?_)
  exact ⟨.bl (!zs.isEmpty), H, I.tok _, by rw [isEmpty_of rv]; rfl, q⟩
/-- a[i], a's own __getitem__ -/
theorem pe_ixO {ea eb : Expr} {ta tb : TE} {pos : Pos} (F : FnR X.prog X.w X.K X.mg X.base CX k f sp) (hr : Room (k + 1) X.A) (hx : Passes CX X E) (hs : PySem.W.findIn X.K (.ref C) "__getitem__" = some (some (.ref f))) (hfn : PySem.W.fnIn X.K f = true) (hf : PySem.W.isFn X.K (.ref f) = true)
    (ha : PE X ea ta) (hb : PE X eb tb) (hsl : ∀ (a : Addr) (u : Value), subscripted eb true (.ref a) u = runValue (.builtin "lifetime.subscript" ⟨[.ref a, u], []⟩)) : PE X (.Subscript ea eb pos) (tOp (rOwnIx C sp E) ta tb) := by
  refine ⟨fun pins s σ H Q I h => ?_⟩
  refine Subscript_ (binT ha hb I h fun v u s2 x y H2 I2 rx ry q => ?_)
  obtain ⟨a, rfl, hi, h2⟩ := q
  cases rx
  obtain ⟨ox, od, J⟩ := inst_of I2 hi
  obtain ⟨m, hF⟩ := I2.fr
  exact PySem.W.sub_K hF I2.ok.mod.kin J hs hfn hf (run_at (vs := [.ref a, y]) F hr.in1 I2.env0.in1 hx I2 (.cons rfl (.cons ry .nil)) h2) (hsl a u)
/-- a == y, a's own __eq__; y of the own class, or of a built-in type -/
def TyEq (K : PySem.W.Frag) (H : Hp) (C : Addr) (y : V) : Prop := (∃ b, y = .ref b ∧ InsAt H b C) ∨ ∃ (b : Addr) (zs : List V), y = .ref b ∧ SqT K H b zs ∧ PySem.W.subIn K (.type "tuple") (.ref C) = some false
def rOwnEq (K : PySem.W.Frag) (C : Addr) (sp : Sp) (E : XK) : R2 := fun x y H Q => ∃ a, x = .ref a ∧ InsAt H a C ∧ TyEq K H C y ∧ sp [.ref a, y] H (fun r H' => ∃ b : Bool, r = .bl b ∧ Q (.bl b) H') E
theorem op_ownEq (F : FnR X.prog X.w X.K X.mg X.base CX k f sp) (hr : Room k X.A) (hx : Passes CX X E) (hs : PySem.W.findIn X.K (.ref C) "__eq__" = some (some (.ref f))) (hf : PySem.W.isFn X.K (.ref f) = true) :
    OpR X (compareOp .Eq) (rOwnEq X.K C sp E) := by
  rintro pins s σ H x y u v Q I rx ry ⟨a, rfl, ha, ht, h⟩
  cases rx
  obtain ⟨ox, od, J⟩ := inst_of I ha
  obtain ⟨m, hF⟩ := I.fr
  show wpAny (model X.prog X.w) X.A (richCompare .Eq (.ref a) v) (EP X pins σ Q) X.xe s
  have fin : ∀ (u : Value) (s' : Shared), EP X pins σ (fun r H' => ∃ b : Bool, r = .bl b ∧ Q (.bl b) H') u s' → PySem.W.CmpBack (EP X pins σ Q) u s' := fun u s' q => by
    obtain ⟨w2, H', I', rv, b, rfl, q⟩ := q
    cases rv
    exact ⟨.bl b, H', I', rfl, q⟩
  have run := run_at (vs := [.ref a, y]) F hr I.env0 hx I (.cons rfl (.cons ry .nil)) h
  rcases ht with ⟨b, rfl, hb⟩ | ⟨b, zs, rfl, hq, hsub⟩
  · cases ry
    obtain ⟨oy, od', J'⟩ := inst_of I hb
    exact PySem.W.cmp_K (op := .Eq) (tb := .ref C) hr.units0 hF I.ok.mod.kin J J'.type (by simp [PySem.W.notFirst]) hs hf (thn run fin)
  · cases ry
    obtain ⟨its, rv, ⟨o, ho, hc, _⟩, hz⟩ := I.tuple hq
    refine PySem.W.cmp_K (op := .Eq) (tb := .type "tuple") hr.units0 hF I.ok.mod.kin J (fun A Q E s k q => wpAny_typeOf_ref (k _ _ ho) (by rw [hc]; exact q)) ?_ hs hf (thn run fin)
    unfold PySem.W.notFirst
    rw [hsub]
    simp
end
end Sho
set_option Elab.async false
set_option linter.all false
set_option maxRecDepth 100000
set_option maxHeartbeats 2000000
namespace Sh1
open PySem L2 Sho NdefX
section
variable {P : Program} {w : World} {K : PySem.W.Frag} {mg : Str → Option Value} {base : Heap}
theorem no_meth (a : V) {m : Str} (h : (m == ("_stays" : Str)) = false) : List.lookup m [(("_stays" : Str), a)] = none := by simp [List.lookup, h]
/-! ### _stay_of -/
def guest (xs : List Stay) (z : Str) : Option Stay := xs.find? fun x => x.1 == z
def spStayOf (C CU : Addr) : Sp := fun vs H Q E => ∃ (p : Addr) (z : Str) (xs : List Stay), vs = [.ref p, .str z] ∧ PartyAt C H p xs ∧ z.length ≤ 100000 ∧
  (∀ x t, guest xs z = some x → H t = some (.tup [.str x.1, .int x.2.1, .int x.2.2]) → Q (.ref t) H) ∧
  (guest xs z = none → ∀ (H' : Hp) (d : Addr), Same H H' → H d = none → H' d = some (.xd [(("name" : Str), .str z)]) → E (.ref CU) (some d) H')
theorem scPStayOf : FnScope ["self", "name", "stay"] ["self", "name"] (defScope sPStayOf) := ⟨rfl, rfl, rfl, by decide +kernel, rfl, by decide +kernel, by decide +kernel⟩
theorem dec_str {a b : Str} : decide (V.str a = V.str b) = (a == b) := by
  rw [Bool.eq_iff_iff]
  simp
theorem ok_stayOf {f C CU : Addr} {fd : FuncData} (F : Fun K "_stay_of" "Party._stay_of" sPStayOf f fd) (PC : PartyC K mg C) (EC : ErrC P K mg "UnknownGuest" "name" nfUnk CU) : FnOk P w K mg base (L2.CX P w) 3 f fd ["self", "name"] (spStayOf C CU) := by
  refine F.okX scPStayOf (fun vs H Q E h => ?_) (fun cdv A outer s H vs Q E hr h => ?_)
  · obtain ⟨p, z, xs, rfl, _⟩ := h
    rfl
  · obtain ⟨p, z, xs, rfl, ⟨dx, a, ws, h1, h2, h3⟩, hz, kOk, kBad⟩ := h
    have nd := scPStayOf.nd
    refine ⟨_, pss_cons (ps_for (passes_of rfl) rfl (pi_tup (pe_fld (pv 0) rfl)) (pg_name (i := 2) nd rfl (Or.inl rfl))
        (pss_one (ps_if (pt_cmpR op_eq (pe_ix ix_tup (pv 2) pe_int (fun _ _ => rfl)) (pv 1) (nomark _)) (pss_one (ps_ret (pv 2))) pss_nil)))
      (pss_one (ps_raise rfl (takes_of rfl rfl rfl rfl) (pmk_unk (k := 0) EC (hr.mono (by decide)) passL (by rfl) (pk_cons (pv 1) pk_nil) rfl rfl rfl))), ?_⟩
    refine ⟨_, rfl, p, C, dx, _, .ref a, rfl, h1, PC.cl, PC.nS, lk_stays _, a, rfl, ⟨_, SqT.of h2⟩, for_it walk_tup (fun i σ H2 => ∃ o, σ = [some (.ref p), some (.str z), o] ∧ H2 = H ∧ guest (xs.take i) z = none)
      ⟨none, rfl, rfl, rfl⟩ (fun i σ H2 _ ⟨_, _, e, _⟩ => by rw [e]; exact SqT.of h2) ?_ ?_⟩
    · rintro i y σ H2 H3 hi ⟨o, rfl, rfl, hb⟩ ⟨rfl, e2⟩
      obtain ⟨x, hx, t, rfl, ht⟩ := pair_get h3 e2
      refine ⟨_, rfl, t, _, 0, .str x.1, rfl, rfl, SqT.of ht, atI_nat (j := 0) rfl, _, rfl, rfl, _, rfl, ?_⟩
      rw [dec_str]
      have take1 : xs.take (i + 1) = xs.take i ++ [x] := by rw [List.take_add_one, hx]; rfl
      cases e : (x.1 == z) with
      | true =>
        refine iteT ⟨_, rfl, kOk x t ?_ ht⟩
        have q : guest (xs.take (i + 1)) z = some x := by
          unfold guest at hb ⊢
          rw [take1, List.find?_append, hb]
          simp [e]
        have q2 : xs = xs.take (i + 1) ++ xs.drop (i + 1) := (List.take_append_drop _ _).symm
        unfold guest at q ⊢
        rw [q2, List.find?_append, q]
        rfl
      | false =>
        refine iteF ⟨_, rfl, rfl, ?_⟩
        unfold guest at hb ⊢
        rw [take1, List.find?_append, hb]
        simp [e]
    · rintro σ H2 ⟨o, rfl, rfl, hb⟩
      rw [pair_len h3, List.take_length] at hb
      refine ⟨_, rfl, _, rfl, .inl ⟨z, rfl, hz⟩, fun d hd => kBad hb _ d (fun b o e => ?_) hd upd_same⟩
      rw [upd_ne (ne_of_none e hd)]
      exact e
/-! ### __len__, __bool__, __contains__, __getitem__ -/
def spPLen (C : Addr) : Sp := fun vs H Q _ => ∃ (p : Addr) (xs : List Stay), vs = [.ref p] ∧ PartyAt C H p xs ∧ Q (.int (xs.length : Nat)) H
theorem scPLen : FnScope ["self"] ["self"] (defScope sPLen) := ⟨rfl, rfl, rfl, by decide +kernel, rfl, by decide +kernel, by decide +kernel⟩
theorem ok_plen {f C : Addr} {fd : FuncData} (F : Fun K "__len__" "Party.__len__" sPLen f fd) (B : Blt mg) (PC : PartyC K mg C) : FnOk P w K mg base CX0 1 f fd ["self"] (spPLen C) := by
  refine F.ok scPLen (fun vs H Q E h => ?_) (fun cdv A outer s H vs Q E hr h => ?_)
  · obtain ⟨p, xs, rfl, _⟩ := h
    rfl
  · obtain ⟨p, xs, rfl, ⟨dx, a, ws, h1, h2, h3⟩, k⟩ := h
    refine ⟨_, pss_one (ps_ret (pe_callB call_len_seq (by rfl) B.len PySem.boot_len (pa_cons (pe_fld (pv 0) rfl) pa_nil))), ?_⟩
    refine ⟨_, rfl, p, C, dx, _, .ref a, rfl, h1, PC.cl, PC.nS, lk_stays _, a, ws, rfl, .inr (SqT.of h2), ?_⟩
    rw [pair_len h3]
    exact k
def spPBool (C : Addr) : Sp := fun vs H Q _ => ∃ (p : Addr) (xs : List Stay), vs = [.ref p] ∧ PartyAt C H p xs ∧ Q (.bl (!xs.isEmpty)) H
theorem scPBool : FnScope ["self"] ["self"] (defScope sPBool) := ⟨rfl, rfl, rfl, by decide +kernel, rfl, by decide +kernel, by decide +kernel⟩
theorem ok_pbool {f C : Addr} {fd : FuncData} (F : Fun K "__bool__" "Party.__bool__" sPBool f fd) (B : Blt mg) (PC : PartyC K mg C) : FnOk P w K mg base CX0 1 f fd ["self"] (spPBool C) := by
  refine F.ok scPBool (fun vs H Q E h => ?_) (fun cdv A outer s H vs Q E hr h => ?_)
  · obtain ⟨p, xs, rfl, _⟩ := h
    rfl
  · obtain ⟨p, xs, rfl, ⟨dx, a, ws, h1, h2, h3⟩, k⟩ := h
    refine ⟨_, pss_one (ps_ret (pe_callTy call_boolTup (by rfl) B.bool (by decide +kernel) (pa_cons (pe_fld (pv 0) rfl) pa_nil))), ?_⟩
    refine ⟨_, rfl, p, C, dx, _, .ref a, rfl, h1, PC.cl, PC.nS, lk_stays _, a, ws, rfl, SqT.of h2, ?_⟩
    have e : ws.isEmpty = xs.isEmpty := by
      have := pair_len h3
      cases ws <;> cases xs <;> simp at this <;> rfl
    rw [e]
    exact k
def named (xs : List Stay) (z : Str) : Bool := xs.any fun x => x.1 == z
def spPIn (C : Addr) : Sp := fun vs H Q _ => ∃ (p : Addr) (z : Str) (xs : List Stay), vs = [.ref p, .str z] ∧ PartyAt C H p xs ∧ xs.length ≤ sizeLine ∧ ∀ H', Same H H' → Q (.bl (named xs z)) H'
theorem scPIn : FnScope ["self", "name"] ["self", "name"] (defScope sPIn) := ⟨rfl, rfl, rfl, by decide +kernel, rfl, by decide +kernel, by decide +kernel⟩
theorem ok_pin {f C fN pN : Addr} {fd fdN : FuncData} (F : Fun K "__contains__" "Party.__contains__" sPIn f fd) (PC : PartyC K mg C) (GN : FnOk P w K mg base CX0 1 fN fdN ["self"] (spPNames C)) (hN : PropOf K C "names" pN fN) (bN : Binds K fdN ["self"] []) :
    FnOk P w K mg base CX0 3 f fd ["self", "name"] (spPIn C) := by
  refine F.ok scPIn (fun vs H Q E h => ?_) (fun cdv A outer s H vs Q E hr h => ?_)
  · obtain ⟨p, z, xs, rfl, _⟩ := h
    rfl
  · obtain ⟨p, z, xs, rfl, PA, hz, k⟩ := h
    refine ⟨_, pss_one (ps_ret (pe_cmpR op_in_seq (pv 1) (pe_prop (pv 0) PC.cl hN GN hr bN .nil pass0 rfl) rfl)), ?_⟩
    obtain ⟨dx, a, ws, h1, h2, h3⟩ := id PA
    refine ⟨_, rfl, _, rfl, p, dx, _, rfl, h1, p, xs, rfl, PA, hz, fun H' t s' nt e => ?_⟩
    refine ⟨t, _, rfl, .inr (SqT.of e), rfl, ?_, ?_⟩
    · have := flat_strs (xs.map fun x => x.1)
      rw [List.map_map] at this
      exact this
    · have e2 : inV (.str z) (xs.map fun x => V.str x.1) = named xs z := by
        have := inV_strs z (xs.map fun x => x.1)
        rw [List.map_map, List.any_map] at this
        exact this
      rw [if_neg Bool.false_ne_true, e2]
      exact k _ s'
def spPIx (C CU : Addr) : Sp := fun vs H Q E => ∃ (p : Addr) (z : Str) (xs : List Stay), vs = [.ref p, .str z] ∧ PartyAt C H p xs ∧ z.length ≤ 100000 ∧
  (∀ x, guest xs z = some x → ∀ H' t, Same H H' → H t = none → H' t = some (.tup [.int x.2.1, .int x.2.2]) → Q (.ref t) H') ∧
  (guest xs z = none → ∀ (H' : Hp) (d : Addr), Same H H' → H d = none → H' d = some (.xd [(("name" : Str), .str z)]) → E (.ref CU) (some d) H')
theorem scPIx : FnScope ["self", "name"] ["self", "name"] (defScope sPIx) := ⟨rfl, rfl, rfl, by decide +kernel, rfl, by decide +kernel, by decide +kernel⟩
theorem guest_at {C : Addr} {H : Hp} {p : Addr} {xs : List Stay} {z : Str} (h : PartyAt C H p xs) : ∀ {x : Stay}, guest xs z = some x → ∃ t, H t = some (.tup [.str x.1, .int x.2.1, .int x.2.2]) := by
  obtain ⟨dx, a, ws, _, _, h3⟩ := h
  intro x hx
  have key : ∀ {ws : List V} {xs : List Stay}, StaysV H ws xs → x ∈ xs → ∃ t, H t = some (.tup [.str x.1, .int x.2.1, .int x.2.2]) := by
    intro ws xs r
    induction r with
    | nil => intro hm; cases hm
    | cons h r ih =>
      intro hm
      rcases List.mem_cons.mp hm with rfl | hm
      · obtain ⟨t, _, ht⟩ := h
        exact ⟨t, ht⟩
      · exact ih hm
  exact key h3 (List.mem_of_find?_eq_some hx)
theorem ok_pix {f C CU fS : Addr} {fd fdS : FuncData} (F : Fun K "__getitem__" "Party.__getitem__" sPIx f fd) (PC : PartyC K mg C) (GS : FnOk P w K mg base (L2.CX P w) 3 fS fdS ["self", "name"] (spStayOf C CU)) (mS : Meth K C "_stay_of" fS) (bS : Binds K fdS ["self", "name"] []) :
    FnOk P w K mg base (L2.CX P w) 4 f fd ["self", "name"] (spPIx C CU) := by
  refine F.okX scPIx (fun vs H Q E h => ?_) (fun cdv A outer s H vs Q E hr h => ?_)
  · obtain ⟨p, z, xs, rfl, _⟩ := h
    rfl
  · obtain ⟨p, z, xs, rfl, PA, hz, kOk, kBad⟩ := h
    refine ⟨_, pss_one (ps_ret (pe_slice sl_tup (pe_meth (pv 0) PC.cl mS GS hr bS .nil (passes_call (takes_of rfl rfl rfl rfl) fun _ _ _ _ z => z) (pa_cons (pv 1) pa_nil)) (po_some pe_int) po_none)), ?_⟩
    obtain ⟨dx, a, ws, h1, h2, h3⟩ := id PA
    refine ⟨_, rfl, p, dx, _, rfl, h1, no_meth _ (by decide +kernel), _, rfl, p, z, xs, rfl, PA, hz, fun x t hx ht => ?_, kBad⟩
    refine ⟨1, rfl, t, _, rfl, SqT.of ht, ?_, fun q hq => ?_⟩
    · exact fun h => absurd h.1 (by show ¬ HT.sIx 3 0 (some 1) = 0; decide +kernel)
    · refine kOk x hx _ q (fun b o e => ?_) hq ?_
      · rw [upd_ne (ne_of_none e hq)]
        exact e
      · rw [upd_same]
        rfl
end
end Sh1
set_option Elab.async false
set_option linter.all false
/-! What is asked of an own error class without an own __init__. -/
namespace Sho
open PySem L2
structure ErrO (K : PySem.W.Frag) (mg : Str → Option Value) (x : Str) (C : Addr) : Prop where
  ex : PySem.W.excIn K C [.type "ValueError", .type "Exception", .type "BaseException", .type "object"] "ValueError.__new__" = true
  gm : mg x = some (.ref C)
  kp : PySem.W.keepIn K (.ref C) = true
  be : PySem.W.subIn K (.ref C) (.type "BaseException") = some true
  ty : PySem.W.typeIn K (.ref C) = some (.type "type")
  exm : PySem.W.exmOne K (.ref C) (.ref C) = some true
theorem cat_le {a b : Str} {n m : Nat} (ha : a.length ≤ n) (hb : b.length ≤ m) : (a ++ b).length ≤ n + m := by
  rw [PySem.Str.length_append]
  omega
end Sho
set_option Elab.async false
set_option linter.all false
set_option maxRecDepth 100000
set_option maxHeartbeats 4000000
/-! Party.__call__. -/
namespace Sh1
open PySem L2 Sho NdefX Shg
def rw3 (x : Stay) : Rw := ⟨x.1, x.2.1, x.2.2, []⟩
theorem above_len (x : Rw) : ∀ l : List Rw, (above x l).length ≤ l.length
  | [] => Nat.le_refl _
  | y :: l => by
    unfold above
    split
    · simp
    · exact Nat.le_trans (above_len x l) (by simp)
theorem lifted_len (rs : List Rw) (x : Rw) : (lifted rs x).length ≤ rs.length := by
  unfold lifted
  refine Nat.le_trans (List.length_filter_le ..) ?_
  rw [List.length_reverse, ← bot_length (rs := rs)]
  exact above_len x _
theorem rws_of {H : Hp} : ∀ {ws : List V} {xs : List Stay}, StaysV H ws xs → RwsV H ws (xs.map rw3)
  | _, _, .nil => .nil
  | _, _, .cons h r => .cons h (rws_of r)
section
variable {P : Program} {w : World} {K : PySem.W.Frag} {mg : Str → Option Value} {base : Heap}
def spCallP (C CU : Addr) (T : List (Addr × Str)) : Sp := fun vs H Q E => ∃ (p : Addr) (z : Str) (xs : List Stay), vs = [.ref p, .str z] ∧ PartyAt C H p xs ∧ Short xs ∧ xs.length ≤ 100 ∧ z.length ≤ 100000 ∧ LamX.Tabs T H ∧
  (∀ x, guest xs z = some x → ∀ H', Grows T H H' → Q (.int ((lifted (xs.map rw3) (rw3 x)).length : Nat)) H') ∧
  (guest xs z = none → ∀ (H' : Hp) (d : Addr), Same H H' → H d = none → H' d = some (.xd [(("name" : Str), .str z)]) → E (.ref CU) (some d) H')
theorem scCallP : FnScope ["self", "name"] ["self", "name"] (defScope sPCall) := ⟨rfl, rfl, rfl, by decide +kernel, rfl, by decide +kernel, by decide +kernel⟩
theorem rws_ok {xs : List Stay} (hs : Short xs) : ∀ r ∈ xs.map rw3, OkRw r := fun r hr => by
  obtain ⟨x, hx, rfl⟩ := List.mem_map.mp hr
  exact (hs x hx).2
theorem ok_callP {f C CU fS fL : Addr} {fd fdS fdL : FuncData} {T : List (Addr × Str)} (F : Fun K "__call__" "Party.__call__" sPCall f fd) (B : Shg.Blt mg) (PC : PartyC K mg C)
    (GS : FnOk P w K mg base (L2.CX P w) 3 fS fdS ["self", "name"] (spStayOf C CU)) (mS : Meth K C "_stay_of" fS) (bS : Binds K fdS ["self", "name"] [])
    (GL : FnOk P w K mg base CX0 6 fL fdL ["stays", "taker"] (spLifted K T)) (mL : mg "lifted_from" = some (.ref fL)) (kL : PySem.W.keepIn K (.ref fL) = true) (bL : Binds K fdL ["stays", "taker"] []) : FnOk P w K mg base (L2.CX P w) 8 f fd ["self", "name"] (spCallP C CU T) := by
  refine F.okX scCallP (fun vs H Q E h => ?_) (fun cdv A outer s H vs Q E hr h => ?_)
  · obtain ⟨p, z, xs, rfl, _⟩ := h
    rfl
  · obtain ⟨p, z, xs, rfl, PA, hs, hl, hz, hT, kOk, kBad⟩ := h
    have pass : Passes (L2.CX P w) (cxOf (L2.CX P w) P w K mg base ["self", "name"] "Party.__call__" (defScope sPCall) f cdv A outer s H E) E := passes_call (takes_of rfl rfl rfl rfl) fun _ _ _ _ z => z
    refine ⟨_, pss_one (ps_ret (pe_callB call_len_seq (by rfl) B.len PySem.boot_len (pa_cons (pe_call GL (hr.mono (by decide)) rfl mL kL bL .nil pass0
      (pa_cons (pe_fld (pv 0) rfl) (pa_cons (pe_meth (pv 0) PC.cl mS GS (hr.mono (by decide)) bS .nil pass (pa_cons (pv 1) pa_nil)) pa_nil))) pa_nil))), ?_⟩
    obtain ⟨dx, a, ws, h1, h2, h3⟩ := id PA
    refine ⟨_, rfl, p, C, dx, _, .ref a, rfl, h1, PC.cl, PC.nS, lk_stays _, _, rfl, p, dx, _, rfl, h1, no_meth _ (by decide +kernel), _, rfl, p, z, xs, rfl, PA, hz, fun x t hx ht => ?_, kBad⟩
    refine ⟨a, .ref t, ws, xs.map rw3, rw3 x, rfl, .inr (SqT.of h2), rws_of h3, ⟨t, rfl, ht⟩, List.mem_map.mpr ⟨x, List.mem_of_find?_eq_some hx, rfl⟩, rws_ok hs, by rw [List.length_map]; omega, hT, fun pl H' ys G e r => ⟨pl, _, rfl, .inl (SqL.of e), ?_⟩⟩
    rw [pair_len r]
    exact kOk x hx H' G
end
end Sh1
set_option Elab.async false
set_option linter.all false
set_option maxRecDepth 100000
set_option maxHeartbeats 2000000
/-! `for` within the body of a generator. -/
namespace PySem
open Sem (wp)
section
variable {M : Model} {A : Around} {R : GenEnd} {Y : Protocol} {n : Nat} {s₀ : Shared} {c : Code} {fs : List Frame} {s : Shared} {env : Env}
  {K : Flow → Sem Fin} {H : Value → Sem Fin} {gd : Bool → Bool} {lv : List Value → List Value}
theorem seg_For {target iter : Expr} {body orelse : List Stmt} {pos : Pos} (hfold : ∀ x, foldedSetIterable iter env x = pure x)
    (h : wpAny M (A.over c fs) (eval iter env) (fun x s1 => wpAny M (A.over c fs) (pyIter x) (fun it s2 => ∀ p, Seg M A R Y n s₀ (.forLoop target it body orelse env) (M.den (.forLoop target it body orelse env))
      (.ret (fun r => ((match r with | .ok f => (.pure f : Sem Flow) | .error e => .raise e).onRaise fun (x : Value) => do
        if (← field x 1) == Value.none then unsupported "frame.own-activation:exception-without-traceback"
        setFlight x env.frame).wrap K H gd lv) none (gd false) (lv []) c p [] :: fs) s2) (fun x s' => Seg M A R Y n s₀ c (H x) fs s') s1) (fun x s' => Seg M A R Y n s₀ c (H x) fs s') s) :
    Seg M A R Y n s₀ c ((exec (.For target iter body orelse pos) env).wrap K H gd lv) fs s := by
  rw [exec_For]
  rw [Sem.bind_eq_wrap', Sem.wrap_wrap]
  refine seg_wrap (wpAny_standAt ?_)
  rw [Sem.bind_eq_wrap', Sem.wrap_wrap]
  refine seg_wrap (wpAny_mono h (fun x s1 h1 => ?_) fun _ _ h' => h')
  rw [Sem.bind_eq_wrap', Sem.wrap_wrap]
  refine seg_wrap ?_
  rw [hfold x]
  refine wpAny_pure ?_
  rw [Sem.bind_eq_wrap', Sem.wrap_wrap]
  refine seg_wrap (wpAny_standAt ?_)
  rw [Sem.bind_eq_wrap', Sem.wrap_wrap]
  refine seg_wrap (wpAny_holding (wpAny_mono h1 (fun it s2 h2 => ?_) fun _ _ h' => h'))
  exact seg_call h2
end
section
variable {prog : Program} {w : World} {A : Around} {R : GenEnd} {Y : Protocol} {n : Nat} {s₀ : Shared} {fs : List Frame} {s : Shared} {env : Env}
theorem seg_forLoop {target : Expr} {it : Value} {body : List Stmt}
    (h : wpAny (model prog w) (A.over (.forLoop target it body [] env) fs) (pyNext it) (fun r s1 => match r with
      | none => Seg (model prog w) A R Y n s₀ (.block [] env) (leafOf (.ok .next)) fs s1
      | some v => wpAny (model prog w) (A.over (.forLoop target it body [] env) fs) (letOwnedTupleGo target it v) (fun _ s1' => wpAny (model prog w) (A.over (.forLoop target it body [] env) fs) (assign target env v) (fun _ s2 =>
          Seg (model prog w) A R Y n s₀ (.forLoop target it body [] env) ((execs body env).wrap (fun f => match f with
            | .next | .cont => .pure (.again (.forLoop target it body [] env))
            | .brk => .pure (.done .next)
            | .ret v => .pure (.done (.ret v))) (fun e => (do noteFrame e env; theTreesLotGoes e : Sem Unit).wrap (fun _ => .raise e) .raise id id) id id) fs s2)
        (fun x s' => Seg (model prog w) A R Y n s₀ (.forLoop target it body [] env) ((do noteFrame x env; theTreesLotGoes x : Sem Unit).wrap (fun _ => .raise x) .raise id id) fs s') s1')
        (fun x s' => Seg (model prog w) A R Y n s₀ (.forLoop target it body [] env) ((do noteFrame x env; theTreesLotGoes x : Sem Unit).wrap (fun _ => .raise x) .raise id id) fs s') s1)
      (fun x s' => Seg (model prog w) A R Y n s₀ (.forLoop target it body [] env) ((do noteFrame x env; theTreesLotGoes x : Sem Unit).wrap (fun _ => .raise x) .raise id id) fs s') s) :
    Seg (model prog w) A R Y n s₀ (.forLoop target it body [] env) ((model prog w).den (.forLoop target it body [] env)) fs s := by
  show Seg _ A R Y n s₀ _ ((forTurn target it body [] env).onRaise (fun x => do noteFrame x env; theTreesLotGoes x)) fs s
  unfold forTurn
  have ce : ∀ e : Value, (do noteFrame e env; theTreesLotGoes e : Sem Unit).bind (fun _ => (.raise e : Sem Fin)) = (do noteFrame e env; theTreesLotGoes e : Sem Unit).wrap (fun _ => .raise e) .raise id id := fun e => Sem.bind_eq_wrap _ _
  rw [Sem.onRaise_eq_wrap, Sem.bind_eq_wrap', Sem.wrap_wrap]
  refine seg_wrap (wpAny_standAt ?_)
  rw [Sem.bind_eq_wrap', Sem.wrap_wrap]
  refine seg_wrap (wpAny_onRaise (wpAny_mono h (fun r s1 h1 => ?_) fun x s' hx => wpAny_standAt ?_))
  · cases r with
    | none => exact seg_again rfl h1
    | some v =>
      dsimp only
      rw [Sem.bind_eq_wrap', Sem.wrap_wrap]
      refine seg_wrap (wpAny_mono h1 (fun _ s1' h1' => ?_) fun x s' hx => ?_)
      · rw [Sem.bind_eq_wrap', Sem.wrap_wrap]
        refine seg_wrap (wpAny_mono h1' (fun _ s2 h2 => ?_) fun x s' hx => ?_)
        · rw [Sem.bind_eq_wrap', Sem.wrap_wrap]
          rw [Sem.wrap_congr (execs body env) _ _ (K' := fun f => match f with
            | .next | .cont => .pure (.again (.forLoop target it body [] env))
            | .brk => .pure (.done .next)
            | .ret v => .pure (.done (.ret v))) (H' := (fun e => (do noteFrame e env; theTreesLotGoes e : Sem Unit).wrap (fun _ => .raise e) .raise id id))
            (fun f => by cases f <;> rfl) (fun e => by exact ce e)]
          exact h2
        · show Seg _ _ _ _ _ _ _ ((do noteFrame x env; theTreesLotGoes x : Sem Unit).bind (fun _ => (.raise x : Sem Fin))) _ _
          rw [ce]
          exact hx
      · show Seg _ _ _ _ _ _ _ ((do noteFrame x env; theTreesLotGoes x : Sem Unit).bind (fun _ => (.raise x : Sem Fin))) _ _
        rw [ce]
        exact hx
  · show Seg _ _ _ _ _ _ _ ((do noteFrame x env; theTreesLotGoes x : Sem Unit).bind (fun _ => (.raise x : Sem Fin))) _ _
    rw [ce]
    exact hx
end
end PySem
namespace L2
open PySem PySem.Spec PyProof.Rows
section
variable {X : Cx} {tg : Expr}
def tGFor (wi : TI) (g : TG) (tb : TGn) : TGn := fun D ys σ H => wi σ H fun J H1 => ∃ W : Nat → Nat → List V → St → Hp → Prop, (∃ m, W 0 m ys σ H1) ∧ ∀ i m ys σ H, W i m ys σ H →
  (J.stop i H ∧ D.nx ys σ H) ∨ (J.go i H ∧ ∃ N : List V → St → Hp → Prop, (∀ ys' σ' H', N ys' σ' H' → ∃ m', m' < m ∧ W (i + 1) m' ys' σ' H') ∧ ∀ x H', J.yld i H x H' → g x σ H' fun σ2 H2 => tb { D with nx := N, ct := N, bk := D.nx } ys σ2 H2)
/-- for within the body of a generator -/
theorem gs_for {iter : Expr} {body : List Stmt} {wi : TI} {g : TG} {tb : TGn} {pos : Pos} (hp : PassesOwn (model X.prog X.w) X.A X.env X.xe) (hc : X.calm = true) (hi : PI X tg iter wi) (hg : PG X tg g) (hb : GSs X body tb)
    (hs : ∀ x, foldedSetIterable iter X.env x = pure x := by intro _; rfl) : GS X (.For tg iter body [] pos) (tGFor wi g tb) := by
  refine ⟨fun A S ip R n ys s₀ c fs K Jx gd lv s σ H D gc hn k hI ht => ?_⟩
  obtain ⟨acc, cc, r, I⟩ := hI
  refine seg_For hs ?_
  rw [gc.over]
  refine wpAny_mono (hi.run _ s σ H _ I ht) (fun v s1 h1 => wpAny_mono h1 (fun itv s2 h2 p => ?_) fun x s' hx => k.exc n s₀ x s' hx) fun x s' hx => k.exc n s₀ x s' hx
  obtain ⟨it, fp, tn, J, H2, e, I2, T, st2, f2, W, ⟨m0, w0⟩, turn⟩ := h2
  subst e
  have stat : ∀ {H' : Hp} {acc' : Array Value} {c' : Nat}, (∀ b ∈ fp, H' b = none) → ∀ b ∈ fp, FpOk X ((S, lstObj acc' c') :: ip) H' b := fun {H' acc' c'} hn b hb => by
    obtain ⟨_, f1, f3, f4, f5, f6⟩ := f2 b hb
    refine ⟨hn b hb, f1, f3, f4, f5, fun q hq => ?_⟩
    rcases List.mem_append.mp hq with hq | hq
    · exact f6 q (List.mem_append_left _ hq)
    · rcases List.mem_cons.mp hq with rfl | hq
      · exact f6 (S, lstObj acc cc) (List.mem_append_right _ List.mem_cons_self)
      · exact f6 q (List.mem_append_right _ (List.mem_cons_of_mem _ hq))
  have neS : ∀ b ∈ fp, b ≠ S := fun b hb z => by
    obtain ⟨_, _, _, _, _, f6⟩ := f2 b hb
    exact f6 (S, lstObj acc cc) (List.mem_append_right _ List.mem_cons_self) z.symm
  have gl := fun (ip' : List (Addr × Obj)) (hip : ∀ p ∈ ip', p.1 ≠ S) (kk : Result → Sem PySem.Fin) => gc_loop (ip := ip') (k := kk) (c' := .forLoop tg (.ref it) body [] X.env) (l := lv []) (kp := []) (p := p) ⟨gc.pn, hip, gc.apart, gc.over, gc.split, gc.guard, gc.gd⟩ rfl rfl
  have loop : ∀ (m i n : Nat) (ys : List V) (s₀ s : Shared) (σ : St) (H : Hp), n + ys.length = sizeLine → W i m ys σ H → GI X S ip ys σ H s → tn i s.heap → (∀ b ∈ fp, H b = none) →
      Seg (model X.prog X.w) A R (GY X S) n s₀ (.forLoop tg (.ref it) body [] X.env) ((model X.prog X.w).den (.forLoop tg (.ref it) body [] X.env))
        (.ret (fun r => ((match r with | .ok f => (.pure f : Sem Flow) | .error e => .raise e).onRaise (cameBack X.env)).wrap K Jx gd lv) none (gd false) (lv []) c p [] :: fs) s := by
    intro m
    induction m using Nat.strongRecOn with
    | ind m ih =>
      intro i n ys s₀ s σ H hn w hI st fr
      have ee : ∀ (n : Nat) (s₀ : Shared) (x : Value) (s' : Shared), X.xe x s' → Seg (model X.prog X.w) A R (GY X S) n s₀ (.forLoop tg (.ref it) body [] X.env)
          ((do noteFrame x X.env; theTreesLotGoes x : Sem Unit).wrap (fun _ => .raise x) .raise id id)
          (.ret (fun r => ((match r with | .ok f => (.pure f : Sem Flow) | .error e => .raise e).onRaise (cameBack X.env)).wrap K Jx gd lv) none (gd false) (lv []) c p [] :: fs) s' := fun n s₀ x s' hx => by
        refine seg_wrap ?_
        rw [(gl ip gc.ip _).over]
        refine wpAny_bind (wpAny_mono (hp x s' hx) (fun _ s'' hcb => wpAny_theTreesLotGoes ?_) fun y s'' hcb => ?_)
        · exact seg_leaf (.error x) (seg_cameBack gc k hcb)
        · exact seg_leaf (.error y) (seg_cameBack gc k hcb)
      refine seg_forLoop ?_
      rw [(gl ip gc.ip _).over]
      obtain ⟨acc, cc, r, I⟩ := hI
      rcases turn i m ys σ H w with ⟨stop, qn⟩ | ⟨go, N, hN, step⟩
      · refine wpAny_mono (T.done X rfl rfl rfl hc i _ s σ H X.xe I (stat fr) st stop) (fun r' s4 ⟨hr, I4⟩ => ?_) fun x s' hx => ee n s₀ x s' hx
        subst hr
        exact seg_leaf (.ok .next) (k.ok n ys s₀ s4 .next hn ⟨σ, H, ⟨acc, cc, r, I4⟩, qn⟩)
      · refine wpAny_mono (T.item X rfl rfl rfl hc i _ s σ H X.xe I (stat fr) st go) (fun r' s4 ⟨u, hr, h4⟩ => ?_) fun x s' hx => ee n s₀ x s' hx
        subst hr
        refine wpAny_mono h4 (fun _ s5 ⟨x, H5, I5, r5, y5, st5, fr5⟩ => ?_) fun x s' hx => ee n s₀ x s' hx
        have I5' := I5.pinned (stat fr5) (T.obj _ _ st5)
        refine wpAny_mono (hg.run _ s5 σ H5 x u _ I5' r5 (step x H5 y5)) (fun _ s6 ⟨σ6, H6, I6, q6⟩ => ?_) fun x s' hx => ee n s₀ x s' hx
        have hip' : ∀ p ∈ ip ++ pinsAt fp s5.heap, p.1 ≠ S := fun q hq => by
          rcases List.mem_append.mp hq with hq | hq
          · exact gc.ip q hq
          · exact neS _ (of_pinsAt hq).1
        have again : ∀ {n' : Nat} {ys' : List V} {s₀' s3 : Shared} {σ3 : St} {H3 : Hp}, n' + ys'.length = sizeLine → GI X S (ip ++ pinsAt fp s5.heap) ys' σ3 H3 s3 → N ys' σ3 H3 →
            Seg (model X.prog X.w) A R (GY X S) n' s₀' (.forLoop tg (.ref it) body [] X.env) (.pure (.again (.forLoop tg (.ref it) body [] X.env)))
              (.ret (fun r => ((match r with | .ok f => (.pure f : Sem Flow) | .error e => .raise e).onRaise (cameBack X.env)).wrap K Jx gd lv) none (gd false) (lv []) c p [] :: fs) s3 := fun {n' ys' s₀' s3 σ3 H3} hn' I3 n3 => by
          obtain ⟨acc3, c3, r3, I3⟩ := I3
          obtain ⟨m', hm, w3⟩ := hN ys' σ3 H3 n3
          refine seg_again rfl (ih m' hm (i + 1) n' ys' s₀' s3 σ3 H3 hn' w3 ⟨acc3, c3, r3, I3.unpinned (pins := (S, lstObj acc3 c3) :: ip)⟩ (T.keep _ _ _ st5 fun b hb o e => (I3.pin (b, o) (List.mem_append_right _ (List.mem_cons_of_mem _ (List.mem_append_right _ (mem_pinsAt hb e))))).1) fun b hb => ?_)
          obtain ⟨o, e, d⟩ := T.obj _ _ st5 b hb
          exact (I3.pin (b, o) (List.mem_append_right _ (List.mem_cons_of_mem _ (List.mem_append_right _ (mem_pinsAt hb e))))).2.1
        have weak : ∀ {ys' : List V} {σ3 : St} {H3 : Hp} {s3 : Shared}, GI X S (ip ++ pinsAt fp s5.heap) ys' σ3 H3 s3 → GI X S ip ys' σ3 H3 s3 := fun ⟨acc3, c3, r3, I3⟩ => ⟨acc3, c3, r3, I3.unpinned (pins := (S, lstObj acc3 c3) :: ip)⟩
        refine hb.run A S (ip ++ pinsAt fp s5.heap) R n ys s₀ _ _ _ _ id id s6 σ6 H6 { D with nx := N, ct := N, bk := D.nx } (gl _ hip' _) hn ⟨fun n' ys' s₀' s3 f hn' hs => ?_, fun n' s₀' x s3 hx => ee n' s₀' x s3 hx⟩ ⟨acc, cc, r, I6⟩ q6
        cases f with
        | next =>
          obtain ⟨σ3, H3, I3, n3⟩ := hs
          exact again hn' I3 n3
        | cont =>
          obtain ⟨σ3, H3, I3, n3⟩ := hs
          exact again hn' I3 n3
        | brk =>
          obtain ⟨σ3, H3, I3, q3⟩ := hs
          exact seg_leaf (.ok .next) (k.ok n' ys' s₀' s3 .next hn' ⟨σ3, H3, weak I3, q3⟩)
        | ret v =>
          obtain ⟨x3, σ3, H3, I3, r3, q3⟩ := hs
          exact seg_leaf (.ok (.ret v)) (k.ok n' ys' s₀' s3 (.ret v) hn' ⟨x3, σ3, H3, weak I3, r3, q3⟩)
  exact loop m0 0 n ys s₀ s2 σ H2 hn w0 ⟨acc, cc, r, I2⟩ st2 fun b hb => (f2 b hb).1
/-- one lemma for loops within generators -/
theorem gloop_any {J : It} {n : Nat} {G : Hp → Prop} {Y : Nat → Hp → V → Hp → Prop} (w : Walk J n G Y) {ys0 : List V} {σ0 : St} {H0 : Hp} {Qd : List V → St → Hp → Prop} {B : List V → St → V → Hp → (List V → St → Hp → Prop) → Prop} (Pv : Nat → List V → St → Hp → Prop) (h0 : Pv 0 ys0 σ0 H0)
    (hG : ∀ i ys σ H, i ≤ n → Pv i ys σ H → G H) (hs : ∀ i x ys σ H H', i < n → Pv i ys σ H → Y i H x H' → B ys σ x H' (Pv (i + 1))) (hd : ∀ ys σ H, Pv n ys σ H → Qd ys σ H) :
    ∃ W : Nat → Nat → List V → St → Hp → Prop, (∃ m, W 0 m ys0 σ0 H0) ∧ ∀ i m ys σ H, W i m ys σ H →
      (J.stop i H ∧ Qd ys σ H) ∨ (J.go i H ∧ ∃ N : List V → St → Hp → Prop, (∀ ys' σ' H', N ys' σ' H' → ∃ m', m' < m ∧ W (i + 1) m' ys' σ' H') ∧ ∀ x H', J.yld i H x H' → B ys σ x H' N) := by
  refine ⟨fun i m ys σ H => m = n - i ∧ i ≤ n ∧ Pv i ys σ H, ⟨n, (Nat.sub_zero n).symm, Nat.zero_le _, h0⟩, ?_⟩
  rintro i m ys σ H ⟨rfl, hi, p⟩
  have q := hG i ys σ H hi p
  rcases Nat.lt_or_ge i n with hlt | hge
  · exact .inr ⟨w.goes i H hlt q, Pv (i + 1), fun ys' σ' H' p' => ⟨n - (i + 1), by omega, rfl, hlt, p'⟩, fun x H' y => hs i x ys σ H H' hlt p (w.yields i H x H' hlt q y)⟩
  · obtain rfl : i = n := by omega
    exact .inl ⟨w.stops H q, hd ys σ H p⟩
end
end L2
set_option Elab.async false
set_option linter.all false
set_option maxRecDepth 100000
/-! One lemma for the loops of all comprehensions. -/
namespace Shg
open PySem L2
theorem loop_any {J : It} {n : Nat} {G : Hp → Prop} {Y : Nat → Hp → V → Hp → Prop} (w : Walk J n G Y) {H0 : Hp} {Qd : Hp → Prop} {B : V → Hp → (Hp → Prop) → Prop} (Pv : Nat → Hp → Prop) (h0 : Pv 0 H0) (hG : ∀ i H, i ≤ n → Pv i H → G H)
    (hs : ∀ i x H H', i < n → Pv i H → Y i H x H' → B x H' (Pv (i + 1))) (hd : ∀ H, Pv n H → Qd H) :
    ∃ W : Nat → Nat → Hp → Prop, (∃ m, W 0 m H0) ∧ ∀ i m H, W i m H →
      (J.stop i H ∧ Qd H) ∨ (J.go i H ∧ ∃ Nx : Hp → Prop, (∀ H', Nx H' → ∃ m', m' < m ∧ W (i + 1) m' H') ∧ ∀ x H', J.yld i H x H' → B x H' Nx) := by
  refine ⟨fun i m H => m = n - i ∧ i ≤ n ∧ Pv i H, ⟨n, (Nat.sub_zero n).symm, Nat.zero_le _, h0⟩, ?_⟩
  rintro i m H ⟨rfl, hi, p⟩
  have q := hG i H hi p
  rcases Nat.lt_or_ge i n with hlt | hge
  · exact .inr ⟨w.goes i H hlt q, Pv (i + 1), fun H' p' => ⟨n - (i + 1), by omega, rfl, hlt, p'⟩, fun x H' y => hs i x H H' hlt p (w.yields i H x H' hlt q y)⟩
  · obtain rfl : i = n := by omega
    exact .inl ⟨w.stops H q, hd H p⟩
end Shg
set_option Elab.async false
set_option linter.all false
set_option maxRecDepth 100000
set_option maxHeartbeats 4000000
/-! Party.crossings: a generator. -/
namespace Sh1
open PySem L2 Sho NdefX Shg
abbrev qCross : Str := "Party.crossings.<locals>.<lambda>"
/-- the takers in the order of going, who lie higher first -/
def takers (rs : List Rw) : List Rw := sortV ((bot rs).reverse.map Rw.go) (bot rs).reverse
def crossed (rs : List Rw) : List (Str × Str) := (takers rs).flatMap fun x => (lifted rs x).map fun y => (x.nm, y.nm)
def PairAt (H : Hp) (v : V) (q : Str × Str) : Prop := ∃ t, v = .ref t ∧ H t = some (.tup [.str q.1, .str q.2])
theorem flat_le {α β : Type} {f : α → List β} {n : Nat} (h : ∀ x, (f x).length ≤ n) : ∀ l : List α, (l.flatMap f).length ≤ l.length * n
  | [] => by simp
  | x :: l => by
    rw [List.flatMap_cons, List.length_append, List.length_cons, Nat.succ_mul]
    have := flat_le h l
    have := h x
    omega
theorem takers_length (rs : List Rw) : (takers rs).length = rs.length := by
  unfold takers sortV
  rw [List.length_map, sortK_length, List.length_zip, List.length_map, Nat.min_self, List.length_reverse, bot_length]
theorem takers_mem {rs : List Rw} {r : Rw} (h : r ∈ takers rs) : r ∈ rs := by
  unfold takers sortV at h
  obtain ⟨x, hx, rfl⟩ := List.mem_map.mp h
  exact bot_mem.mp (List.mem_reverse.mp (List.of_mem_zip (sortK_mem.mp hx)).2)
theorem sort_paired {H : Hp} {ws : List V} {rs : List Rw} (f : Rw → Int) (h : RwsV H ws rs) : RwsV H (sortV (rs.map f) ws) (sortV (rs.map f) rs) := by
  have hl := pair_len h
  obtain ⟨e2, e1⟩ := zip_self_snd hl
  have a : sortV (rs.map f) ws = (sortV (rs.map f) (ws.zip rs)).map (·.1) := by
    rw [← sortV_map, e1]
  have b : sortV (rs.map f) rs = (sortV (rs.map f) (ws.zip rs)).map (·.2) := by
    rw [← sortV_map, e2]
  rw [a, b]
  refine paired_of fun q hq => ?_
  unfold sortV at hq
  obtain ⟨x, hx, rfl⟩ := List.mem_map.mp hq
  have := sortK_mem.mp hx
  exact zip_paired h _ (List.of_mem_zip this).2
theorem PairAt.ext {H H' : Hp} (e : LamX.ExtN H H') {v : V} {q : Str × Str} (h : PairAt H v q) : PairAt H' v q := by
  obtain ⟨t, rfl, ht⟩ := h
  exact ⟨t, rfl, e _ _ ht fun _ z => nomatch z⟩
section
variable {P : Program} {w : World} {K : PySem.W.Frag} {mg : Str → Option Value} {base : Heap}
def spCross (C : Addr) (T : List (Addr × Str)) : SpG := fun vs H cont _ => ∃ (p : Addr) (xs : List Stay), vs = [.ref p] ∧ PartyAt C H p xs ∧ Short xs ∧ xs.length ≤ 100 ∧ LamX.Tabs T H ∧
  ∀ H' out, Grows T H H' → PySem.Paired (PairAt H') out (crossed (xs.map rw3)) → cont out H'
theorem scCross : GScope ["self", "from_top", "taker", "stay"] ["self"] (defScope sPCross) := ⟨rfl, rfl, rfl, by decide +kernel, rfl, by decide +kernel, by decide +kernel⟩
theorem ok_cross {f c TP C fB fL : Addr} {fd fdB fdL : FuncData} {T : List (Addr × Str)} (F : Shg.FunL K "crossings" "Party.crossings" sPCross f c fd) (B : Shg.Blt mg) (PC : PartyC K mg C) (TB : LamX.TabB base mg c TP) (hm : (TP, qCross) ∈ T) (hu : ∀ p ∈ T, p.1 = TP → p.2 = qCross)
    (GB : FnOk P w K mg base CX0 5 fB fdB ["stays"] (spBottom K T)) (mB : mg "bottom_up" = some (.ref fB)) (kB : PySem.W.keepIn K (.ref fB) = true) (bB : Binds K fdB ["stays"] [])
    (GL : FnOk P w K mg base CX0 6 fL fdL ["stays", "taker"] (spLifted K T)) (mL : mg "lifted_from" = some (.ref fL)) (kL : PySem.W.keepIn K (.ref fL) = true) (bL : Binds K fdL ["stays", "taker"] []) :
    GFn P w K mg base 8 f fd ["self"] (spCross C T) := by
  obtain ⟨oc, od, kV, doc, pm, an, ct, osl, rfl, lk, hcd⟩ := F.ex
  refine gfn_of lk hcd scCross (fun vs H Q E h => ?_) fun A outer s H vs Q E pn hr h => ?_
  · obtain ⟨p, xs, rfl, _⟩ := h
    rfl
  · obtain ⟨p, xs, rfl, PA, hsh, hlen, hT, k⟩ := h
    have nd := scCross.nd
    refine ⟨_, gss_cons (gs_ps (ps_set (i := 1) nd rfl (Or.inl rfl) (pe_revL (pe_call GB (hr.mono (by decide)) rfl mB kB bB .nil pass0 (pa_cons (pe_fld (pv 0) rfl) pa_nil)))))
      (gss_cons (gs_for owns_gcx rfl (pi_list (pe_callBK (cr_sortedLam (k := 1) (hr.mono (by decide))) (by rfl) B.sorted (by decide +kernel) (pa_cons (pv 1) pa_nil) (pk_cons (pe_lam TB rfl hm hu (Shg.free_by (os := (defScope sPCross).names) (by decide +kernel))) pk_nil))) (pg_name (i := 2) nd rfl (Or.inl rfl))
        (gss_cons (gs_for owns_gcx rfl (pi_list (pe_call GL (hr.mono (by decide)) rfl mL kL bL .nil pass0 (pa_cons (pe_fld (pv 0) rfl) (pa_cons (pv 2) pa_nil)))) (pg_name (i := 3) nd rfl (Or.inl rfl))
          (gss_cons (gs_yield (pe_tup (pa_cons (pe_ix ix_tup (pv 2) pe_int (fun _ _ => rfl)) (pa_cons (pe_ix ix_tup (pv 3) pe_int (fun _ _ => rfl)) pa_nil)))) gss_nil)) gss_nil)) gss_nil), ?_⟩
    obtain ⟨dx, a, ws, h1, h2, h3⟩ := id PA
    generalize hrs : xs.map rw3 = rs at k
    have hw : RwsV H ws rs := by rw [← hrs]; exact rws_of h3
    have lrs : rs.length ≤ 100 := by rw [← hrs, List.length_map]; exact hlen
    have hok : ∀ r ∈ rs, OkRw r := fun r hr => by
      rw [← hrs] at hr
      obtain ⟨x, hx, rfl⟩ := List.mem_map.mp hr
      exact (hsh x hx).2
    refine ⟨_, rfl, p, C, dx, _, .ref a, rfl, h1, PC.cl, PC.nS, lk_stays _, a, ws, rs.map Rw.come, rfl, .inr (SqT.of h2), ?_, ?_, hT, fun pb H1 G1 e1 => ⟨pb, _, rfl, SqL.of e1, fun pt hpt => ?_⟩⟩
    · rw [List.length_map, pair_len hw]
    · intro i y n hy hn
      obtain ⟨r, hr', t, rfl, ht⟩ := pair_get hw hy
      rw [List.getElem?_map, hr'] at hn
      exact ⟨t, _, rfl, ht, congrArg (Option.map V.int) hn⟩
    · have hb1 : RwsV H1 (sortV (rs.map Rw.come) ws).reverse (bot rs).reverse := paired_rev (bot_paired (hw.ext G1.ext))
      have s2 : Same H1 (upd H1 pt (.lst (sortV (rs.map Rw.come) ws).reverse)) := same_upd hpt
      have e2 : (upd H1 pt (.lst (sortV (rs.map Rw.come) ws).reverse)) pt = some (.lst (sortV (rs.map Rw.come) ws).reverse) := upd_same
      have G2 := G1.trans (Sh1.Grows.of s2)
      have hb2 : RwsV (upd H1 pt (.lst (sortV (rs.map Rw.come) ws).reverse)) (sortV (rs.map Rw.come) ws).reverse (bot rs).reverse := pair_mono (fun _ _ k => RwAt.same s2 k) hb1
      generalize (sortV (rs.map Rw.come) ws).reverse = ts at s2 e2 G2 hb2 ⊢
      generalize upd H1 pt (.lst ts) = H2 at s2 e2 G2 hb2 ⊢
      refine ⟨_, rfl, G2.tab hT, fun f0 c0 H3 G3 n0 l0 => ⟨pt, f0, _, ts, (bot rs).reverse.map Rw.go, rfl, rfl, .inl (SqL.of (G3.ext _ _ e2 fun _ z => nomatch z)), l0, ?_, fun A' outer' s' i v n u hr' e0 hv hn ru => ?_, fun ps hps => ?_⟩⟩
      · rw [List.length_map, pair_len hb2]
      · obtain ⟨r, hr1, t, rfl, ht⟩ := pair_get hb2 hv
        rw [List.getElem?_map, hr1] at hn
        exact key_item (j := 2) l0 (nscope_by (sc := Shg.scL [("stay", .local)]) (by decide +kernel)) rfl (fun _ _ _ => rfl) (fun A outer s => pe_ix ix_tup (pv 0) pe_int (fun _ _ => rfl)) hr' e0 ⟨t, _, rfl, G3.ext _ _ ht (fun _ z => nomatch z), congrArg (Option.map V.int) hn⟩ ru
      · have hb4 : RwsV (upd H3 ps (.lst (sortV ((bot rs).reverse.map Rw.go) ts))) (sortV ((bot rs).reverse.map Rw.go) ts) (takers rs) := pair_mono (fun _ _ k => RwAt.same (same_upd hps) k) (sort_paired Rw.go (hb2.ext G3.ext))
        have e4 : (upd H3 ps (.lst (sortV ((bot rs).reverse.map Rw.go) ts))) ps = some (.lst (sortV ((bot rs).reverse.map Rw.go) ts)) := upd_same
        have G4 := (G2.trans G3).trans (Grows.upd hps (o := .lst (sortV ((bot rs).reverse.map Rw.go) ts)))
        generalize sortV ((bot rs).reverse.map Rw.go) ts = zs at hb4 e4 G4 ⊢
        generalize upd H3 ps (.lst zs) = H4 at hb4 e4 G4 ⊢
        have lz : zs.length = rs.length := by rw [pair_len hb4, takers_length]
        have big : 20000 < sizeLine := by decide
        have hle : ∀ l : List Rw, l.length ≤ 100 → (l.flatMap fun x => (lifted rs x).map fun y => (x.nm, y.nm)).length ≤ 10000 := fun l hl => by
          have := flat_le (f := fun x : Rw => (lifted rs x).map fun y => (x.nm, y.nm)) (n := 100) (fun x => by rw [List.length_map]; exact Nat.le_trans (lifted_len rs x) lrs) l
          have := Nat.mul_le_mul_right 100 hl
          omega
        refine ⟨ps, rfl, ⟨_, SqL.of e4⟩, gloop_any (walk_list (K := K) (a := ps) (xs := zs)) (fun i ys σ H' => Grows T H4 H' ∧ (∃ o2 o3, σ = [some (.ref p), some (.ref pt), o2, o3]) ∧ PySem.Paired (PairAt H') ys (((takers rs).take i).flatMap fun x => (lifted rs x).map fun y => (x.nm, y.nm)))
          ⟨Grows.rfl' _, ⟨none, none, rfl⟩, .nil⟩ (fun i ys σ H' _ q => SqL.of (q.1.ext _ _ e4 fun _ z => nomatch z)) (fun i v ys σ H5 H6 hi s5 yy => ?_) fun ys σ H5 s5 => ?_⟩
        · obtain ⟨G5, ⟨o2, o3, rfl⟩, q5⟩ := s5
          obtain ⟨rfl, e5⟩ := yy
          obtain ⟨x, hx, t, rfl, ht⟩ := pair_get hb4 e5
          have G05 := G4.trans G5
          have ht6 := G5.ext _ _ ht fun _ z => nomatch z
          have hxr : x ∈ rs := takers_mem (List.mem_of_getElem? hx)
          have ex : (takers rs).take (i + 1) = (takers rs).take i ++ [x] := by
            rw [List.take_succ, hx]
            rfl
          refine ⟨_, rfl, p, C, dx, _, .ref a, rfl, G05.ext _ _ h1 (fun _ z => nomatch z), PC.cl, PC.nS, lk_stays _, _, rfl, a, .ref t, ws, rs, x, rfl, .inr (SqT.of (G05.ext _ _ h2 fun _ z => nomatch z)), hw.ext G05.ext, ⟨t, rfl, ht6⟩, hxr, hok, Nat.le_trans lrs (by decide), G05.tab hT, fun pl H7 us G7 e7 r7 => ?_⟩
          have lu := pair_len r7
          refine ⟨pl, rfl, ⟨_, SqL.of e7⟩, gloop_any (walk_list (K := K) (a := pl) (xs := us)) (fun j ys' σ' H' => Grows T H7 H' ∧ (∃ o3, σ' = [some (.ref p), some (.ref pt), some (.ref t), o3]) ∧ PySem.Paired (PairAt H') ys' ((((takers rs).take i).flatMap fun x => (lifted rs x).map fun y => (x.nm, y.nm)) ++ ((lifted rs x).take j).map fun y => (x.nm, y.nm)))
            ⟨Grows.rfl' _, ⟨o3, rfl⟩, by rw [List.take_zero, List.map_nil, List.append_nil]; exact pair_mono (fun _ _ k => PairAt.ext G7.ext k) q5⟩ (fun j ys' σ' H' _ q => SqL.of (q.1.ext _ _ e7 fun _ z => nomatch z)) (fun j v' ys' σ' H8 H9 hj s8 yy => ?_) fun ys' σ' H8 s8 => ?_⟩
          · obtain ⟨G8, ⟨o3', rfl⟩, q8⟩ := s8
            obtain ⟨rfl, e8⟩ := yy
            obtain ⟨y, hy, t', rfl, ht'⟩ := pair_get r7 e8
            have ht9 := (G7.trans G8).ext _ _ ht6 fun _ z => nomatch z
            have hy9 := G8.ext _ _ ht' fun _ z => nomatch z
            refine ⟨?_, _, rfl, t, _, 0, .str x.nm, rfl, rfl, SqT.of ht9, atI_nat (j := 0) rfl, _, rfl, t', _, 0, .str y.nm, rfl, rfl, SqT.of hy9, atI_nat (j := 0) rfl, by show 2 ≤ sizeLine; decide, fun q hq => ?_⟩
            · rw [pair_len q8, List.length_append, List.length_map, List.length_take]
              have a1 := hle ((takers rs).take i) (by rw [List.length_take, takers_length]; omega)
              have a2 := lifted_len rs x
              omega
            · refine ⟨G8.trans (Grows.upd hq), ⟨_, rfl⟩, ?_⟩
              have et : ((lifted rs x).take (j + 1)).map (fun y => (x.nm, y.nm)) = ((lifted rs x).take j).map (fun y => (x.nm, y.nm)) ++ [(x.nm, y.nm)] := by
                rw [List.take_succ, hy]
                simp
              rw [et, ← List.append_assoc]
              exact pair_app (pair_mono (fun _ _ k => PairAt.ext (Grows.upd (T := T) hq).ext k) q8) (.cons ⟨q, rfl, upd_same⟩ .nil)
          · obtain ⟨G8, ⟨o3', rfl⟩, q8⟩ := s8
            refine ⟨G5.trans (G7.trans G8), ⟨_, _, rfl⟩, ?_⟩
            rw [ex, List.flatMap_append, List.flatMap_cons, List.flatMap_nil, List.append_nil]
            rw [lu, List.take_length] at q8
            exact q8
        · obtain ⟨G5, ⟨o2, o3, rfl⟩, q5⟩ := s5
          rw [lz, ← takers_length rs, List.take_length] at q5
          exact k _ _ (G4.trans G5) q5
end
end Sh1
set_option Elab.async false
set_option linter.all false
set_option maxRecDepth 100000
set_option maxHeartbeats 2000000
namespace Sh1
open PySem L2 Sho NdefX
/-! ### stays compared -/
def stayD (x : Stay) : PyData := .tuple [.str x.1, .int x.2.1, .int x.2.2]
theorem dp_stays {K : PySem.W.Frag} {H : Hp} : ∀ {ws : List V} {xs : List Stay}, StaysV H ws xs → DpAll K H ws (xs.map stayD)
  | _, _, .nil => .nil
  | _, _, .cons ⟨t, e, ht⟩ r => by
    subst e
    exact .cons (.tup (SqT.of ht) (.cons (.str _) (.cons (.int _) (.cons (.int _) .nil)))) (dp_stays r)
theorem lay_stays : ∀ {xs : List Stay}, Short xs → PyData.canLayAll0 (xs.map stayD) = true
  | [], _ => rfl
  | x :: xs, h => by
    have h1 := (h x List.mem_cons_self).2
    have h2 := lay_stays (xs := xs) fun y hy => h y (List.mem_cons_of_mem _ hy)
    show (PyData.canLay0 (stayD x) && PyData.canLayAll0 (xs.map stayD)) = true
    rw [h2, Bool.and_true]
    show (PyData.canLay0 (.str x.1) && (true && (true && true))) = true
    simp only [Bool.and_true]
    exact h1
theorem depth_stays : ∀ xs : List Stay, PyData.depthAll (xs.map stayD) ≤ 1
  | [] => Nat.zero_le _
  | x :: xs => by
    have h := depth_stays xs
    show max (PyData.depth (stayD x)) (PyData.depthAll (xs.map stayD)) ≤ 1
    have e : PyData.depth (stayD x) = 1 := rfl
    rw [e]
    omega
theorem shaped_tup {xs : List Stay} (h : Short xs) : SeqAt.shaped (.tuple (xs.map stayD)) = true := by
  unfold SeqAt.shaped
  have h1 : PyData.canLay0 (.tuple (xs.map stayD)) = true := lay_stays h
  have h2 : PyData.depth (.tuple (xs.map stayD)) ≤ 64 := Nat.le_trans (Nat.succ_le_succ (depth_stays xs)) (by decide)
  rw [h1, decide_eq_true h2]
  rfl
theorem shaped_lst {xs : List Stay} (h : Short xs) : SeqAt.shaped (.list (xs.map stayD)) = true := by
  unfold SeqAt.shaped
  have h1 : PyData.canLay0 (.list (xs.map stayD)) = true := lay_stays h
  have h2 : PyData.depth (.list (xs.map stayD)) ≤ 64 := Nat.le_trans (Nat.succ_le_succ (depth_stays xs)) (by decide)
  rw [h1, decide_eq_true h2]
  rfl
theorem shaped_stay {x : Stay} (h : x.1.cps.all (· < 0x110000) = true) : SeqAt.shaped (stayD x) = true := by
  unfold SeqAt.shaped
  have h1 : PyData.canLay0 (stayD x) = true := by
    show (PyData.canLay0 (.str x.1) && (true && (true && true))) = true
    simp only [Bool.and_true]
    exact h
  rw [h1]
  rfl
theorem eqv_stay (x y : Stay) : PyData.eqv (stayD x) (stayD y) = decide (x = y) := by
  obtain ⟨x1, x2, x3⟩ := x
  obtain ⟨y1, y2, y3⟩ := y
  show ((x1 == y1) && ((x2 == y2) && ((x3 == y3) && true))) = _
  rw [Bool.eq_iff_iff]
  simp
theorem eqv_stays : ∀ xs ys : List Stay, PyData.eqvAll (xs.map stayD) (ys.map stayD) = decide (xs = ys)
  | [], [] => rfl
  | [], y :: ys => by
    rw [decide_eq_false (by simp)]
    rfl
  | x :: xs, [] => by
    rw [decide_eq_false (by simp)]
    rfl
  | x :: xs, y :: ys => by
    show (PyData.eqv (stayD x) (stayD y) && PyData.eqvAll (xs.map stayD) (ys.map stayD)) = _
    rw [eqv_stay, eqv_stays xs ys, Bool.eq_iff_iff]
    simp
section
variable {P : Program} {w : World} {K : PySem.W.Frag} {mg : Str → Option Value} {base : Heap}
/-! ### __eq__ -/
def spPEq (C : Addr) : Sp := fun vs H Q _ => ∃ (p : Addr) (xs : List Stay) (y : V), vs = [.ref p, y] ∧ PartyAt C H p xs ∧ Short xs ∧
  ((∃ q ys, y = .ref q ∧ PartyAt C H q ys ∧ Short ys ∧ Q (.bl (decide (xs = ys))) H) ∨ ∃ b zs, y = .ref b ∧ H b = some (.tup zs) ∧ Q (.bl false) H)
theorem scPEq : FnScope ["self", "other"] ["self", "other"] (defScope sPEq) := ⟨rfl, rfl, rfl, by decide +kernel, rfl, by decide +kernel, by decide +kernel⟩
theorem ok_peq {f C : Addr} {fd : FuncData} (F : Fun K "__eq__" "Party.__eq__" sPEq f fd) (B : Blt mg) (PC : PartyC K mg C) : FnOk P w K mg base CX0 1 f fd ["self", "other"] (spPEq C) := by
  refine F.ok scPEq (fun vs H Q E h => ?_) (fun cdv A outer s H vs Q E hr h => ?_)
  · obtain ⟨p, xs, y, rfl, _⟩ := h
    rfl
  · obtain ⟨p, xs, y, rfl, ⟨dx, a, ws, h1, h2, h3⟩, hsx, k⟩ := h
    refine ⟨_, pss_one (ps_ret (pe_and (pe_callB call_isi (by rfl) B.isi (by decide +kernel) (pa_cons (pv 1) (pa_cons (pe_glob (v := .ref C) rfl PC.gm rfl) pa_nil)))
      (pe_one (pe_cmpR (op_eqD hr.units) (pe_fld (pv 0) rfl) (pe_fld (pv 1) rfl) (nomark _))))), ?_⟩
    rcases k with ⟨q, ys, rfl, ⟨dy, b, zs, g1, g2, g3⟩, hsy, k⟩ | ⟨b, zs, rfl, hb, k⟩
    · refine ⟨_, rfl, .ref q, .ref C, .ref C, .ref C, true, rfl, .own C, .base (.ins g1 PC.cl PC.ca PC.cn PC.ct PC.mo), PC.kS, _, rfl, iteT ?_⟩
      refine ⟨_, rfl, p, C, dx, _, .ref a, rfl, h1, PC.cl, PC.nS, lk_stays _, _, rfl, q, C, dy, _, .ref b, rfl, g1, PC.cl, PC.nS, lk_stays _, ?_⟩
      refine ⟨.tuple (xs.map stayD), .tuple (ys.map stayD), .tup (SqT.of h2) (dp_stays h3), .tup (SqT.of g2) (dp_stays g3), shaped_tup hsx, shaped_tup hsy, ?_⟩
      have e : PyData.eqv (.tuple (xs.map stayD)) (.tuple (ys.map stayD)) = decide (xs = ys) := eqv_stays xs ys
      rw [e]
      exact k
    · refine ⟨_, rfl, .ref b, .ref C, .type "tuple", .ref C, false, rfl, .own C, .base (.tup hb), PC.kT, _, rfl, iteF k⟩
end
end Sh1
set_option Elab.async false
set_option linter.all false
set_option maxRecDepth 100000
set_option maxHeartbeats 2000000
namespace Sh1
open PySem L2 Sho NdefX
/-! ### valid lists of stays -/
structure Valid (xs : List Stay) : Prop where
  len : xs.length ≤ 24
  nd : (xs.map fun x => x.1).Nodup
  ok : ∀ x ∈ xs, okStay x.1 x.2.1 x.2.2 = true
theorem any_mem {l : List Str} {z : Str} : l.any (fun y => y == z) = true ↔ z ∈ l := by
  rw [List.any_eq_true]
  constructor
  · rintro ⟨y, hy, e⟩
    have := eq_of_beq e
    rw [← this]
    exact hy
  · intro h
    exact ⟨z, h, by simp⟩
theorem fbf_none : ∀ (xs : List Stay) (i : Nat) (seen : List Str), i ≤ 24 → firstBadFrom i seen xs = none →
    i + xs.length ≤ 24 ∧ (∀ x ∈ xs, x.1 ∉ seen) ∧ (xs.map fun x => x.1).Nodup ∧ ∀ x ∈ xs, okStay x.1 x.2.1 x.2.2 = true
  | [], i, seen, hi, _ => ⟨hi, by simp, by simp, by simp⟩
  | x :: r, i, seen, hi, h => by
    unfold firstBadFrom at h
    by_cases hb : badStay i seen x = true
    · rw [if_pos hb] at h
      cases h
    · rw [if_neg hb] at h
      have hb2 := Bool.eq_false_iff.mpr hb
      unfold badStay at hb2
      rw [Bool.or_eq_false_iff, Bool.or_eq_false_iff] at hb2
      obtain ⟨b1, b2, b3⟩ := hb2
      have n24 : (i : Int) ≠ 24 := of_decide_eq_false b1
      have ns : x.1 ∉ seen := fun m => by
        rw [any_mem.mpr m] at b2
        cases b2
      have ok1 : okStay x.1 x.2.1 x.2.2 = true := by
        cases e : okStay x.1 x.2.1 x.2.2 with
        | true => rfl
        | false => rw [e] at b3; cases b3
      obtain ⟨c1, c2, c3, c4⟩ := fbf_none r (i + 1) (seen ++ [x.1]) (by omega) h
      refine ⟨by rw [List.length_cons]; omega, fun y hy => ?_, ?_, fun y hy => ?_⟩
      · rcases List.mem_cons.mp hy with rfl | hy
        · exact ns
        · exact fun m => c2 y hy (List.mem_append_left _ m)
      · rw [List.map_cons, List.nodup_cons]
        refine ⟨fun m => ?_, c3⟩
        obtain ⟨y, hy, e⟩ := List.mem_map.mp m
        exact c2 y hy (by rw [e]; simp)
      · rcases List.mem_cons.mp hy with rfl | hy
        · exact ok1
        · exact c4 y hy
theorem fbf_of : ∀ (xs : List Stay) (i : Nat) (seen : List Str), i + xs.length ≤ 24 → (∀ x ∈ xs, x.1 ∉ seen) → (xs.map fun x => x.1).Nodup → (∀ x ∈ xs, okStay x.1 x.2.1 x.2.2 = true) → firstBadFrom i seen xs = none
  | [], _, _, _, _, _, _ => rfl
  | x :: r, i, seen, h1, h2, h3, h4 => by
    rw [List.length_cons] at h1
    have hb : badStay i seen x = false := by
      unfold badStay
      rw [h4 x List.mem_cons_self, decide_eq_false (by omega)]
      have e : seen.any (fun y => y == x.1) = false := by
        rw [Bool.eq_false_iff]
        exact fun q => h2 x List.mem_cons_self (any_mem.mp q)
      rw [e]
      rfl
    unfold firstBadFrom
    rw [if_neg (by rw [hb]; exact Bool.false_ne_true)]
    rw [List.map_cons, List.nodup_cons] at h3
    refine fbf_of r (i + 1) _ (by omega) (fun y hy m => ?_) h3.2 fun y hy => h4 y (List.mem_cons_of_mem _ hy)
    rcases List.mem_append.mp m with m | m
    · exact h2 y (List.mem_cons_of_mem _ hy) m
    · rw [List.mem_singleton] at m
      exact h3.1 (List.mem_map.mpr ⟨y, hy, m⟩)
theorem valid_iff {xs : List Stay} : firstBad xs = none ↔ Valid xs := by
  constructor
  · intro h
    obtain ⟨a, _, b, c⟩ := fbf_none xs 0 [] (by decide) h
    exact ⟨by omega, b, c⟩
  · intro h
    exact fbf_of xs 0 [] (by have := h.len; omega) (by simp) h.nd h.ok
theorem Valid.filter {xs : List Stay} (h : Valid xs) (p : Stay → Bool) : Valid (xs.filter p) :=
  ⟨Nat.le_trans (List.length_filter_le ..) h.len, (List.Nodup.sublist (List.Sublist.map _ List.filter_sublist) h.nd), fun x hx => h.ok x (List.mem_filter.mp hx).1⟩
theorem Short.filter {xs : List Stay} (h : Short xs) (p : Stay → Bool) : Short (xs.filter p) := fun x hx => h x (List.mem_filter.mp hx).1
/-- what is kept of paired lists -/
theorem stays_filter {H : Hp} (p : Stay → Bool) : ∀ {ws : List V} {xs : List Stay}, StaysV H ws xs → StaysV H ((ws.zip xs).filterMap fun q => if p q.2 = true then some q.1 else none) (xs.filter p)
  | _, _, .nil => .nil
  | _, _, .cons (a := v) (b := x) h r => by
    have ih := stays_filter p r
    rw [List.zip_cons_cons, List.filterMap_cons, List.filter_cons]
    by_cases e : p x = true
    · simp only [e, if_true]
      exact .cons h ih
    · simp only [e, if_false]
      exact ih
section
variable {P : Program} {w : World} {K : PySem.W.Frag} {mg : Str → Option Value} {base : Heap}
/-! ### __sub__ -/
def without (xs : List Stay) (x : Stay) : List Stay := xs.filter fun y => !decide (y = x)
def spPSub (C CU : Addr) : Sp := fun vs H Q E => ∃ (p : Addr) (z : Str) (xs : List Stay), vs = [.ref p, .str z] ∧ PartyAt C H p xs ∧ Short xs ∧ Valid xs ∧ z.length ≤ 100000 ∧
  (∀ x, guest xs z = some x → ∀ q H', Same H H' → H q = none → PartyAt C H' q (without xs x) → Q (.ref q) H') ∧
  (guest xs z = none → ∀ (H' : Hp) (d : Addr), Same H H' → H d = none → H' d = some (.xd [(("name" : Str), .str z)]) → E (.ref CU) (some d) H')
theorem scPSub : FnScope ["self", "name", "gone", "stays", "stay"] ["self", "name"] (defScope sPSub) := ⟨rfl, rfl, rfl, by decide +kernel, rfl, by decide +kernel, by decide +kernel⟩
theorem ok_psub {f C CI CU fS fI : Addr} {fd fdS : FuncData} (F : Fun K "__sub__" "Party.__sub__" sPSub f fd) (PC : PartyC K mg C)
    (GS : FnOk P w K mg base (L2.CX P w) 3 fS fdS ["self", "name"] (spStayOf C CU)) (mS : Meth K C "_stay_of" fS) (bS : Binds K fdS ["self", "name"] [])
    (M : Mk K C fI) (GI : FnR P w K mg base (L2.CX P w) 5 fI (spPNew C CI)) : FnOk P w K mg base (L2.CX P w) 7 f fd ["self", "name"] (spPSub C CU) := by
  refine F.okX scPSub (fun vs H Q E h => ?_) (fun cdv A outer s H vs Q E hr h => ?_)
  · obtain ⟨p, z, xs, rfl, _⟩ := h
    rfl
  · obtain ⟨p, z, xs, rfl, PA, hsh, hv, hz, kOk, kBad⟩ := h
    have nd := scPSub.nd
    have pass : Passes (L2.CX P w) (cxOf (L2.CX P w) P w K mg base ["self", "name", "gone", "stays", "stay"] "Party.__sub__" (defScope sPSub) f cdv A outer s H E) E := passes_call (takes_of rfl rfl rfl rfl) fun _ _ _ _ z => z
    refine ⟨_, pss_cons (ps_set (i := 2) nd rfl (Or.inr rfl) (pe_meth (pv 0) PC.cl mS GS (hr.mono (by decide)) bS .nil pass (pa_cons (pv 1) pa_nil)))
      (pss_cons (ps_setLc (i := 3) (own := [("stay", 4)]) (g := gName 4) (tt := tTest (tOp (rNeD K) (tVar 4) (tVar 2))) rfl nd rfl rfl (sw_true rfl rfl rfl (by decide +kernel)) (pi_tup (pe_fld (pv 0) rfl)) (blkOk_by (own := [("stay", 4)]) (N := ["self", "name", "gone", "stays", "stay"]) (sc := defScope sPSub) (by decide +kernel))
        (fun _ _ _ _ _ => pg_name (i := 4) nd rfl (Or.inl rfl)) (fun _ _ _ _ _ => pts_one (pt_cmpR (op_neD hr.units) (pv 4) (pv 2) (nomark _))) (fun _ _ _ _ _ => pv 4))
      (pss_one (ps_ret (pe_makeS M GI hr rfl PC.gm pass (pv 3))))), ?_⟩
    obtain ⟨dx, a, ws, h1, h2, h3⟩ := id PA
    refine ⟨_, rfl, p, dx, _, rfl, h1, no_meth _ (by decide +kernel), _, rfl, p, z, xs, rfl, PA, hz, fun x t hx ht => ?_, kBad⟩
    refine ⟨_, rfl, p, C, dx, _, .ref a, rfl, h1, PC.cl, PC.nS, lk_stays _, a, rfl, ⟨_, SqT.of h2⟩, fun D hD => ?_⟩
    have lenE := pair_len h3
    have hz24 : ws.length ≤ sizeLine := by
      rw [lenE]
      exact Nat.le_trans hv.len (by decide)
    have hxs : x.1.cps.all (· < 0x110000) = true := (hsh x (List.mem_of_find?_eq_some hx)).2
    have dpx : ∀ {t : Addr} {y : Stay} {H1 : Hp}, H1 t = some (.tup [.str y.1, .int y.2.1, .int y.2.2]) → Dp K H1 (.ref t) (stayD y) := fun {t y H1} e => .tup (SqT.of e) (.cons (.str _) (.cons (.int _) (.cons (.int _) .nil)))
    refine lc_gather walk_tup (fun i => ((ws.zip xs)[i]?).bind fun q => if (!decide (q.2 = x)) = true then some q.1 else none) hD hz24 (fun H1 s1 => SqT.of (s1 _ _ h2)) (fun i v H1 H' hi s1 y R k1 => ?_) fun H1 s1 e1 => ?_
    · obtain ⟨rfl, e2⟩ := y
      obtain ⟨y, hy, t', rfl, ht'⟩ := pair_get h3 e2
      have k2 := k1 _ (Same.refl _)
      have ez : (ws.zip xs)[i]? = some (.ref t', y) := by
        rw [List.getElem?_zip_eq_some]
        exact ⟨e2, hy⟩
      rw [ez] at k2
      refine ⟨rfl, _, rfl, _, rfl, stayD y, stayD x, dpx (s1 _ _ ht'), dpx (s1 _ _ ht), shaped_stay (hsh y (List.mem_of_getElem? hy)).2, shaped_stay hxs, _, rfl, ?_⟩
      rw [eqv_stay]
      by_cases e : y = x
      · have : decide (y = x) = true := decide_eq_true e
        rw [this]
        refine iteF ?_
        simp only [Option.bind_some, this] at k2
        exact k2
      · have : decide (y = x) = false := decide_eq_false e
        rw [this]
        refine iteT ⟨_, rfl, ?_⟩
        simp only [Option.bind_some, this] at k2
        exact k2
    · have e2 : (ws.zip xs).length = ws.length := by
        rw [List.length_zip, lenE]
        exact Nat.min_self _
      rw [← e2, gather_list] at e1
      have sv := stays_filter (fun y => !decide (y = x)) (h3.same s1)
      refine ⟨_, rfl, D, _, rfl, .inr (SqL.of e1), ?_⟩
      refine party_new sv (hsh.filter _) ?_ (fun _ q H' s' hq PQ => ?_) (fun i hi => ?_)
      · rw [pair_len sv]
        exact Nat.le_trans (hv.filter _).len (by decide)
      · exact kOk x hx q H' (s1.trans s') (s1.free hq) PQ
      · rw [valid_iff.mpr (hv.filter _)] at hi
        cases hi
end
end Sh1
set_option Elab.async false
set_option linter.all false
set_option maxRecDepth 100000
set_option maxHeartbeats 2000000
namespace Sh1
open PySem L2 Sho NdefX
theorem cat_one {K : PySem.W.Frag} {H : Hp} {a b : Addr} {xs ys : List V} {Q : VK} (ha : SqT K H a xs) (hb : SqT K H b ys) (hz : xs.length + ys.length ≤ sizeLine) (h : ∀ c H', Same H H' → SqT K H' c (xs ++ ys) → Q (.ref c) H') : rCatA K (.ref a) (.ref b) H Q := by
  refine ⟨a, b, xs, ys, rfl, rfl, ha, hb, hz, fun e => ?_, fun _ e => ?_, fun _ _ p hp => ?_⟩
  · exact h b H (Same.refl _) (by rw [e]; exact hb)
  · exact h a H (Same.refl _) (by rw [e, List.append_nil]; exact ha)
  · refine h p _ (fun c o e => ?_) (SqT.of upd_same)
    rw [upd_ne (ne_of_none e hp)]
    exact e
theorem paired_append {α β : Type} {R : α → β → Prop} : ∀ {a c : List α} {b d : List β}, PySem.Paired R a b → PySem.Paired R c d → PySem.Paired R (a ++ c) (b ++ d)
  | _, _, _, _, .nil, h => h
  | _, _, _, _, .cons x r, h => .cons x (paired_append r h)
theorem Short.append {xs ys : List Stay} (h : Short xs) (k : Short ys) : Short (xs ++ ys) := fun x hx => (List.mem_append.mp hx).elim (h x) (k x)
/-- stays moved -/
def moved (n : Int) (xs : List Stay) : List Stay := xs.map fun x => (x.1, x.2.1 + n, x.2.2 + n)
theorem Short.moved {xs : List Stay} (h : Short xs) (n : Int) : Short (moved n xs) := fun x hx => by
  obtain ⟨y, hy, e⟩ := List.mem_map.mp hx
  subst e
  exact h y hy
theorem stays_of {H : Hp} : ∀ {ys : List V} {xs : List Stay}, ys.length = xs.length → (∀ (i : Nat) (y : V), ys[i]? = some y → ∃ x, xs[i]? = some x ∧ StayV H y x) → StaysV H ys xs
  | [], [], _, _ => .nil
  | [], _ :: _, h, _ => by simp at h
  | _ :: _, [], h, _ => by simp at h
  | y :: ys, x :: xs, h, k => by
    obtain ⟨x', e, r⟩ := k 0 y rfl
    simp at e
    subst e
    exact .cons r (stays_of (by simpa using h) fun i y' e => by
      obtain ⟨x', e2, r2⟩ := k (i + 1) y' (by simpa using e)
      exact ⟨x', by simpa using e2, r2⟩)
section
variable {P : Program} {w : World} {K : PySem.W.Frag} {mg : Str → Option Value} {base : Heap}
/-- what making a Party of xs may end in -/
def Making (C CI : Addr) (H : Hp) (xs : List Stay) (Q : VK) (E : XK) : Prop :=
  (firstBad xs = none → ∀ (p : Addr) (H' : Hp), Same H H' → H p = none → PartyAt C H' p xs → Q (.ref p) H') ∧
  ∀ i, firstBad xs = some i → ∀ (H' : Hp) (d : Addr), Same H H' → H d = none → H' d = some (.xd [(("index" : Str), .int (i : Nat))]) → E (.ref CI) (some d) H'
theorem Making.after {C CI : Addr} {H H1 : Hp} {xs : List Stay} {Q : VK} {E : XK} (m : Making C CI H xs Q E) (s : Same H H1) : Making C CI H1 xs Q E :=
  ⟨fun h p H' s' hp P => m.1 h p H' (s.trans s') (s.free hp) P, fun i h H' d s' hd e => m.2 i h H' d (s.trans s') (s.free hd) e⟩
def spPAdd (C CI : Addr) : Sp := fun vs H Q E => ∃ (p q : Addr) (xs ys : List Stay), vs = [.ref p, .ref q] ∧ PartyAt C H p xs ∧ PartyAt C H q ys ∧ Short xs ∧ Short ys ∧ xs.length + ys.length ≤ 1000 ∧ Making C CI H (xs ++ ys) Q E
theorem scPAdd : FnScope ["self", "other", "stays"] ["self", "other"] (defScope sPAdd) := ⟨rfl, rfl, rfl, by decide +kernel, rfl, by decide +kernel, by decide +kernel⟩
theorem ok_padd {f C CI fI : Addr} {fd : FuncData} (F : Fun K "__add__" "Party.__add__" sPAdd f fd) (PC : PartyC K mg C) (M : Mk K C fI) (GI : FnR P w K mg base (L2.CX P w) 5 fI (spPNew C CI)) :
    FnOk P w K mg base (L2.CX P w) 7 f fd ["self", "other"] (spPAdd C CI) := by
  refine F.okX scPAdd (fun vs H Q E h => ?_) (fun cdv A outer s H vs Q E hr h => ?_)
  · obtain ⟨p, q, xs, ys, rfl, _⟩ := h
    rfl
  · obtain ⟨p, q, xs, ys, rfl, ⟨dx, a, ws, h1, h2, h3⟩, ⟨dy, b, zs, g1, g2, g3⟩, hsx, hsy, hz, k⟩ := h
    have nd := scPAdd.nd
    have pass : Passes (L2.CX P w) (cxOf (L2.CX P w) P w K mg base ["self", "other", "stays"] "Party.__add__" (defScope sPAdd) f cdv A outer s H E) E := passes_call (takes_of rfl rfl rfl rfl) fun _ _ _ _ z => z
    refine ⟨_, pss_cons (ps_set (i := 2) nd rfl (Or.inl rfl) (pe_op op_catA (pe_fld (pv 0) rfl) (pe_fld (pv 1) rfl))) (pss_one (ps_ret (pe_makeS M GI hr rfl PC.gm pass (pv 2)))), ?_⟩
    refine ⟨_, rfl, p, C, dx, _, .ref a, rfl, h1, PC.cl, PC.nS, lk_stays _, _, rfl, q, C, dy, _, .ref b, rfl, g1, PC.cl, PC.nS, lk_stays _, ?_⟩
    have l1 := pair_len h3
    have l2 := pair_len g3
    have l3 : ws.length + zs.length ≤ 1000 := by omega
    refine cat_one (SqT.of h2) (SqT.of g2) (Nat.le_trans l3 (by decide)) fun c H' s' hc => ?_
    have k' := k.after s'
    refine ⟨_, rfl, c, ws ++ zs, rfl, .inl hc, ?_⟩
    exact party_new (paired_append (h3.same s') (g3.same s')) (hsx.append hsy) (by rw [List.length_append]; exact Nat.le_trans l3 (by decide)) k'.1 k'.2
def spPShift (C CI : Addr) : Sp := fun vs H Q E => ∃ (p : Addr) (n : Int) (xs : List Stay), vs = [.ref p, .int n] ∧ PartyAt C H p xs ∧ Short xs ∧ xs.length ≤ 1000 ∧ Making C CI H (moved n xs) Q E
theorem scPShift : FnScope ["self", "ticks", "stays", "name", "come", "go"] ["self", "ticks"] (defScope sPShift) := ⟨rfl, rfl, rfl, by decide +kernel, rfl, by decide +kernel, by decide +kernel⟩
theorem ok_pshift {f C CI fI : Addr} {fd : FuncData} (F : Fun K "__rshift__" "Party.__rshift__" sPShift f fd) (PC : PartyC K mg C) (M : Mk K C fI) (GI : FnR P w K mg base (L2.CX P w) 5 fI (spPNew C CI)) :
    FnOk P w K mg base (L2.CX P w) 7 f fd ["self", "ticks"] (spPShift C CI) := by
  refine F.okX scPShift (fun vs H Q E h => ?_) (fun cdv A outer s H vs Q E hr h => ?_)
  · obtain ⟨p, n, xs, rfl, _⟩ := h
    rfl
  · obtain ⟨p, n, xs, rfl, ⟨dx, a, ws, h1, h2, h3⟩, hsx, hz, k⟩ := h
    have nd := scPShift.nd
    have pass : Passes (L2.CX P w) (cxOf (L2.CX P w) P w K mg base ["self", "ticks", "stays", "name", "come", "go"] "Party.__rshift__" (defScope sPShift) f cdv A outer s H E) E := passes_call (takes_of rfl rfl rfl rfl) fun _ _ _ _ z => z
    refine ⟨_, pss_cons (ps_setLc (i := 2) (own := [("name", 3), ("come", 4), ("go", 5)]) (g := gTup K 3 (gCons (gName 3) (gCons (gName 4) (gCons (gName 5) gNil)))) (tt := tYes) rfl nd rfl rfl (sw_true rfl rfl rfl (by decide +kernel))
        (pi_tup (pe_fld (pv 0) rfl)) (blkOk_by (own := [("name", 3), ("come", 4), ("go", 5)]) (N := ["self", "ticks", "stays", "name", "come", "go"]) (sc := defScope sPShift) (by decide +kernel))
        (fun _ _ _ _ _ => pg_tup rfl (pgs_cons (pg_name (i := 3) nd rfl (Or.inl rfl)) (pgs_cons (pg_name (i := 4) nd rfl (Or.inl rfl)) (pgs_cons (pg_name (i := 5) nd rfl (Or.inl rfl)) pgs_nil))))
        (fun _ _ _ _ _ => pts_nil) (fun _ _ _ _ _ => pe_tup (pa_cons (pv 3) (pa_cons (pe_op op_add (pv 4) (pv 1)) (pa_cons (pe_op op_add (pv 5) (pv 1)) pa_nil)))))
      (pss_one (ps_ret (pe_makeS M GI hr rfl PC.gm pass (pv 2)))), ?_⟩
    have l1 := pair_len h3
    refine ⟨_, rfl, p, C, dx, _, .ref a, rfl, h1, PC.cl, PC.nS, lk_stays _, a, rfl, ⟨_, SqT.of h2⟩, fun D hD => ?_⟩
    refine lc_rel walk_tup (fun i y H => ∃ x, (moved n xs)[i]? = some x ∧ StayV H y x) hD (by rw [l1]; exact Nat.le_trans hz (by decide)) (fun H1 s1 => SqT.of (s1 _ _ h2)) (fun i y H H' st r => ?_) (fun i v H1 H' hi s1 y R k1 => ?_) fun H1 ys s1 e1 e2 e3 => ?_
    · obtain ⟨x, e, t, e2, e3⟩ := r
      exact ⟨x, e, t, e2, st _ _ e3⟩
    · obtain ⟨rfl, e2⟩ := y
      obtain ⟨x, hx, t, rfl, ht⟩ := pair_get h3 e2
      refine ⟨t, _, rfl, SqT.of (s1 _ _ ht), rfl, _, _, rfl, _, _, rfl, _, _, rfl, rfl, rfl, _, rfl, _, rfl, _, rfl, _, _, rfl, rfl, _, rfl, _, rfl, _, _, rfl, rfl, by show 3 ≤ sizeLine; decide, fun q hq => ?_⟩
      refine k1 _ _ (fun b o e => by rw [upd_ne (ne_of_none e hq)]; exact e) ⟨(x.1, x.2.1 + n, x.2.2 + n), ?_, q, rfl, upd_same⟩
      unfold moved
      rw [List.getElem?_map, hx]
      rfl
    · have lm : (moved n xs).length = xs.length := by
        unfold moved
        rw [List.length_map]
      have sv : StaysV H1 ys (moved n xs) := stays_of (by rw [e2, lm, l1]) e3
      have k' := k.after s1
      refine ⟨_, rfl, D, ys, rfl, .inr (SqL.of e1), ?_⟩
      exact party_new sv (hsx.moved n) (by rw [e2, l1]; exact Nat.le_trans hz (by decide)) k'.1 k'.2
end
end Sh1
set_option Elab.async false
set_option linter.all false
set_option maxRecDepth 100000
set_option maxHeartbeats 2000000
namespace Sh1
open PySem L2 Sho NdefX
/-! ### draws: the state is the list at l -/
structure DrawSt (K : PySem.W.Frag) (H : Hp) (l a : Addr) (ns : List Int) : Prop where
  ex : ∃ pos seed rest : Int, H l = some (.lst [.ref a, .int pos, .int seed, .int rest]) ∧ 0 ≤ pos ∧ (0 ≤ seed ∧ seed < 2147483647) ∧ 0 ≤ rest
  sc : SqL K H a (ns.map V.int)
  len : ns.length ≤ 63
/-- all but the object at l stays -/
def But (l : Addr) (H H' : Hp) : Prop := ∀ b o, H b = some o → b ≠ l → H' b = some o
theorem But.trans {l : Addr} {H H1 H2 : Hp} (a : But l H H1) (b : But l H1 H2) : But l H H2 := fun c o e n => b c o (a c o e n) n
theorem But.of {l : Addr} {H H' : Hp} (s : Same H H') : But l H H' := fun b o e _ => s b o e
theorem sql_but {K : PySem.W.Frag} {H H' : Hp} {l a : Addr} {ns : List Int} {r : List V} (hl : H l = some (.lst (.ref a :: r))) (h : SqL K H a (ns.map V.int)) (s : But l H H') : SqL K H' a (ns.map V.int) := by
  have ne : ∀ u, H a = some u → (∀ ys, u = .lst (V.ref a :: ys) → False) → a ≠ l := fun u e k z => by
    rw [z, hl] at e
    exact k r (by rw [← Option.some.inj e, z])
  rcases h with (h | ⟨o, h⟩) | h
  · refine .inl (.inl (s _ _ h (ne _ h fun ys e => ?_)))
    injection e with e
    cases ns with
    | nil => cases e
    | cons n ns => cases e
  · exact .inl (.inr ⟨o, s _ _ h (ne _ h fun ys e => by cases e)⟩)
  · exact .inr h
section
variable {P : Program} {w : World} {K : PySem.W.Frag} {mg : Str → Option Value} {base : Heap}
def spStart (K : PySem.W.Frag) : Sp := fun vs H Q _ => ∃ (a : Addr) (ns : List Int), vs = [.ref a] ∧ SqL K H a (ns.map V.int) ∧ ns.length ≤ 63 ∧ ∀ H' l, Same H H' → H l = none → DrawSt K H' l a ns → Q (.ref l) H'
theorem scStart : FnScope ["_law_script", nMix, "_law_cell"] ["_law_script"] (defScope sStart) := ⟨rfl, rfl, rfl, by decide +kernel, rfl, by decide +kernel, by decide +kernel⟩
theorem ok_start {f : Addr} {fd : FuncData} (F : Fun K "_law_start" "_law_start" sStart f fd) : FnOk P w K mg base CX0 1 f fd ["_law_script"] (spStart K) := by
  refine F.ok scStart (fun vs H Q E h => ?_) (fun cdv A outer s H vs Q E hr h => ?_)
  · obtain ⟨a, ns, rfl, _⟩ := h
    rfl
  · obtain ⟨a, ns, rfl, ha, hlen, k⟩ := h
    have nd := scStart.nd
    refine ⟨_, pss_cons (ps_set (i := 1) nd rfl (Or.inl rfl) pe_int) (pss_cons (ps_for PassesOwn.never rfl (pi_list (pv 0)) (pg_name (i := 2) nd rfl (Or.inl rfl))
        (pss_one (ps_set (i := 1) nd rfl (Or.inl rfl) (pe_op op_mod (pe_op op_add (pe_op op_add (pe_op op_mul (pv 1) pe_int) (pv 2)) pe_int) pe_int))))
      (pss_one (ps_ret (pe_lst (pa_cons (pv 0) (pa_cons pe_int (pa_cons (pv 1) (pa_cons pe_int pa_nil)))))))), ?_⟩
    refine ⟨_, rfl, a, rfl, ⟨_, ha⟩, for_it walk_list (fun i σ H2 => ∃ (m : Int) (o : Option V), σ = [some (.ref a), some (.int m), o] ∧ H2 = H ∧ 0 ≤ m ∧ m < 2147483647) ⟨1, none, rfl, rfl, by decide, by decide⟩
      (fun i σ H2 _ ⟨_, _, _, e, _⟩ => by rw [e]; exact ha) ?_ ?_⟩
    · rintro i y σ H2 H3 hi ⟨m, o, rfl, rfl, m0, m1⟩ ⟨rfl, e2⟩
      obtain ⟨c, rfl⟩ : ∃ c, y = V.int c := by
        rw [List.getElem?_map] at e2
        cases e : ns[i]? with
        | none =>
          rw [e] at e2
          cases e2
        | some c =>
          rw [e] at e2
          exact ⟨c, (Option.some.inj e2).symm⟩
      refine ⟨_, rfl, _, _, rfl, rfl, .inr ⟨by decide, by decide⟩, _, rfl, _, _, rfl, rfl, _, _, rfl, rfl, _, _, rfl, rfl, (by show (0 : Int) < 2147483647; decide), ?_⟩
      exact ⟨_, _, rfl, rfl, Int.emod_nonneg _ (by decide), Int.emod_lt_of_pos _ (by decide)⟩
    · rintro σ H2 ⟨m, o, rfl, rfl, m0, m1⟩
      refine ⟨_, rfl, _, rfl, by show 4 ≤ sizeLine; decide, fun l hl => ?_⟩
      have s1 : Same H2 (upd H2 l (.lst [.ref a, .int 0, .int m, .int 0])) := fun b o e => by rw [upd_ne (ne_of_none e hl)]; exact e
      exact k _ l s1 hl ⟨⟨0, m, 0, upd_same, by decide, ⟨m0, m1⟩, by decide⟩, s1.seq ha, hlen⟩
def spDrawn (K : PySem.W.Frag) : Sp := fun vs H Q _ => ∃ (l a : Addr) (ns : List Int) (n : Int), vs = [.ref l, .int n] ∧ DrawSt K H l a ns ∧ 0 < n ∧ n < 1073741824 ∧ ∀ (r : Int) H', 0 ≤ r → r < n → But l H H' → DrawSt K H' l a ns → Q (.int r) H'
theorem scDrawn : FnScope ["_law_state", "_law_count", "_law_result", "_law_cell"] ["_law_state", "_law_count"] (defScope sDrawn) := ⟨rfl, rfl, rfl, by decide +kernel, rfl, by decide +kernel, by decide +kernel⟩
theorem ok_drawn {f : Addr} {fd : FuncData} (F : Fun K "_law_drawn" "_law_drawn" sDrawn f fd) (B : Blt mg) : FnOk P w K mg base CX0 1 f fd ["_law_state", "_law_count"] (spDrawn K) := by
  refine F.ok scDrawn (fun vs H Q E h => ?_) (fun cdv A outer s H vs Q E hr h => ?_)
  · obtain ⟨l, a, ns, n, rfl, _⟩ := h
    rfl
  · obtain ⟨l, a, ns, n, rfl, ⟨⟨pos, seed, rest, hl, p0, ⟨s0, s1⟩, r0⟩, hsc, hlen⟩, n0, n1, k⟩ := h
    have nd := scDrawn.nd
    refine ⟨_, pss_cons (ps_if (pt_cmpR op_gt (pe_ix ix_list (pv 0) pe_int (fun _ _ => rfl)) pe_int (nomark _))
        (pss_cons (ps_set (i := 2) nd rfl (Or.inl rfl) (pe_op op_mod (pe_ix ix_list (pv 0) pe_int (fun _ _ => rfl)) (pv 1)))
          (pss_cons (ps_asg (pe_op op_fdiv (pe_ix ix_list (pv 0) pe_int (fun _ _ => rfl)) (pv 1)) (pg_sub (pv 0) pe_int set_list))
          (pss_one (ps_ret (pv 2))))) pss_nil)
      (pss_cons (ps_asg (pe_op op_add (pe_ix ix_list (pv 0) pe_int (fun _ _ => rfl)) pe_int) (pg_sub (pv 0) pe_int set_list))
      (pss_cons (ps_if (pt_cmpR op_le (pe_ix ix_list (pv 0) pe_int (fun _ _ => rfl)) (pe_callB call_len_seq (by rfl) B.len PySem.boot_len (pa_cons (pe_ix ix_list (pv 0) pe_int (fun _ _ => rfl)) pa_nil)) (nomark _))
        (pss_cons (ps_set (i := 3) nd rfl (Or.inl rfl) (pe_ix ix_list (pe_ix ix_list (pv 0) pe_int (fun _ _ => rfl)) (pe_op op_sub (pe_ix ix_list (pv 0) pe_int (fun _ _ => rfl)) pe_int) (fun _ _ => rfl)))
          (pss_cons (ps_asg (pe_ifExp (pt_cmpR op_ge (pv 3) (pe_op op_pow pe_int pe_int) (nomark _)) (pe_op op_fdiv (pv 3) (pv 1)) pe_int) (pg_sub (pv 0) pe_int set_list))
          (pss_one (ps_ret (pe_op op_mod (pv 3) (pv 1)))))) pss_nil)
      (pss_cons (ps_asg (pe_op op_mod (pe_op op_add (pe_op op_mul (pe_ix ix_list (pv 0) pe_int (fun _ _ => rfl)) pe_int) pe_int) pe_int) (pg_sub (pv 0) pe_int set_list))
      (pss_one (ps_ret (pe_op op_mod (pe_op op_fdiv (pe_ix ix_list (pv 0) pe_int (fun _ _ => rfl)) pe_int) (pv 1))))))), ?_⟩
    have upBut : ∀ {H1 : Hp} {o : HO}, But l H1 (upd H1 l o) := fun {H1 o} b u e nb => by rw [upd_ne nb]; exact e
    have fin : ∀ (r p' s' r' : Int) (H1 : Hp), 0 ≤ r → r < n → But l H H1 → H1 l = some (.lst [.ref a, .int p', .int s', .int r']) → 0 ≤ p' → 0 ≤ s' → s' < 2147483647 → 0 ≤ r' → Q (.int r) H1 := fun r p' s' r' H1 a1 a2 bu e b1 b2 b3 b4 =>
      k r H1 a1 a2 bu ⟨⟨p', s', r', e, b1, ⟨b2, b3⟩, b4⟩, sql_but hl hsc bu, hlen⟩
    refine ⟨_, rfl, l, _, 3, .int rest, rfl, rfl, SqL.of hl, atI_nat (j := 3) rfl, _, _, rfl, rfl, _, rfl, ?_⟩
    refine ite2 (fun h1 => ?_) (fun h1 => ?_)
    · refine ⟨_, rfl, l, _, 3, .int rest, rfl, rfl, SqL.of hl, atI_nat (j := 3) rfl, _, rfl, _, _, rfl, rfl, n0, _, rfl, l, _, 3, .int rest, rfl, rfl, SqL.of hl, atI_nat (j := 3) rfl, _, rfl, _, _, rfl, rfl, ⟨n0, n1⟩, _, rfl, l, _, 3, 3, rfl, rfl, hl, rfl, _, rfl, ?_⟩
      exact fin _ pos seed (rest / n) _ (Int.emod_nonneg _ (by omega)) (Int.emod_lt_of_pos _ n0) upBut upd_same p0 s0 s1 (Int.ediv_nonneg r0 (by omega))
    · refine ⟨_, rfl, l, _, 1, .int pos, rfl, rfl, SqL.of hl, atI_nat (j := 1) rfl, _, _, rfl, rfl, _, rfl, l, _, 1, 1, rfl, rfl, hl, rfl, ?_⟩
      generalize hH1 : upd H l (.lst ([V.ref a, .int pos, .int seed, .int rest].set 1 (.int (pos + 1)))) = H1
      have hl1 : H1 l = some (.lst [.ref a, .int (pos + 1), .int seed, .int rest]) := by rw [← hH1]; exact upd_same
      have b1 : But l H H1 := by rw [← hH1]; exact upBut
      have sc1 := sql_but hl hsc b1
      refine ⟨_, rfl, l, _, 1, .int (pos + 1), rfl, rfl, SqL.of hl1, atI_nat (j := 1) rfl, _, rfl, l, _, 0, .ref a, rfl, rfl, SqL.of hl1, atI_nat (j := 0) rfl, a, _, rfl, .inl sc1, _, _, rfl, rfl, _, rfl, ?_⟩
      refine ite2 (fun h2 => ?_) (fun h2 => ?_)
      · have h2' : pos + 1 ≤ ((ns.map V.int).length : Nat) := of_decide_eq_true h2
        rw [List.length_map] at h2'
        have lt : pos.toNat < ns.length := by omega
        obtain ⟨c, hc⟩ : ∃ c, ns[pos.toNat]? = some c := ⟨_, List.getElem?_eq_getElem lt⟩
        have hci : atI (ns.map V.int) (pos + 1 - 1) = some (.int c) := by
          have e : pos + 1 - 1 = ((pos.toNat : Nat) : Int) := by omega
          rw [e]
          refine atI_nat ?_
          rw [List.getElem?_map, hc]
          rfl
        refine ⟨_, rfl, l, _, 0, .ref a, rfl, rfl, SqL.of hl1, atI_nat (j := 0) rfl, _, rfl, l, _, 1, .int (pos + 1), rfl, rfl, SqL.of hl1, atI_nat (j := 1) rfl, _, _, rfl, rfl, a, _, _, .int c, rfl, rfl, sc1, hci, ?_⟩
        refine ⟨_, rfl, _, _, rfl, rfl, ⟨by decide, by decide, by decide⟩, _, _, rfl, rfl, _, rfl, ?_⟩
        have last : ∀ r' : Int, 0 ≤ r' → Q (.int (c % n)) (upd H1 l (.lst ([V.ref a, .int (pos + 1), .int seed, .int rest].set 3 (.int r')))) := fun r' hr' =>
          fin _ (pos + 1) seed r' _ (Int.emod_nonneg _ (by omega)) (Int.emod_lt_of_pos _ n0) (b1.trans upBut) upd_same (by omega) s0 s1 hr'
        refine ite2 (fun h3 => ?_) (fun h3 => ?_)
        · have c0 : 0 ≤ c := by
            have h3' := of_decide_eq_true h3
            have : (0 : Int) ≤ 10 ^ (Int.toNat 18) := by decide
            omega
          refine ⟨_, rfl, _, rfl, _, _, rfl, rfl, ⟨n0, n1⟩, _, rfl, l, _, 3, 3, rfl, rfl, hl1, rfl, _, rfl, _, rfl, _, _, rfl, rfl, n0, ?_⟩
          exact last _ (Int.ediv_nonneg c0 (by omega))
        · refine ⟨_, rfl, l, _, 3, 3, rfl, rfl, hl1, rfl, _, rfl, _, rfl, _, _, rfl, rfl, n0, ?_⟩
          exact last 0 (by decide)
      · refine ⟨_, rfl, l, _, 2, .int seed, rfl, rfl, SqL.of hl1, atI_nat (j := 2) rfl, _, _, rfl, rfl, .inr ⟨by decide, by decide⟩, _, _, rfl, rfl, _, _, rfl, rfl, (by show (0 : Int) < 2147483647; decide), _, rfl, l, _, 2, 2, rfl, rfl, hl1, rfl, ?_⟩
        refine ⟨_, rfl, l, _, 2, .int ((seed * 48271 + 11) % 2147483647), rfl, rfl, SqL.of upd_same, atI_nat (j := 2) rfl, _, _, rfl, rfl, ⟨by decide, by decide⟩, _, rfl, _, _, rfl, rfl, n0, ?_⟩
        exact fin _ (pos + 1) _ rest _ (Int.emod_nonneg _ (by omega)) (Int.emod_lt_of_pos _ n0) (b1.trans upBut) upd_same (by omega) (Int.emod_nonneg _ (by decide)) (Int.emod_lt_of_pos _ (by decide)) r0
end
end Sh1
/-! Draws: told in K1j0, which a law without parties can use too. -/
set_option Elab.async false
set_option linter.all false
set_option maxRecDepth 100000
set_option maxHeartbeats 2000000
namespace Sh1
open PySem L2 Sho NdefX
/-- x stands for d, at most n deep: ints, texts, tuples, lists -/
def Leaf (x : V) (d : PyData) : Prop := (∃ i, x = .int i ∧ d = .int i) ∨ ∃ z, x = .str z ∧ d = .str z
def Stands (H : Hp) : Nat → V → PyData → Prop
  | 0, x, d => Leaf x d
  | n + 1, x, d => Leaf x d ∨ (∃ (a : Addr) (xs : List V) (ds : List PyData), x = .ref a ∧ d = .tuple ds ∧ H a = some (.tup xs) ∧ xs.length ≤ 1000 ∧ PySem.Paired (fun y e => Stands H n y e) xs ds)
theorem Stands.same {H H' : Hp} (s : Same H H') : ∀ {n : Nat} {x : V} {d : PyData}, Stands H n x d → Stands H' n x d
  | 0, _, _, h => h
  | n + 1, x, d, h => by
    rcases h with h | ⟨a, xs, ds, e1, e2, e3, e4, e5⟩
    · exact .inl h
    · refine .inr ⟨a, xs, ds, e1, e2, s _ _ e3, e4, ?_⟩
      clear e3 e4 e1 e2
      induction e5 with
      | nil => exact .nil
      | cons h r ih => exact .cons (Stands.same s h) ih
section
variable {P : Program} {w : World} {K : PySem.W.Frag} {mg : Str → Option Value} {base : Heap}
def spSame (n : Nat) : Sp := fun vs H Q _ => ∃ (x y : V) (d : PyData), vs = [x, y] ∧ Stands H n x d ∧ Stands H n y d ∧ ∀ H', Same H H' → Q (.bl true) H'
theorem scSame : FnScope ["_law_result", "_law_expected", "_law_k"] ["_law_result", "_law_expected"] (defScope sSame) := ⟨rfl, rfl, rfl, by decide +kernel, rfl, by decide +kernel, by decide +kernel⟩
theorem kA {K : PySem.W.Frag} {t : String} (h1 : kitB t "tuple" = some false) (h2 : kitB t "list" = some false) : PySem.W.kitAny K (.type t) [.type "tuple", .type "list"] = some false :=
  kitAny_cons (b := false) h1 (fun _ => kitAny_cons (b := false) h2 (fun _ => rfl) fun z => nomatch z) fun z => nomatch z
theorem kT {K : PySem.W.Frag} : PySem.W.kitAny K (.type "tuple") [.type "tuple", .type "list"] = some true :=
  kitAny_cons (b := true) (show kitB "tuple" "tuple" = some true by decide +kernel) (fun z => nomatch z) fun _ => rfl
/-- a leaf's class -/
theorem leaf_ty {K : PySem.W.Frag} {x : V} {d : PyData} (h : Leaf x d) : ∃ t : String, (∀ H, TyX K H x (.type t)) ∧ PySem.W.kitAny K (.type t) [.type "tuple", .type "list"] = some false ∧ kitB t "bool" = some false ∧ ∃ b, kitB t "int" = some b ∧ (b = true → ∃ i, d = .int i) ∧ (b = false → ∃ z, d = .str z) ∧ scal x x = true := by
  rcases h with ⟨i, rfl, rfl⟩ | ⟨z, rfl, rfl⟩
  · exact ⟨"int", fun _ => .base (.int i), kA (by decide +kernel) (by decide +kernel), by decide +kernel, true, by decide +kernel, fun _ => ⟨i, rfl⟩, (fun z => nomatch z), rfl⟩
  · exact ⟨"str", fun _ => .base (.str z), kA (by decide +kernel) (by decide +kernel), by decide +kernel, false, by decide +kernel, (fun z => nomatch z), fun _ => ⟨z, rfl⟩, rfl⟩
theorem leaf_eq {x y : V} {d : PyData} (h : Leaf x d) (k : Leaf y d) : x = y := by
  rcases h with ⟨i, rfl, rfl⟩ | ⟨z, rfl, rfl⟩ <;> rcases k with ⟨j, rfl, e⟩ | ⟨j, rfl, e⟩ <;> cases e <;> rfl
theorem stands_split {H : Hp} {n : Nat} {sp' : Sp} {x y : V} {d : PyData} (hn : n = 0 ∨ ∃ m, n = m + 1 ∧ sp' = spSame m) (hx : Stands H n x d) (hy : Stands H n y d) :
    (Leaf x d ∧ x = y) ∨ ∃ (m : Nat) (a b : Addr) (xs ys : List V) (ds : List PyData), sp' = spSame m ∧ x = .ref a ∧ y = .ref b ∧ H a = some (.tup xs) ∧ H b = some (.tup ys) ∧ xs.length ≤ 1000 ∧
      PySem.Paired (fun y e => Stands H m y e) xs ds ∧ PySem.Paired (fun y e => Stands H m y e) ys ds := by
  rcases hn with rfl | ⟨m, rfl, e⟩
  · exact .inl ⟨hx, leaf_eq hx hy⟩
  · rcases hx with hx | ⟨a, xs, ds, rfl, rfl, h1, h2, h3⟩
    · rcases hy with hy | ⟨b, ys, es, rfl, rfl, _⟩
      · exact .inl ⟨hx, leaf_eq hx hy⟩
      · rcases hx with ⟨i, _, z⟩ | ⟨i, _, z⟩ <;> cases z
    · rcases hy with hy | ⟨b, ys, es, rfl, e2, g1, g2, g3⟩
      · rcases hy with ⟨i, _, z⟩ | ⟨i, _, z⟩ <;> cases z
      · cases e2
        exact .inr ⟨m, a, b, xs, ys, ds, e, rfl, rfl, h1, g1, h2, h3, g3⟩
theorem same_step {k n : Nat} {sp' : Sp} {f : Addr} {fd : FuncData} (F : Fun K "_law_same" "_law_same" sSame f fd) (B : Blt mg) (mF : mg "_law_same" = some (.ref f)) (bF : Binds K fd ["_law_result", "_law_expected"] [])
    (ih : FnOk P w K mg base CX0 k f fd ["_law_result", "_law_expected"] sp') (hn : n = 0 ∨ ∃ m, n = m + 1 ∧ sp' = spSame m) : FnOk P w K mg base CX0 (k + 1) f fd ["_law_result", "_law_expected"] (spSame n) := by
  refine F.ok scSame (fun vs H Q E h => ?_) (fun cdv A outer s H vs Q E hr h => ?_)
  · obtain ⟨x, y, d, rfl, _⟩ := h
    rfl
  · obtain ⟨x, y, d, rfl, hx, hy, kk⟩ := h
    have nd := scSame.nd
    refine ⟨_, pss_cons (ps_if (pt_val (pe_callB call_isiT (by rfl) B.isi (by decide +kernel) (pa_cons (pv 1) (pa_cons (pe_tup (pa_cons (pe_bltn (v := .ty "tuple") (by rfl) B.tuple (by decide +kernel) rfl) (pa_cons (pe_bltn (v := .ty "list") (by rfl) B.list (by decide +kernel) rfl) pa_nil))) pa_nil))))
        (pss_cons (ps_if (PW.pt (pw_or (pt_not (pt_val (pe_callB call_isiT (by rfl) B.isi (by decide +kernel) (pa_cons (pv 0) (pa_cons (pe_tup (pa_cons (pe_bltn (v := .ty "tuple") (by rfl) B.tuple (by decide +kernel) rfl) (pa_cons (pe_bltn (v := .ty "list") (by rfl) B.list (by decide +kernel) rfl) pa_nil))) pa_nil)))))
            (pw_or1 (pt_cmpR op_ne (pe_callB call_isi (by rfl) B.isi (by decide +kernel) (pa_cons (pv 0) (pa_cons (pe_bltn (v := .ty "list") (by rfl) B.list (by decide +kernel) rfl) pa_nil))) (pe_callB call_isi (by rfl) B.isi (by decide +kernel) (pa_cons (pv 1) (pa_cons (pe_bltn (v := .ty "list") (by rfl) B.list (by decide +kernel) rfl) pa_nil))) (nomark _)))))
            (pss_one (ps_ret pe_bl)) pss_nil)
        (pss_cons (ps_if (pt_cmpR op_ne (pe_callB call_len_seq (by rfl) B.len PySem.boot_len (pa_cons (pv 0) pa_nil)) (pe_callB call_len_seq (by rfl) B.len PySem.boot_len (pa_cons (pv 1) pa_nil)) (nomark _)) (pss_one (ps_ret pe_bl)) pss_nil)
        (pss_one (ps_ret (pe_cmpR (op_eqD (hr.mono (Nat.zero_le _)).units) (pe_lc (own := [("_law_k", 2)]) (g := gName 2) (tt := tNot (tB (tCall sp' [] E0 (tCons (tOp (rIxT K) (tVar 0) (tVar 2)) (tCons (tOp (rIxT K) (tVar 1) (tVar 2)) tNil))))) rfl nd
            (pi_range1 (by rfl) B.range (pa_cons (pe_callB call_len_seq (by rfl) B.len PySem.boot_len (pa_cons (pv 1) pa_nil)) pa_nil)) (blkOk_by (own := [("_law_k", 2)]) (N := ["_law_result", "_law_expected", "_law_k"]) (sc := defScope sSame) (by decide +kernel))
            (fun _ _ _ _ _ => pg_name (i := 2) nd rfl (Or.inl rfl))
            (fun _ _ _ _ _ => pts_one (pt_not (pt_val (pe_call ih hr rfl mF F.kp bF .nil pass0 (pa_cons (pe_ix ix_tup (pv 0) (pv 2) (fun _ _ => rfl)) (pa_cons (pe_ix ix_tup (pv 1) (pv 2) (fun _ _ => rfl)) pa_nil))))))
            (fun _ _ _ _ _ => pv 2)) (pe_lst pa_nil) (nomark _)))))) pss_nil)
      (pss_cons (ps_if (pt_cmpR op_ne (pe_callB call_isi (by rfl) B.isi (by decide +kernel) (pa_cons (pv 0) (pa_cons (pe_bltn (v := .ty "bool") (by rfl) B.bool (by decide +kernel) rfl) pa_nil))) (pe_callB call_isi (by rfl) B.isi (by decide +kernel) (pa_cons (pv 1) (pa_cons (pe_bltn (v := .ty "bool") (by rfl) B.bool (by decide +kernel) rfl) pa_nil))) (nomark _)) (pss_one (ps_ret pe_bl)) pss_nil)
      (pss_one (ps_ret (pe_and (pe_cmpR op_eq (pe_callB call_isi (by rfl) B.isi (by decide +kernel) (pa_cons (pv 0) (pa_cons (pe_bltn (v := .ty "int") (by rfl) B.int (by decide +kernel) rfl) pa_nil))) (pe_callB call_isi (by rfl) B.isi (by decide +kernel) (pa_cons (pv 1) (pa_cons (pe_bltn (v := .ty "int") (by rfl) B.int (by decide +kernel) rfl) pa_nil))) (nomark _))
        (pe_one (pe_cmpR op_eq (pv 0) (pv 1) (nomark _))))))), ?_⟩
    rcases stands_split hn hx hy with ⟨hl, e⟩ | ⟨m, a, b, xs, ys, ds, e, rfl, rfl, h1, h2, h3, h4, h5⟩
    · subst e
      obtain ⟨t, ty, ka, kb, bi, ki, ki1, ki2, hsc⟩ := leaf_ty (K := K) hl
      refine ⟨_, rfl, by decide, fun tp htp => ?_⟩
      have s1 : Same H (upd H tp (.tup [.ty "tuple", .ty "list"])) := fun b o e => by rw [upd_ne (ne_of_none e htp)]; exact e
      refine ⟨x, tp, _, .type t, [.type "tuple", .type "list"], false, rfl, upd_same, .cons (.ty _) (.cons (.ty _) .nil), ty _, ka, _, rfl, iteF ?_⟩
      refine ⟨_, rfl, x, _, .type t, .type "bool", false, rfl, .ty _, ty _, kb, _, rfl, x, _, .type t, .type "bool", false, rfl, .ty _, ty _, kb, rfl, _, rfl, iteF ?_⟩
      refine ⟨_, rfl, x, _, .type t, .type "int", bi, rfl, .ty _, ty _, ki, _, rfl, x, _, .type t, .type "int", bi, rfl, .ty _, ty _, ki, rfl, true, by rw [decide_eq_true rfl], iteT ⟨_, rfl, _, rfl, hsc, ?_⟩⟩
      rw [decide_eq_true rfl]
      exact kk _ s1
    · subst e
      have lx := pair_len h4
      have ly := pair_len h5
      have new : ∀ {H1 : Hp} {p : Addr} {o : HO}, H1 p = none → Same H1 (upd H1 p o) := fun {H1 p o} hp b u e => by rw [upd_ne (ne_of_none e hp)]; exact e
      refine ⟨_, rfl, by decide, fun tp htp => ?_⟩
      have s1 := new (o := .tup [.ty "tuple", .ty "list"]) htp
      refine ⟨.ref b, tp, _, .type "tuple", [.type "tuple", .type "list"], true, rfl, upd_same, .cons (.ty _) (.cons (.ty _) .nil), .base (.tup (s1 _ _ h2)), kT, _, rfl, iteT ?_⟩
      refine ⟨_, rfl, by decide, fun tq htq => ?_⟩
      have s2 := s1.trans (new (o := .tup [.ty "tuple", .ty "list"]) htq)
      refine ⟨.ref a, tq, _, .type "tuple", [.type "tuple", .type "list"], true, rfl, upd_same, .cons (.ty _) (.cons (.ty _) .nil), .base (.tup (s2 _ _ h1)), kT, _, rfl, iteF ?_⟩
      refine ⟨_, rfl, .ref a, _, .type "tuple", .type "list", false, rfl, .ty _, .base (.tup (s2 _ _ h1)), kit_ty (by decide +kernel), _, rfl, .ref b, _, .type "tuple", .type "list", false, rfl, .ty _, .base (.tup (s2 _ _ h2)), kit_ty (by decide +kernel), rfl, _, rfl, iteF ?_⟩
      generalize upd (upd H tp (.tup [.ty "tuple", .ty "list"])) tq (.tup [.ty "tuple", .ty "list"]) = H2 at s2
      refine ⟨_, rfl, a, xs, rfl, .inr (SqT.of (s2 _ _ h1)), _, rfl, b, ys, rfl, .inr (SqT.of (s2 _ _ h2)), rfl, false, ?_, iteF ?_⟩
      · have e : (xs.length : Int) = (ys.length : Int) := by rw [lx, ly]
        rw [e, decide_eq_true rfl]
        rfl
      · have hlen : (ys.length : Int).toNat = ys.length := by simp
        have l1000 : ys.length ≤ 1000 := by omega
        refine ⟨_, rfl, b, ys, rfl, .inr (SqT.of (s2 _ _ h2)), (ys.length : Nat), rfl, by omega, by omega, fun D hD => ?_⟩
        refine lc_gather walk_range (fun _ => none) hD (by rw [hlen]; exact Nat.le_trans l1000 (by decide)) (fun _ _ => trivial) (fun i v H3 H4 hi s3 yv R k1 => ?_) fun H3 s3 e3 => ?_
        · obtain ⟨rfl, rfl⟩ := yv
          rw [hlen] at hi
          obtain ⟨y', hy'⟩ : ∃ y', ys[i]? = some y' := ⟨_, List.getElem?_eq_getElem hi⟩
          obtain ⟨x', hx'⟩ : ∃ x', xs[i]? = some x' := ⟨_, List.getElem?_eq_getElem (by omega)⟩
          obtain ⟨e1, he1, st1⟩ := pair_get h4 hx'
          obtain ⟨e2, he2, st2⟩ := pair_get h5 hy'
          rw [he1] at he2
          cases he2
          have s23 := s2.trans s3
          have zi : (0 : Int) + (i : Nat) = (i : Nat) := by omega
          refine ⟨rfl, _, rfl, _, rfl, a, xs, _, x', rfl, rfl, SqT.of (s23 _ _ h1), by rw [zi]; exact atI_nat hx', _, rfl, _, rfl, b, ys, _, y', rfl, rfl, SqT.of (s23 _ _ h2), by rw [zi]; exact atI_nat hy', ?_⟩
          exact ⟨x', y', e1, rfl, st1.same s23, st2.same s23, fun H5 s5 => ⟨_, rfl, iteF (k1 _ s5)⟩⟩
        · have g0 : gather (fun _ => none) ((ys.length : Int).toNat) = [] := by
            unfold gather
            simp
          rw [g0] at e3
          refine ⟨by decide, fun L hL => ?_⟩
          have s4 := new (o := .lst []) hL
          exact ⟨.list [], .list [], .lst (SqL.of (s4 _ _ e3)) .nil, .lst (SqL.of upd_same) .nil, rfl, rfl, kk _ ((s2.trans s3).trans s4)⟩
theorem ok_same {f : Addr} {fd : FuncData} (F : Fun K "_law_same" "_law_same" sSame f fd) (B : Blt mg) (mF : mg "_law_same" = some (.ref f)) (bF : Binds K fd ["_law_result", "_law_expected"] []) : ∀ n, FnOk P w K mg base CX0 (n + 1) f fd ["_law_result", "_law_expected"] (spSame n)
  | 0 => same_step (sp' := fun _ _ _ _ => False) F B mF bF ⟨fun _ _ _ _ h => False.elim h, fun _ _ _ _ _ _ _ _ _ _ _ _ _ h => False.elim h⟩ (.inl rfl)
  | n + 1 => same_step F B mF bF (ok_same F B mF bF n) (.inr ⟨n, rfl, rfl⟩)
end
end Sh1
set_option Elab.async false
set_option linter.all false
set_option maxRecDepth 100000
set_option maxHeartbeats 2000000
/-! list(text). -/
namespace Sho
open PySem PySem.Spec PyProof.Rows L2
def signs (z : Str) : List V := z.cps.toList.map fun c => V.str ⟨#[c]⟩
theorem paired_of {α β : Type} {R : α → β → Prop} : ∀ {as : List α} {bs : List β}, as.length = bs.length → (∀ (i : Nat) (b : β), bs[i]? = some b → ∃ a, as[i]? = some a ∧ R a b) → PySem.Paired R as bs
  | [], [], _, _ => .nil
  | [], _ :: _, h, _ => by simp at h
  | _ :: _, [], h, _ => by simp at h
  | a :: as, b :: bs, h, k => by
    obtain ⟨a', e, r⟩ := k 0 b rfl
    simp at e
    subst e
    exact .cons r (paired_of (by simpa using h) fun i b' e => by
      obtain ⟨a', e2, r2⟩ := k (i + 1) b' (by simpa using e)
      exact ⟨a', by simpa using e2, r2⟩)
theorem vals_signs {z : Str} {acc : Array Value} (h : ItemsOf (SignAt z) acc z.cps.size) : Vals (signs z) acc.toList := by
  refine paired_of ?_ fun i v e => ?_
  · unfold signs
    rw [List.length_map, Array.length_toList, Array.length_toList]
    exact h.1.symm
  · rw [Array.getElem?_toList] at e
    obtain ⟨c, t, hc, rfl⟩ := h.2 i v e
    refine ⟨.str ⟨#[c]⟩, ?_, t, rfl⟩
    unfold signs
    rw [List.getElem?_map, Array.getElem?_toList, hc]
    rfl
theorem call_listStr {X : Cx} (hc : X.calm = true) : CallR X (.type "list") (fun xs H Q => ∃ z : Str, xs = [.str z] ∧ z.length ≤ sizeLine ∧ ∀ l, H l = none → Q (.ref l) (upd H l (.lst (signs z)))) := by
  intro pins s σ H xs us Q I r h
  obtain ⟨z, rfl, hz, q⟩ := h
  obtain ⟨u, rfl, rx⟩ := vals1 r
  obtain ⟨t, rfl⟩ := rx
  refine call_list_str (I.ok.hd hc) z t (fun h' tk acc' c' kp e hi => ?_) hz
  refine ⟨.ref s.heap.objs.size, _, I.laid (t' := tk) kp (Nat.le_refl _) (show ObjOk X.prog X.w _ h' _ (.lst (signs z)) from ⟨?_, acc'.toList, c', vals_signs hi, by simpa using e⟩), rfl, q _ (I.hok.fresh (Nat.le_refl _))⟩
  unfold signs
  rw [List.length_map, Array.length_toList]
  exact hz
end Sho
set_option Elab.async false
set_option linter.all false
set_option maxRecDepth 100000
set_option maxHeartbeats 2000000
namespace Sh1
open PySem L2 Sho NdefX
abbrev sg (c : Nat) : V := .str ⟨#[c]⟩
def l26 : List Nat := (List.range 26).map fun i => 97 + i
theorem signs_l26 : signs (Str.ofString "abcdefghijklmnopqrstuvwxyz") = l26.map sg := by
  have e : (Str.ofString "abcdefghijklmnopqrstuvwxyz").cps.toList = l26 := by decide +kernel
  unfold signs
  rw [e]
structure Rows (high : Int) (xs : List Stay) : Prop where
  nd : (xs.map fun x => x.1).Nodup
  one : ∀ x ∈ xs, ∃ c : Nat, x.1 = ⟨#[c]⟩ ∧ 97 ≤ c ∧ c ≤ 122
  tm : ∀ x ∈ xs, 0 ≤ x.2.1 ∧ x.2.1 < high ∧ x.2.1 < x.2.2 ∧ x.2.2 ≤ x.2.1 + high
theorem StayV.but {l : Addr} {H H' : Hp} {v : V} {x : Stay} {zs : List V} (hl : H l = some (.lst zs)) (s : But l H H') (h : StayV H v x) : StayV H' v x := by
  obtain ⟨t, e, ht⟩ := h
  refine ⟨t, e, s _ _ ht fun z => ?_⟩
  rw [z, hl] at ht
  cases ht
theorem StaysV.but {l : Addr} {H H' : Hp} {zs : List V} (hl : H l = some (.lst zs)) (s : But l H H') : ∀ {vs : List V} {xs : List Stay}, StaysV H vs xs → StaysV H' vs xs
  | _, _, .nil => .nil
  | _, _, .cons h r => .cons (h.but hl s) (StaysV.but hl s r)
theorem DrawSt.at {K : PySem.W.Frag} {H : Hp} {l a : Addr} {ns : List Int} (d : DrawSt K H l a ns) : ∃ zs, H l = some (.lst (V.ref a :: zs)) := by
  obtain ⟨⟨p, s, r, h, _⟩, _, _⟩ := d
  exact ⟨_, h⟩
theorem DrawSt.but {K : PySem.W.Frag} {H H' : Hp} {l a : Addr} {ns : List Int} (d : DrawSt K H l a ns) (h : H' l = H l) (b : But l H H') : DrawSt K H' l a ns := by
  obtain ⟨⟨p, s, r, e, k⟩, sc, len⟩ := d
  exact ⟨⟨p, s, r, h.trans e, k⟩, sql_but e sc b, len⟩
section
variable {P : Program} {w : World} {K : PySem.W.Frag} {mg : Str → Option Value} {base : Heap}
def spRows (K : PySem.W.Frag) : Sp := fun vs H Q _ => ∃ (l a : Addr) (ns : List Int) (most high : Int), vs = [.ref l, .int most, .int high] ∧ DrawSt K H l a ns ∧ 0 ≤ most ∧ most ≤ 25 ∧ 0 < high ∧ high < 1073741824 ∧
  ∀ (H' : Hp) (R : Addr) (ws : List V) (xs : List Stay), But l H H' → DrawSt K H' l a ns → H R = none → H' R = some (.lst ws) → StaysV H' ws xs → (xs.length : Int) ≤ most → Rows high xs → Q (.ref R) H'
theorem scRows : FnScope ["_law_state", "_law_most", "_law_high", "_law_left", "_law_rows_here", "_law_k", "_law_come"] ["_law_state", "_law_most", "_law_high"] (defScope sRows) := ⟨rfl, rfl, rfl, by decide +kernel, rfl, by decide +kernel, by decide +kernel⟩
theorem map_erase {α β : Type} (f : α → β) : ∀ (l : List α) (k : Nat), (l.map f).eraseIdx k = (l.eraseIdx k).map f
  | [], k => by simp
  | x :: l, 0 => rfl
  | x :: l, k + 1 => by simp [map_erase f l k]
theorem seq_nat {j n : Nat} (h : j < n) : seqIndex? (j : Int) n = some j := by
  have e0 : (if (j : Int) < 0 then (j : Int) + n else (j : Int)) = (j : Int) := if_neg (by omega)
  show (if (decide (0 ≤ (if (j : Int) < 0 then (j : Int) + n else (j : Int))) && decide ((if (j : Int) < 0 then (j : Int) + n else (j : Int)) < (n : Int))) = true then some (if (j : Int) < 0 then (j : Int) + n else (j : Int)).toNat else none) = some j
  rw [e0]
  have e : (decide (0 ≤ (j : Int)) && decide ((j : Int) < (n : Int))) = true := by simp; omega
  rw [if_pos e]
  simp
theorem sql_fresh {K : PySem.W.Frag} {H : Hp} {a L : Addr} {xs : List V} (h : SqL K H a xs) (hL : H L = none) : a ≠ L ∨ ∀ H', SqL K H' a xs := by
  rcases h with (h | ⟨o, h⟩) | h
  · exact .inl (ne_of_none h hL)
  · exact .inl (ne_of_none h hL)
  · exact .inr fun _ => .inr h
theorem sql_to {K : PySem.W.Frag} {H H' : Hp} {a L : Addr} {xs : List V} (h : SqL K H a xs) (n : a ≠ L ∨ ∀ H', SqL K H' a xs) (b : But L H H') : SqL K H' a xs := by
  rcases n with n | n
  · rcases h with (h | ⟨o, h⟩) | h
    · exact .inl (.inl (b _ _ h n))
    · exact .inl (.inr ⟨o, b _ _ h n⟩)
    · exact .inr h
  · exact n H'
theorem DrawSt.to {K : PySem.W.Frag} {H H' : Hp} {l a L : Addr} {ns : List Int} (d : DrawSt K H l a ns) (nl : l ≠ L) (n : a ≠ L ∨ ∀ H', SqL K H' a (ns.map V.int)) (b : But L H H') : DrawSt K H' l a ns := by
  obtain ⟨⟨p, s, r, e, k⟩, sc, len⟩ := d
  exact ⟨⟨p, s, r, b _ _ e nl, k⟩, sql_to sc n b, len⟩
theorem but_upd {l : Addr} {H : Hp} {o : HO} : But l H (upd H l o) := fun b u e nb => by rw [upd_ne nb]; exact e
theorem same_upd {p : Addr} {H : Hp} {o : HO} (hp : H p = none) : Same H (upd H p o) := fun b u e => by rw [upd_ne (ne_of_none e hp)]; exact e
theorem DrawSt.same {K : PySem.W.Frag} {H H' : Hp} {l a : Addr} {ns : List Int} (d : DrawSt K H l a ns) (s : Same H H') : DrawSt K H' l a ns := by
  obtain ⟨⟨p, s', r, e, k⟩, sc, len⟩ := d
  exact ⟨⟨p, s', r, s _ _ e, k⟩, s.seq sc, len⟩
theorem Rows.snoc {high : Int} {xs : List Stay} {c : Nat} {a t : Int} (h : Rows high xs) (hc : 97 ≤ c ∧ c ≤ 122) (hx : ∀ x ∈ xs, x.1 ≠ ⟨#[c]⟩) (a0 : 0 ≤ a) (a1 : a < high) (t0 : 0 ≤ t) (t1 : t < high) : Rows high (xs ++ [(⟨#[c]⟩, a, a + 1 + t)]) := by
  refine ⟨?_, fun x hx' => ?_, fun x hx' => ?_⟩
  · rw [List.map_append, List.nodup_append]
    refine ⟨h.nd, by simp, fun z hz y hy e => ?_⟩
    simp at hy
    obtain ⟨x, hx', e2⟩ := List.mem_map.mp hz
    exact hx x hx' (e2.trans (e.trans hy))
  · rcases List.mem_append.mp hx' with q | q
    · exact h.one x q
    · rw [List.mem_singleton] at q
      subst q
      exact ⟨c, rfl, hc.1, hc.2⟩
  · rcases List.mem_append.mp hx' with q | q
    · exact h.tm x q
    · rw [List.mem_singleton] at q
      subst q
      exact ⟨a0, a1, by show a < a + 1 + t; omega, by show a + 1 + t ≤ a + high; omega⟩
theorem one_ne {c d : Nat} (h : c ≠ d) : (⟨#[c]⟩ : Str) ≠ ⟨#[d]⟩ := fun e => by
  injection e with e
  simp at e
  exact h e
/-- between two turns -/
def RowsIn (K : PySem.W.Frag) (H0 : Hp) (l a : Addr) (ns : List Int) (high : Int) (L R : Addr) (i : Nat) (H : Hp) : Prop :=
  ∃ (left : List Nat) (ws : List V) (xs : List Stay), But l H0 H ∧ DrawSt K H l a ns ∧ H L = some (.lst (left.map sg)) ∧ H R = some (.lst ws) ∧ StaysV H ws xs ∧ xs.length = i ∧ left.length + i = 26 ∧ left.Nodup ∧ (∀ c ∈ left, 97 ≤ c ∧ c ≤ 122) ∧
    Rows high xs ∧ ∀ x ∈ xs, ∀ c ∈ left, x.1 ≠ ⟨#[c]⟩
theorem ok_rows {f fD : Addr} {fd fdD : FuncData} (F : Fun K "_law_rows" "_law_rows" sRows f fd) (B : Blt mg)
    (GD : FnOk P w K mg base CX0 1 fD fdD ["_law_state", "_law_count"] (spDrawn K)) (mD : mg "_law_drawn" = some (.ref fD)) (kD : PySem.W.keepIn K (.ref fD) = true) (bD : Binds K fdD ["_law_state", "_law_count"] []) :
    FnOk P w K mg base CX0 2 f fd ["_law_state", "_law_most", "_law_high"] (spRows K) := by
  refine F.ok scRows (fun vs H Q E h => ?_) (fun cdv A outer s H vs Q E hr h => ?_)
  · obtain ⟨l, a, ns, most, high, rfl, _⟩ := h
    rfl
  · obtain ⟨l, a, ns, most, high, rfl, hD, m0, m1, h0, h1, k⟩ := h
    have nd := scRows.nd
    refine ⟨_, pss_cons (ps_set (i := 3) nd rfl (Or.inl rfl) (pe_callTy (call_listStr rfl) (by rfl) B.list (by decide +kernel) (pa_cons pe_str pa_nil)))
      (pss_cons (ps_set (i := 4) nd rfl (Or.inl rfl) (pe_lst pa_nil))
      (pss_cons (ps_for PassesOwn.never rfl (pi_range1 (by rfl) B.range (pa_cons (pe_call GD hr rfl mD kD bD .nil pass0 (pa_cons (pv 0) (pa_cons (pe_op op_add (pv 1) pe_int) pa_nil))) pa_nil)) (pg_name (i := 5) nd rfl (Or.inl rfl))
        (pss_cons (ps_set (i := 6) nd rfl (Or.inl rfl) (pe_call GD hr rfl mD kD bD .nil pass0 (pa_cons (pv 0) (pa_cons (pv 2) pa_nil))))
        (pss_one (ps_expr (pe_bm PySem.F.plainAttrs_list PySem.F.slot_list_append PySem.F.type_list_append mt_append (pv 4) (pa_cons (pe_tup (pa_cons
            (pe_bm PySem.F.plainAttrs_list PySem.F.slot_list_pop PySem.F.type_list_pop mt_popAt (pv 3) (pa_cons (pe_call GD hr rfl mD kD bD .nil pass0 (pa_cons (pv 0) (pa_cons (pe_callB call_len_seq (by rfl) B.len PySem.boot_len (pa_cons (pv 3) pa_nil)) pa_nil))) pa_nil))
            (pa_cons (pv 6) (pa_cons (pe_op op_add (pe_op op_add (pv 6) pe_int) (pe_call GD hr rfl mD kD bD .nil pass0 (pa_cons (pv 0) (pa_cons (pv 2) pa_nil)))) pa_nil)))) pa_nil))))))
      (pss_one (ps_ret (pv 4))))), ?_⟩
    refine ⟨_, rfl, by decide +kernel, fun L hL => ⟨Nat.zero_le _, fun R hR => ?_⟩⟩
    rw [signs_l26] at hR ⊢
    obtain ⟨zs, hl⟩ := hD.at
    have hL0 : H L = none := hL
    have nLR : L ≠ R := fun z => by
      rw [← z, upd_same] at hR
      cases hR
    have hR0 : H R = none := by
      rw [upd_ne (Ne.symm nLR)] at hR
      exact hR
    have nl1 : l ≠ L := ne_of_none hl hL0
    have nl2 : l ≠ R := ne_of_none hl hR0
    have aL := sql_fresh hD.sc hL0
    have aR := sql_fresh hD.sc hR0
    have sm : Same H (upd (upd H L (.lst (l26.map sg))) R (.lst [])) := fun b o e => by
      rw [upd_ne (ne_of_none e hR0), upd_ne (ne_of_none e hL0)]
      exact e
    have hD1 : DrawSt K (upd (upd H L (.lst (l26.map sg))) R (.lst [])) l a ns := hD.but (by rw [upd_ne nl2, upd_ne nl1]) (But.of sm)
    have hL1 : (upd (upd H L (.lst (l26.map sg))) R (.lst [])) L = some (.lst (l26.map sg)) := by rw [upd_ne nLR, upd_same]
    have hR1 : (upd (upd H L (.lst (l26.map sg))) R (.lst [])) R = some (.lst []) := upd_same
    generalize upd (upd H L (.lst (l26.map sg))) R (.lst []) = H1 at *
    refine ⟨_, rfl, _, rfl, _, _, rfl, rfl, l, a, ns, most + 1, rfl, hD1, by omega, by omega, fun r H2 r0 r1 b2 hD2 => ⟨r, rfl, by omega, by omega, ?_⟩⟩
    refine for_it walk_range (fun i σ H2 => ∃ o5 o6, σ = [some (.ref l), some (.int most), some (.int high), some (.ref L), some (.ref R), o5, o6] ∧ RowsIn K H l a ns high L R i H2)
      ⟨none, none, rfl, l26, [], [], (But.of sm).trans b2, hD2, b2 _ _ hL1 (Ne.symm nl1), b2 _ _ hR1 (Ne.symm nl2), .nil, rfl, by decide +kernel, by decide +kernel, by decide +kernel, ⟨List.nodup_nil, by simp, by simp⟩, by simp⟩ (fun _ _ _ _ _ => trivial) ?_ ?_
    · rintro i v σ H3' H3 hi ⟨o5, o6, rfl, left, ws, xs, b3, d3, hL3, hR3, sv3, lx, ll, ln, lr, rows, sep⟩ ⟨rfl, rfl⟩
      have hleft : 0 < left.length := by omega
      have lw : ws.length = i := by rw [pair_len sv3]; exact lx
      -- come
      refine ⟨_, rfl, _, rfl, l, a, ns, high, rfl, d3, h0, h1, fun c H4 c0 c1 b4 d4 => ?_⟩
      obtain ⟨z3, hl3⟩ := d3.at
      have hL4 := b4 _ _ hL3 (Ne.symm nl1)
      have hR4 := b4 _ _ hR3 (Ne.symm nl2)
      have sv4 := sv3.but hl3 b4
      refine ⟨_, rfl, .inl ⟨rfl, _, SqL.of hR4⟩, _, rfl, .inl ⟨rfl, _, SqL.of hL4⟩, _, rfl, _, rfl, L, _, rfl, .inl (SqL.of hL4), ?_⟩
      rw [List.length_map]
      refine ⟨l, a, ns, (left.length : Nat), rfl, d4, by omega, by omega, fun q H5 q0 q1 b5 d5 => ?_⟩
      obtain ⟨z4, hl4⟩ := d4.at
      have hL5 := b5 _ _ hL4 (Ne.symm nl1)
      have hR5 := b5 _ _ hR4 (Ne.symm nl2)
      have sv5 := sv4.but hl4 b5
      obtain ⟨j, rfl⟩ : ∃ j : Nat, q = (j : Int) := ⟨q.toNat, by omega⟩
      have jl : j < left.length := by omega
      obtain ⟨g, hg⟩ : ∃ g, left[j]? = some g := ⟨_, List.getElem?_eq_getElem jl⟩
      have hgm : g ∈ left := List.mem_of_getElem? hg
      refine ⟨L, _, (j : Int), j, sg g, rfl, rfl, hL5, by omega, by omega, ?_, by rw [List.getElem?_map, hg]; rfl, ?_⟩
      · rw [List.length_map]
        exact seq_nat jl
      rw [map_erase]
      have bL : But L H5 (upd H5 L (.lst ((left.eraseIdx j).map sg))) := but_upd
      have sv6 := sv5.but hL5 bL
      have d6 := d5.to nl1 aL bL
      have hR6 := bL _ _ hR5 (Ne.symm nLR)
      have hL6 : (upd H5 L (.lst ((left.eraseIdx j).map sg))) L = some (.lst ((left.eraseIdx j).map sg)) := upd_same
      have b36 : ∀ b o, H3 b = some o → b ≠ l → b ≠ L → (upd H5 L (.lst ((left.eraseIdx j).map sg))) b = some o := fun b o e n1 n2 => bL _ _ (b5 _ _ (b4 _ _ e n1) n1) n2
      generalize upd H5 L (.lst ((left.eraseIdx j).map sg)) = H6 at *
      -- the other items of the tuple
      refine ⟨_, rfl, _, rfl, _, _, rfl, rfl, _, rfl, _, rfl, l, a, ns, high, rfl, d6, h0, h1, fun t H7 t0 t1 b7 d7 => ⟨_, _, rfl, rfl, by show 3 ≤ sizeLine; decide, fun p hp => ?_⟩⟩
      obtain ⟨z6, hl6⟩ := d6.at
      have s8 : Same H7 (upd H7 p (.tup [sg g, .int c, .int (c + 1 + t)])) := same_upd hp
      have hp8 : (upd H7 p (.tup [sg g, .int c, .int (c + 1 + t)])) p = some (.tup [sg g, .int c, .int (c + 1 + t)]) := upd_same
      have hR8 := s8 _ _ (b7 _ _ hR6 (Ne.symm nl2))
      have hL8 := s8 _ _ (b7 _ _ hL6 (Ne.symm nl1))
      have d8 := d7.same s8
      have sv8 := (sv6.but hl6 b7).same s8
      have b38 : ∀ b o, H3 b = some o → b ≠ l → b ≠ L → (upd H7 p (.tup [sg g, .int c, .int (c + 1 + t)])) b = some o := fun b o e n1 n2 => s8 _ _ (b7 _ _ (b36 _ _ e n1 n2) n1)
      generalize upd H7 p (.tup [sg g, .int c, .int (c + 1 + t)]) = H8 at *
      refine ⟨R, ws, _, rfl, rfl, hR8, ?_, ?_⟩
      · rw [lw]
        have : (i : Int) < r := by omega
        exact Nat.lt_of_lt_of_le (show i < 26 by omega) (by decide)
      · have bR : But R H8 (upd H8 R (.lst (ws ++ [.ref p]))) := but_upd
        have np : p ≠ R := fun z => by
          rw [z, hR8] at hp8
          cases hp8
        refine ⟨_, _, rfl, left.eraseIdx j, ws ++ [.ref p], xs ++ [(⟨#[g]⟩, c, c + 1 + t)], fun b o e nb => ?_, d8.to nl2 aR bR, bR _ _ hL8 nLR, upd_same, ?_, by simp [lx], ?_, ln.sublist (List.eraseIdx_sublist ..), fun d hd => lr d ((List.eraseIdx_sublist ..).subset hd), rows.snoc (lr g hgm) (fun x hx => sep x hx g hgm) c0 c1 t0 t1, fun x hx d hd => ?_⟩
        · have n1 : b ≠ L := ne_of_none e hL0
          have n2 : b ≠ R := ne_of_none e hR0
          exact bR _ _ (b38 _ _ (b3 _ _ e nb) nb n1) n2
        · exact paired_append (sv8.but hR8 bR) (.cons ⟨p, rfl, bR _ _ hp8 np⟩ .nil)
        · rw [List.length_eraseIdx, if_pos jl]
          omega
        · have hdl := (List.eraseIdx_sublist left j).subset hd
          rcases List.mem_append.mp hx with q | q
          · exact sep x q d hdl
          · rw [List.mem_singleton] at q
            subst q
            refine one_ne fun z => ?_
            subst z
            obtain ⟨i2, hi2, ne2, e2⟩ := List.mem_eraseIdx_iff_getElem.mp hd
            have e3 := (List.getElem?_eq_some_iff.mp hg).2
            exact ne2 ((List.getElem_inj ln).mp (e2.trans e3.symm))
    · rintro σ H3 ⟨o5, o6, rfl, left, ws, xs, b3, d3, hL3, hR3, sv3, lx, ll, ln, lr, rows, sep⟩
      refine ⟨_, rfl, k H3 R ws xs b3 d3 hR0 hR3 sv3 ?_ rows⟩
      rw [lx]
      omega
end
end Sh1
set_option Elab.async false
set_option linter.all false
set_option maxRecDepth 100000
set_option maxHeartbeats 2000000
set_option autoImplicit false
/-! Numbers of the law of whole lifting. -/
namespace Kb
open PySem L2 Sho NdefX Shg Sh1
theorem crossed_nm (rs : List Rw) : Sh1.crossed rs = (Pq.crossed rs).map fun q => (q.1.nm, q.2.nm) := by
  show (Pq.takers rs).flatMap (fun x => (lifted rs x).map fun y => (x.nm, y.nm)) = ((Pq.takers rs).flatMap fun x => (lifted rs x).map fun y => (x, y)).map fun q => (q.1.nm, q.2.nm)
  rw [List.map_flatMap]
  congr 1
  funext x
  rw [List.map_map]
  rfl
theorem one_taker (f : Rw → List Rw) : ∀ {l : List Rw} {r : Rw}, (l.map Rw.nm).Nodup → r ∈ l → (l.flatMap fun x => (f x).map fun y => (x, y)).filter (fun q => decide (q.1.nm = r.nm)) = (f r).map fun y => (r, y)
  | x :: l, r, nd, h => by
    rw [List.map_cons, List.nodup_cons] at nd
    rw [List.flatMap_cons, List.filter_append]
    have all : ∀ z : Rw, z.nm = r.nm → ((f z).map fun y => (z, y)).filter (fun q => decide (q.1.nm = r.nm)) = (f z).map fun y => (z, y) := fun z e => List.filter_eq_self.mpr fun q hq => by
      obtain ⟨y, _, rfl⟩ := List.mem_map.mp hq
      exact decide_eq_true e
    have non : ∀ z : Rw, z.nm ≠ r.nm → ((f z).map fun y => (z, y)).filter (fun q => decide (q.1.nm = r.nm)) = [] := fun z e => List.filter_eq_nil_iff.mpr fun q hq => by
      obtain ⟨y, _, rfl⟩ := List.mem_map.mp hq
      simp [e]
    rcases List.mem_cons.mp h with rfl | h
    · rw [all _ rfl]
      have : (l.flatMap fun x => (f x).map fun y => (x, y)).filter (fun q => decide (q.1.nm = r.nm)) = [] := List.filter_eq_nil_iff.mpr fun q hq => by
        obtain ⟨z, hz, hq⟩ := List.mem_flatMap.mp hq
        obtain ⟨y, _, rfl⟩ := List.mem_map.mp hq
        have : z.nm ≠ r.nm := fun e => nd.1 (List.mem_map.mpr ⟨z, hz, e⟩)
        simp [this]
      rw [this, List.append_nil]
    · rw [non x fun e => nd.1 (List.mem_map.mpr ⟨r, h, e.symm⟩), List.nil_append]
      exact one_taker f nd.2 h
theorem takers_perm (rs : List Rw) : (Pq.takers rs).Perm rs := by
  unfold Pq.takers
  refine (sortV_perm Rw.go _).trans ((List.reverse_perm _).trans (bot_perm rs))
theorem lifts_of {rs : List Rw} {r : Rw} (nd : (rs.map Rw.nm).Nodup) (h : r ∈ rs) : (Pq.crossed rs).filter (fun q => decide (q.1.nm = r.nm)) = (lifted rs r).map fun y => (r, y) :=
  one_taker (lifted rs) ((takers_perm rs).map Rw.nm |>.nodup_iff.mpr nd) ((takers_perm rs).mem_iff.mpr h)
/-- between two ticks the pile stays -/
theorem pile_same {rs : List Rw} {t t0 : Int} (h0 : t0 ≤ t) (h : ∀ k, (∃ r ∈ rs, r.come = k ∨ r.go = k) → k ≤ t → k ≤ t0) : Pq.pileOf rs t = Pq.pileOf rs t0 := by
  unfold Pq.pileOf
  refine List.filter_congr fun r hr => ?_
  have hr : r ∈ rs := bot_mem.mp hr
  have h1 := h r.come ⟨r, hr, .inl rfl⟩
  have h2 := h r.go ⟨r, hr, .inr rfl⟩
  have e1 : decide (r.come ≤ t) = decide (r.come ≤ t0) := decide_eq_decide.mpr ⟨h1, fun z => by omega⟩
  have e2 : decide (t < r.go) = decide (t0 < r.go) := decide_eq_decide.mpr ⟨fun z => by omega, fun z => Int.lt_of_not_ge fun y => by have := h2 y; omega⟩
  rw [e1, e2]
theorem pile_none {rs : List Rw} {t : Int} (h : ∀ k, (∃ r ∈ rs, r.come = k ∨ r.go = k) → ¬ k ≤ t) : Pq.pileOf rs t = [] := by
  unfold Pq.pileOf
  refine List.filter_eq_nil_iff.mpr fun r hr => ?_
  have := h r.come ⟨r, bot_mem.mp hr, .inl rfl⟩
  simp [this]
theorem last_le {l : List Int} {t : Int} (hs : l.Pairwise (· < ·)) : ∀ k ∈ l.filter (fun k => decide (k ≤ t)), ∀ z, (l.filter fun k => decide (k ≤ t)).getLast? = some z → k ≤ z := by
  intro k hk z hz
  have hs' := hs.filter (p := fun k => decide (k ≤ t))
  generalize l.filter (fun k => decide (k ≤ t)) = m at hk hz hs'
  clear hs
  induction m with
  | nil => cases hk
  | cons x m ih =>
    cases m with
    | nil =>
      have : z = x := by simpa using hz.symm
      have : k = x := by simpa using hk
      omega
    | cons y m =>
      rw [List.getLast?_cons_cons] at hz
      rw [List.pairwise_cons] at hs'
      rcases List.mem_cons.mp hk with rfl | hk
      · exact Int.le_of_lt (hs'.1 z (List.mem_of_getLast? hz))
      · exact ih hk hz hs'.2
theorem rows_ok {high : Int} {xs : List Stay} (h : Rows high xs) (len : xs.length ≤ 24) (h0 : high ≤ 100000000) : Valid xs ∧ Short xs := by
  have one : ∀ x ∈ xs, (x.1.length ≤ 100000 ∧ x.1.cps.all (· < 0x110000) = true) ∧ okName x.1 = true := fun x hx => by
    obtain ⟨c, e, c0, c1⟩ := h.one x hx
    rw [e]
    refine ⟨⟨by show 1 ≤ 100000; decide, ?_⟩, ?_⟩
    · show (#[c].all fun x => decide (x < 0x110000)) = true
      simp
      omega
    · have l1 : ({ cps := #[c] } : Str).length = 1 := rfl
      unfold okName letter
      rw [l1]
      simp
      omega
  refine ⟨⟨by omega, h.nd, fun x hx => ?_⟩, fun x hx => (one x hx).1⟩
  obtain ⟨t0, t1, t2, t3⟩ := h.tm x hx
  have t4 := (one x hx).2
  unfold okStay okTick
  simp only [Bool.and_eq_true, decide_eq_true_eq]
  exact ⟨t4, by omega⟩
theorem guest_me : ∀ {xs : List Stay} {x : Stay}, (xs.map fun y => y.1).Nodup → x ∈ xs → guest xs x.1 = some x
  | y :: ys, x, nd, h => by
    rw [List.map_cons, List.nodup_cons] at nd
    unfold guest
    rcases List.mem_cons.mp h with e | h'
    · rw [List.find?_cons, e]
      simp
    · have ih := guest_me nd.2 h'
      unfold guest at ih
      have ne : (y.1 == x.1) = false := by
        rw [Bool.eq_false_iff]
        intro q
        exact nd.1 (List.mem_map.mpr ⟨x, h', (eq_of_beq q).symm⟩)
      rw [List.find?_cons, ne]
      exact ih
theorem nm_nodup {xs : List Stay} (h : (xs.map fun x => x.1).Nodup) : ((xs.map rw3).map Rw.nm).Nodup := by
  rw [List.map_map]
  exact h
theorem rw_nodup {xs : List Stay} (h : (xs.map fun x => x.1).Nodup) : (xs.map rw3).Nodup := by
  have := nm_nodup h
  exact (List.pairwise_map.mp this).imp fun h e => h (congrArg _ e)
end Kb
set_option Elab.async false
set_option linter.all false
set_option maxRecDepth 100000
set_option maxHeartbeats 2000000
set_option autoImplicit false
/-! Who crosses whom among fewer guests: pairs of rows. -/
namespace Qu
open PySem L2 Sho NdefX Shg Sh1
theorem rw_nodup0 {rs : List Rw} (nd : (rs.map Rw.nm).Nodup) : rs.Nodup := (List.pairwise_map.mp nd).imp fun h z => h (by rw [z])
theorem two_cons {x y r : Rw} {l : List Rw} : [x, y].Sublist (r :: l) ↔ (r = x ∧ y ∈ l) ∨ [x, y].Sublist l := by
  constructor
  · intro h
    cases h with
    | cons _ h => exact .inr h
    | cons_cons _ h => exact .inl ⟨rfl, List.singleton_sublist.mp h⟩
  · rintro (⟨rfl, h⟩ | h)
    · exact (List.singleton_sublist.mpr h).cons₂ _
    · exact h.cons _
theorem two_mem {x y : Rw} {l : List Rw} (h : [x, y].Sublist l) : x ∈ l ∧ y ∈ l := ⟨h.mem List.mem_cons_self, h.mem (List.mem_cons_of_mem _ List.mem_cons_self)⟩
theorem above_two {x y : Rw} : ∀ {l : List Rw}, l.Nodup → (y ∈ above x l ↔ [x, y].Sublist l)
  | [], _ => ⟨fun h => (nomatch h), fun h => (nomatch h)⟩
  | r :: l, nd => by
    rw [List.nodup_cons] at nd
    rw [two_cons]
    unfold above
    by_cases e : r = x
    · rw [if_pos e]
      subst e
      exact ⟨fun h => .inl ⟨rfl, h⟩, fun h => h.elim (fun z => z.2) fun z => absurd (two_mem z).1 nd.1⟩
    · rw [if_neg e, above_two nd.2]
      exact ⟨.inr, fun h => h.elim (fun z => absurd z.1 e) id⟩
theorem two_or {x y : Rw} : ∀ {l : List Rw}, x ∈ l → y ∈ l → x ≠ y → [x, y].Sublist l ∨ [y, x].Sublist l
  | r :: l, hx, hy, n => by
    rcases List.mem_cons.mp hx with rfl | hx'
    · exact .inl (two_cons.mpr (.inl ⟨rfl, (List.mem_cons.mp hy).resolve_left fun z => n z.symm⟩))
    · rcases List.mem_cons.mp hy with rfl | hy'
      · exact .inr (two_cons.mpr (.inl ⟨rfl, hx'⟩))
      · exact (two_or hx' hy' n).imp (fun h => h.cons _) fun h => h.cons _
theorem two_not {x y : Rw} : ∀ {l : List Rw}, l.Nodup → [x, y].Sublist l → ¬ [y, x].Sublist l
  | [], _, h, _ => nomatch h
  | r :: l, nd, h1, h2 => by
    rw [List.nodup_cons] at nd
    rcases two_cons.mp h1 with ⟨rfl, a⟩ | a
    · rcases two_cons.mp h2 with ⟨rfl, b⟩ | b
      · exact nd.1 a
      · exact nd.1 (two_mem b).2
    · rcases two_cons.mp h2 with ⟨rfl, b⟩ | b
      · exact nd.1 (two_mem a).2
      · exact two_not nd.2 a b
theorem two_filter {x y : Rw} {p : Rw → Bool} (hx : p x = true) (hy : p y = true) {l : List Rw} : [x, y].Sublist (l.filter p) ↔ [x, y].Sublist l := by
  constructor
  · exact fun h => h.trans List.filter_sublist
  · intro h
    have := h.filter p
    rw [List.filter_cons_of_pos hx, List.filter_cons_of_pos hy, List.filter_nil] at this
    exact this
theorem bot_two {rs : List Rw} (nd : rs.Nodup) {x y : Rw} : [x, y].Sublist (bot rs) ↔ x ∈ rs ∧ y ∈ rs ∧ x ≠ y ∧ (x.come < y.come ∨ (x.come = y.come ∧ [x, y].Sublist rs)) := by
  have nb : (bot rs).Nodup := (bot_perm rs).nodup_iff.mpr nd
  have srt : ∀ {a b : Rw}, [a, b].Sublist (bot rs) → a.come ≤ b.come := fun {a b} h => by
    have := (bot_sorted rs).sublist h
    exact (List.pairwise_cons.mp this).1 b List.mem_cons_self
  have eqc : x.come = y.come → ([x, y].Sublist (bot rs) ↔ [x, y].Sublist rs) := fun e => by
    rw [← two_filter (p := fun r => decide (r.come = x.come)) (decide_eq_true rfl) (decide_eq_true e.symm) (l := bot rs), Pq.bot_filter, two_filter (decide_eq_true rfl) (decide_eq_true e.symm)]
  constructor
  · intro h
    obtain ⟨m1, m2⟩ := two_mem h
    have ne : x ≠ y := fun z => by
      subst z
      exact two_not nb h h
    refine ⟨bot_mem.mp m1, bot_mem.mp m2, ne, ?_⟩
    have := srt h
    by_cases e : x.come = y.come
    · exact .inr ⟨e, (eqc e).mp h⟩
    · exact .inl (by omega)
  · rintro ⟨m1, m2, ne, h | ⟨e, h⟩⟩
    · rcases two_or (bot_mem.mpr m1) (bot_mem.mpr m2) ne with z | z
      · exact z
      · have := srt z
        omega
    · exact (eqc e).mpr h
theorem sub_two {ys rs : List Rw} (s : ys.Sublist rs) (nd : rs.Nodup) {x y : Rw} (hx : x ∈ ys) (hy : y ∈ ys) : [x, y].Sublist ys ↔ [x, y].Sublist rs := by
  constructor
  · exact fun h => h.trans s
  · intro h
    have ne : x ≠ y := fun z => by
      subst z
      exact two_not nd h h
    rcases two_or hx hy ne with z | z
    · exact z
    · exact absurd (z.trans s) (two_not nd h)
theorem crossed_two {rs : List Rw} (nd : rs.Nodup) {a b : Str} : (a, b) ∈ crossed rs ↔ ∃ x y, [x, y].Sublist (bot rs) ∧ x.nm = a ∧ y.nm = b ∧ y.come < x.go ∧ x.go < y.go := by
  have nb : (bot rs).Nodup := (bot_perm rs).nodup_iff.mpr nd
  unfold crossed
  rw [List.mem_flatMap]
  constructor
  · rintro ⟨x, hx, h⟩
    obtain ⟨y, hy, e⟩ := List.mem_map.mp h
    cases e
    unfold lifted at hy
    obtain ⟨h1, h2⟩ := List.mem_filter.mp hy
    unfold crosses at h2
    rw [Bool.and_eq_true, decide_eq_true_iff, decide_eq_true_iff] at h2
    exact ⟨x, y, (above_two nb).mp (List.mem_reverse.mp h1), rfl, rfl, h2⟩
  · rintro ⟨x, y, h, rfl, rfl, h2⟩
    refine ⟨x, (Kb.takers_perm rs).mem_iff.mpr (bot_mem.mp (two_mem h).1), List.mem_map.mpr ⟨y, ?_, rfl⟩⟩
    unfold lifted crosses
    refine List.mem_filter.mpr ⟨List.mem_reverse.mpr ((above_two nb).mpr h), ?_⟩
    rw [Bool.and_eq_true, decide_eq_true_iff, decide_eq_true_iff]
    exact h2
theorem sub_bot {ys rs : List Rw} (s : ys.Sublist rs) (nd : rs.Nodup) {x y : Rw} (hx : x ∈ ys) (hy : y ∈ ys) : [x, y].Sublist (bot ys) ↔ [x, y].Sublist (bot rs) := by
  rw [bot_two (nd.sublist s), bot_two nd, sub_two s nd hx hy]
  exact ⟨fun ⟨_, _, h⟩ => ⟨s.mem hx, s.mem hy, h⟩, fun ⟨_, _, h⟩ => ⟨hx, hy, h⟩⟩
theorem nm_inj {rs : List Rw} (nd : (rs.map Rw.nm).Nodup) {x y : Rw} (hx : x ∈ rs) (hy : y ∈ rs) (e : x.nm = y.nm) : x = y := by
  obtain ⟨i, hi⟩ := List.getElem?_of_mem hx
  obtain ⟨j, hj⟩ := List.getElem?_of_mem hy
  have l1 := (List.getElem?_eq_some_iff.mp hi).1
  have : i = j := (List.getElem?_inj (by rw [List.length_map]; exact l1) nd).mp (by rw [List.getElem?_map, List.getElem?_map, hi, hj]; exact congrArg some e)
  subst this
  rw [hi] at hj
  exact Option.some.inj hj
theorem sub_crossed {ys rs : List Rw} (s : ys.Sublist rs) (nd : (rs.map Rw.nm).Nodup) {a b : Str} (ha : a ∈ ys.map Rw.nm) (hb : b ∈ ys.map Rw.nm) : (a, b) ∈ crossed ys ↔ (a, b) ∈ crossed rs := by
  have ndr : rs.Nodup := rw_nodup0 nd
  rw [crossed_two (ndr.sublist s), crossed_two ndr]
  constructor
  · rintro ⟨x, y, h, e⟩
    obtain ⟨m1, m2⟩ := two_mem h
    exact ⟨x, y, (sub_bot s ndr (bot_mem.mp m1) (bot_mem.mp m2)).mp h, e⟩
  · rintro ⟨x, y, h, rfl, rfl, e⟩
    obtain ⟨m1, m2⟩ := two_mem h
    obtain ⟨x', hx', e1⟩ := List.mem_map.mp ha
    obtain ⟨y', hy', e2⟩ := List.mem_map.mp hb
    have := nm_inj nd (s.mem hx') (bot_mem.mp m1) e1
    subst this
    have := nm_inj nd (s.mem hy') (bot_mem.mp m2) e2
    subst this
    exact ⟨x', y', (sub_bot s ndr hx' hy').mpr h, rfl, rfl, e⟩
end Qu
set_option Elab.async false
set_option linter.all false
set_option maxRecDepth 100000
set_option maxHeartbeats 2000000
/-! Parties without stays and of one. -/
namespace Sh1
open PySem L2 Sho NdefX
theorem ins_party {C : Addr} {H : Hp} {p : Addr} {xs : List Stay} (h : PartyAt C H p xs) : InsAt H p C := by
  obtain ⟨dx, a, ws, h1, _⟩ := h
  exact ⟨dx, _, h1⟩
theorem Valid.take {xs : List Stay} (h : Valid xs) (n : Nat) : Valid (xs.take n) :=
  ⟨Nat.le_trans (List.length_take_le' ..) h.len, h.nd.sublist (List.Sublist.map _ (List.take_sublist ..)), fun x hx => h.ok x (List.mem_of_mem_take hx)⟩
theorem Valid.one {x : Stay} (h : okStay x.1 x.2.1 x.2.2 = true) : Valid [x] :=
  ⟨by simp, by simp, fun y hy => by rw [List.mem_singleton] at hy; rw [hy]; exact h⟩
theorem Short.take {xs : List Stay} (h : Short xs) (n : Nat) : Short (xs.take n) := fun x hx => h x (List.mem_of_mem_take hx)
theorem new0 {C CI : Addr} {E : XK} {σ : L2.St} {H : Hp} {Q : VK} (h : ∀ (p : Addr) (H' : Hp), Same H H' → H p = none → PartyAt C H' p [] → Q (.ref p) H') : StX.tMakeR C (spPNew C CI) E tNil σ H Q := by
  intro x0 d0 n1 n2 n3
  exact party_new (C := C) (CI := CI) (H := H) (xs := []) (ys := []) .nil (by intro x hx; cases hx) (Nat.zero_le _) (fun _ => h) (fun i hi => nomatch hi) x0 d0 n1 n2 n3
theorem new1 {C CI : Addr} {E : XK} {σ : L2.St} {H : Hp} {Q : VK} {i : Nat} {v : V} {x : Stay} (e : σ[i]? = some (some v)) (hv : StayV H v x) (hs : Short [x]) (h : Making C CI H [x] Q E) : StX.tMakeR C (spPNew C CI) E (tCons (tVar i) tNil) σ H Q :=
  ⟨v, e, party_new (C := C) (CI := CI) (H := H) (xs := [x]) (ys := [v]) (.cons hv .nil) hs (by show 1 ≤ sizeLine; decide) h.1 h.2⟩
end Sh1
set_option Elab.async false
set_option linter.all false
set_option maxRecDepth 100000
set_option maxHeartbeats 2000000
/-! Operators of Party with a text or an int. -/
namespace Sh1
open PySem L2 Sho NdefX
section
variable {P : Program} {w : World} {K : PySem.W.Frag} {mg : Str → Option Value} {base : Heap}
/-- what an operator of Party with a text or an int asks of the written part -/
structure OpC (K : PySem.W.Frag) (C : Addr) (op rop : Str) (T : String) (f : Addr) : Prop where
  one : PySem.W.findIn K (.ref C) op = some (some (.ref f))
  fn : PySem.W.isFn K (.ref f) = true
  r : ∃ rc, PySem.W.findIn K (.ref C) rop = some rc ∧ (rc = none ∨ ∃ g : Addr, rc = some (.ref g))
  t1 : ∃ fo, PySem.W.findIn K (.type T) op = some fo
  t2 : ∃ ro, PySem.W.findIn K (.type T) rop = some ro
  sub : PySem.W.subIn K (.type T) (.ref C) = some false
theorem sub_str {X : Cx} {CX : CXT} {k : Nat} {f C : Addr} {sp : Sp} {E : XK} (F : FnR X.prog X.w X.K X.mg X.base CX k f sp) (hr : Room k X.A) (hx : Passes CX X E) (hc : PySem.W.selfFirst X.K C = true) (O : OpC X.K C "__sub__" "__rsub__" "str" f) :
    OpR X (binaryOp .Sub) (rOwnT C sp E isStr) := by
  obtain ⟨rc, r1, r2⟩ := O.r
  obtain ⟨fo, t1⟩ := O.t1
  obtain ⟨ro, t2⟩ := O.t2
  exact op_ownT (op := .Sub) (T := "str") F hr hx hc ty_str O.one O.fn r1 r2 t1 t2 O.sub
theorem shift_int {X : Cx} {CX : CXT} {k : Nat} {f C : Addr} {sp : Sp} {E : XK} (F : FnR X.prog X.w X.K X.mg X.base CX k f sp) (hr : Room k X.A) (hx : Passes CX X E) (hc : PySem.W.selfFirst X.K C = true) (O : OpC X.K C "__rshift__" "__rrshift__" "int" f) :
    OpR X (binaryOp .RShift) (rOwnT C sp E isInt) := by
  obtain ⟨rc, r1, r2⟩ := O.r
  obtain ⟨fo, t1⟩ := O.t1
  obtain ⟨ro, t2⟩ := O.t2
  exact op_ownT (op := .RShift) (T := "int") F hr hx hc ty_int O.one O.fn r1 r2 t1 t2 O.sub
end
end Sh1
set_option Elab.async false
set_option linter.all false
set_option maxRecDepth 100000
set_option maxHeartbeats 2000000
set_option autoImplicit false
/-! The state of the draws (K1j0) with the tables of code, through what changes beside it. -/
namespace Dw
open PySem L2 Sho NdefX Shg Sh1
structure St (K : PySem.W.Frag) (T : List (Addr × Str)) (l a : Addr) (ns : List Int) (H : Hp) : Prop where
  d : DrawSt K H l a ns
  t : LamX.Tabs T H
section
variable {K : PySem.W.Frag} {T : List (Addr × Str)} {l a : Addr} {ns : List Int} {H H' H0 H1 : Hp}
theorem ne_at {b c : Addr} {H : Hp} {o u : HO} (h1 : H b = some o) (h2 : H c = some u) (n : u ≠ o) : c ≠ b := fun z => by
  rw [z, h1] at h2
  exact n (Option.some.inj h2).symm
theorem tabs_b {l : Addr} {H H' : Hp} {zs : List V} {T : List (Addr × Str)} (hl : H l = some (.lst zs)) (e : But l H H') (t : LamX.Tabs T H) : LamX.Tabs T H' := fun p hp => by
  obtain ⟨qs, q1, q2, q3⟩ := t p hp
  refine ⟨qs, e _ _ q1 (ne_at hl q1 fun z => nomatch z), q2, fun p' cv h => ?_⟩
  obtain ⟨c, e1, e2⟩ := q3 p' cv h
  exact ⟨c, e1, e _ _ e2 (ne_at hl e2 fun z => nomatch z)⟩
theorem sql_e {a : Addr} {xs : List V} (e : LamX.ExtN H H') (h : SqL K H a xs) : SqL K H' a xs := by
  rcases h with (h | ⟨o, h⟩) | h
  · exact .inl (.inl (e _ _ h fun _ z => nomatch z))
  · exact .inl (.inr ⟨o, e _ _ h fun _ z => nomatch z⟩)
  · exact .inr h
theorem draw_ext (d : DrawSt K H l a ns) (e : LamX.ExtN H H') : DrawSt K H' l a ns := by
  obtain ⟨⟨p, s, r, h, k⟩, sc, len⟩ := d
  exact ⟨⟨p, s, r, e _ _ h (fun _ z => nomatch z), k⟩, sql_e e sc, len⟩
theorem draw_at (d : DrawSt K H l a ns) : ∃ zs, H l = some (.lst zs) := by
  obtain ⟨⟨_, _, _, h, _⟩, _, _⟩ := d
  exact ⟨_, h⟩
theorem St.at (s : St K T l a ns H) : ∃ zs, H l = some (.lst zs) := draw_at s.d
theorem St.grows (s : St K T l a ns H) (g : Grows T H H') : St K T l a ns H' := ⟨draw_ext s.d g.ext, g.tab s.t⟩
theorem St.same (s : St K T l a ns H) (e : Same H H') : St K T l a ns H' := ⟨draw_ext s.d (LamX.ExtN.of e), LamX.Tabs.ext s.t e⟩
theorem St.draw (s : St K T l a ns H) (b : But l H H') (d : DrawSt K H' l a ns) : St K T l a ns H' := by
  obtain ⟨zs, hl⟩ := s.at
  exact ⟨d, tabs_b hl b s.t⟩
theorem St.ne (s : St K T l a ns H) {p : Addr} (h : H p = none) : p ≠ l := by
  obtain ⟨zs, hl⟩ := s.at
  exact fun z => by rw [z, hl] at h; cases h
theorem but_upd0 {p : Addr} {o : HO} (b : But l H0 H1) (h : H0 p = none) : But l H0 (upd H1 p o) := fun c u e n => by
  rw [upd_ne (ne_of_none e h)]
  exact b c u e n
theorem but_same (b : But l H0 H1) (s : Same H1 H') : But l H0 H' := b.trans (But.of s)
theorem draw_upd {p : Addr} {o : HO} (s : St K T l a ns H0) (b : But l H0 H1) (d : DrawSt K H1 l a ns) (h : H0 p = none) : DrawSt K (upd H1 p o) l a ns := by
  obtain ⟨⟨p', s', r, e, k⟩, sc, len⟩ := id d
  obtain ⟨⟨_, _, _, e0, _⟩, sc0, _⟩ := s.d
  exact ⟨⟨p', s', r, by rw [upd_ne (Ne.symm (s.ne h))]; exact e, k⟩, sql_but e0 sc0 (but_upd0 b h), len⟩
theorem St.to {p : Addr} {o : HO} (s : St K T l a ns H0) (b : But l H0 H1) (d : DrawSt K H1 l a ns) (h : H0 p = none) : St K T l a ns (upd H1 p o) :=
  s.draw (but_upd0 b h) (draw_upd s b d h)
theorem at_mem {xs : List V} {r : Int} (h0 : 0 ≤ r) (h1 : r < xs.length) : ∃ z, z ∈ xs ∧ atI xs r = some z := by
  obtain ⟨k, rfl⟩ : ∃ k : Nat, r = k := ⟨r.toNat, by omega⟩
  have lt : k < xs.length := by omega
  exact ⟨xs[k], List.getElem_mem lt, atI_nat (List.getElem?_eq_getElem lt)⟩
theorem ifs_join {c : TT} {A B u : TS} {D : Ends} {σ : L2.St} {H : Hp} (P : L2.St → Hp → Prop) (h1 : ∀ N : L2.St → Hp → Prop, (∀ σ' H', P σ' H' → N σ' H') → c σ H fun b H1 => if b = true then A { D with nx := N } σ H1 else B { D with nx := N } σ H1) (h2 : ∀ σ' H', P σ' H' → u D σ' H') : tSeq (tIfS c A B) u D σ H := h1 _ h2
end
end Dw
namespace Shg
open PySem
theorem pair_take {α β : Type} {R : α → β → Prop} : ∀ {as : List α} {bs : List β} (k : Nat), PySem.Paired R as bs → PySem.Paired R (as.take k) (bs.take k)
  | _, _, k, .nil => by rw [List.take_nil, List.take_nil]; exact .nil
  | _, _, 0, .cons _ _ => .nil
  | _, _, k + 1, .cons h r => .cons h (pair_take k r)
theorem pair_drop {α β : Type} {R : α → β → Prop} : ∀ {as : List α} {bs : List β} (k : Nat), PySem.Paired R as bs → PySem.Paired R (as.drop k) (bs.drop k)
  | _, _, k, .nil => by rw [List.drop_nil, List.drop_nil]; exact .nil
  | _, _, 0, .cons h r => .cons h r
  | _, _, k + 1, .cons _ r => pair_drop k r
end Shg
set_option Elab.async false
set_option linter.all false
set_option maxRecDepth 100000
set_option maxHeartbeats 4000000
/-! set(list of ints). -/
namespace Shg
open PySem PySem.Spec PyProof.Rows L2
abbrev nset (w : World) : Obj := { cls := .type "set", dict := none, data := .set #[] 0 (.fresh 0 0 (!w.params.followText "set-order")) }
section
variable {P : Program} {w : World} {A : Around} {E : Value → Shared → Prop} {s : Shared}
set_option maxHeartbeats 3200000 in
theorem set_of_list {b : Addr} {vals : Array Value} (zs : List Int) {G : Value → Shared → Prop} (nh : A.handled = none) (lst : s.heap.IsList b vals) (areI : IntsAre vals.toList zs) (few : zs.length + 1 < scanBound)
    (got : ∀ (hp : Heap) (t n : Nat), SetR w hp s.heap.objs.size (fun j => decide (j ∈ zs)) n → n ≤ zs.length → (∀ a o, s.heap.get? a = some o → hp.get? a = some o) → G (.ref s.heap.objs.size) { s with heap := hp, toks := t }) :
    wpAny (model P w) A (call (.type "set") [.ref b]) G E s := by
  have len : vals.size = zs.length := (Array.length_toList (xs := vals)).symm.trans (IntsAre.length areI)
  obtain ⟨c0, tl0, mro0⟩ := F.called_set.mro
  have q1 := F.called_set.made
  have q2 := F.called_set.sub
  have q3 := F.called_set.notType
  have q4 := F.called_set.canCreate
  have q5 := F.typeCall_set_1 (.ref b)
  refine wpAny_call (codeAny_of_tree (wpAny_pure ⟨Code.quiet_builtin _ (by decide +kernel), codeAny_builtin F.entry_type_call ?_⟩))
  rw [Around.under_plain (weight_type_call_type "set" [.ref b] []) rfl]
  repeat (any_goals (first | assumption | wp_step))
  refine codeAny_mono (code_set_led1 (.ref b) (E := E) (Q₁ := fun x s1 => x = .ref s.heap.objs.size ∧ s1 = { s with heap := s.heap.push (nset w) }) ⟨rfl, rfl⟩) fun r s1 hr => ?_
  rcases r with e | fl
  · exact hr
  cases fl with
  | ret x =>
    obtain ⟨rfl, rfl⟩ := hr
    have there : (s.heap.push (nset w)).get? s.heap.objs.size = some (nset w) := Heap.get?_push_size _ rfl
    have isset : Shared.TypeIs { s with heap := s.heap.push (nset w) } (.ref s.heap.objs.size) "set" := ⟨_, there, rfl⟩
    have i1 := F.called_set.init.lookup
    have i2 := F.called_set.init.bind (.ref s.heap.objs.size)
    repeat (any_goals (first | assumption | wp_step))
    refine codeAny_mono (codeAny_call_builtin (R := wants (fun r s2 => r = .none ∧ ∃ hp t n, s2 = { s with heap := hp, toks := t } ∧ SetR w hp s.heap.objs.size (fun j => decide (j ∈ zs)) n ∧ n ≤ zs.length ∧ (∀ a o, s.heap.get? a = some o → hp.get? a = some o)) E)
      F.called_set.init.plain F.entry_set_init (check_set_init_1 isset ?_)) fun r2 s2 hr2 => ?_
    · obtain ⟨ob, hob, cl, nb, dt⟩ := lst
      obtain ⟨ob1, ob2, ob3, ob4⟩ := ob
      simp only at cl dt
      subst cl dt
      have hob' : (s.heap.push (nset w)).get? b = some { cls := .type "list", dict := ob2, data := .seq vals nb, slots := ob4 } := Heap.get?_push_of_some _ hob
      have n1 := F.sub_list_set
      have n2 := F.sub_list_frozenset
      have n3 : (Value.type "list" == Value.type "dict") = false := by decide
      have lst' : (s.heap.push (nset w)).IsList b vals := ⟨_, hob', rfl, nb, rfl⟩
      unfold Builtin.«set.__init__» noKeywords Builtin.Frozenset.updateFrom
      generalize hit : pyIter = IT
      wp_walk
      subst hit
      refine wpAny_pyIter_list lst' (wpAny_bind (wpAny_runValue ?_))
      have old : b < s.heap.objs.size := Heap.lt_size hob
      have sz : (s.heap.push (nset w)).objs.size = s.heap.objs.size + 1 := Heap.size_push ..
      have nh3 : A.in1.in1.in1.handled = none := by simp [nh]
      have ne1 : b ≠ (s.heap.push (nset w)).objs.size := by
        rw [sz]
        exact Nat.ne_of_lt (Nat.lt_succ_of_lt old)
      have ne2 : s.heap.objs.size ∉ [(s.heap.push (nset w)).objs.size, b] := by
        rw [sz]
        simp only [List.mem_cons, List.not_mem_nil, or_false, not_or]
        exact ⟨Nat.ne_of_lt (Nat.lt_succ_self _), Nat.ne_of_gt old⟩
      have each : ∀ (i : Nat) (v : Value), vals[i]? = some v → ∃ k t, zs[i]? = some k ∧ v = .int k t := fun i v hv => by
        have hi : i < zs.length := len ▸ (Array.getElem?_eq_some_iff.mp hv).1
        obtain ⟨t, e⟩ := PyProof.Rows.IntsAre.int_at areI i v ((Array.getElem?_toList ..).trans hv)
        exact ⟨zs[i], t, List.getElem?_eq_getElem hi, by rw [e, List.getD_eq_getElem?_getD, List.getElem?_eq_getElem hi] <;> rfl⟩
      refine set_update_ints ((Walks.list nh3 _ b ne1 vals).toS) s.heap.objs.size ne2 zs len few each (vals.size - 0) 0 _ (by omega) (Nat.zero_le _) ⟨⟨_, Heap.get?_push_size _ rfl, rfl, rfl⟩, (lst'.push _)⟩ ⟨0, Nat.le_refl 0, setR_new_at (Heap.get?_push_of_some _ there)⟩ fun s3 n mv le R => ?_
      obtain ⟨hp, g3, d3, t3, o3⟩ := s3
      obtain rfl : g3 = s.gens := mv.gens
      obtain rfl : d3 = s.drawn := mv.drawn
      obtain rfl : o3 = s.os := mv.os
      refine wpAny_pure (wpAny_pure ⟨rfl, hp, t3, n, rfl, R, len ▸ le, fun a o e => ?_⟩)
      have la : a < s.heap.objs.size := Heap.lt_size e
      refine mv.heap a o ?_ (Heap.get?_push_of_some _ (Heap.get?_push_of_some _ e))
      rw [sz]
      simp only [List.mem_cons, List.not_mem_nil, or_false, not_or]
      exact ⟨Nat.ne_of_lt la, Nat.ne_of_lt (Nat.lt_succ_of_lt la)⟩
    · rcases r2 with e | f2
      · exact hr2
      cases f2 with
      | ret r =>
        obtain ⟨rfl, hp, t, n, rfl, R, le, kp⟩ := hr2
        repeat (any_goals (first | assumption | wp_step))
        exact got _ _ _ R le kp
      | _ => exact hr2.elim
  | _ => exact hr.elim
end
/-- set(list of ints): a new set of them -/
def rSetL (K : PySem.W.Frag) (w : World) : List V → Hp → VK → Prop := fun vs H Q => ∃ (a : Addr) (ns : List Int), vs = [.ref a] ∧ SqL K H a (ns.map V.int) ∧ ns.length ≤ 1000 ∧
  ∀ (p : Addr) (n : Nat), H p = none → n ≤ ns.length → Q (.ref p) (upd H p (SetO w p (fun j => decide (j ∈ ns)) n))
theorem cr_setL {X : Cx} (hc : X.calm = true) : CallR X (.type "set") (rSetL X.K X.w) := by
  intro pins s σ H vs us Q I r h
  obtain ⟨a, ns, rfl, ha, hl, q⟩ := h
  rw [Vals.ref1 r]
  obtain ⟨its, rv, pl, _⟩ := I.list ha
  refine set_of_list ns (I.ok.hd hc) pl.isList (intsAre_of rv) (by unfold scanBound; omega) fun hp t n R le kp => ?_
  exact ⟨.ref s.heap.objs.size, upd H s.heap.objs.size (SetO X.w s.heap.objs.size (fun j => decide (j ∈ ns)) n), I.laid (t' := t) kp (Nat.le_refl _) (setO_new R), rfl, q _ n (I.hok.fresh (Nat.le_refl _)) le⟩
end Shg
set_option Elab.async false
set_option linter.all false
set_option maxRecDepth 100000
set_option maxHeartbeats 2000000
/-! xs[::e], where e gives minus one. -/
namespace Shg
open PySem PySem.Spec PyProof.Rows L2
/-- te: the list; ts: the step, which must be -1 -/
def tRevE (K : PySem.W.Frag) (te : TE) (ts : TO) : TE := fun σ H Q => te σ H fun x H1 => ts σ H1 fun o H2 => o = some (-1) ∧ ∃ a xs, x = .ref a ∧ SqL K H2 a xs ∧ ∀ p, H2 p = none → Q (.ref p) (upd H2 p (.lst xs.reverse))
theorem pe_revE {X : Cx} {e st : Expr} {te : TE} {ts : TO} {pp pos : Pos} (he : PE X e te) (hst : PO X (some st) ts) : PE X (.Subscript e (.Slice none none (some st) pp) pos) (tRevE X.K te ts) := by
  refine ⟨fun pins s σ H Q I h => Subscript_ (thn (he.run pins s σ H _ I h) fun v sa ⟨x, Ha, Ia, ra, qa⟩ => ?_)⟩
  refine wpAny_Slice (thn (po_none.run pins sa σ Ha (fun o G => o = none ∧ G = Ha) Ia ⟨rfl, rfl⟩) fun va sb ⟨oa, Hb, Ib, pa, za, zb⟩ => ?_)
  obtain rfl := za
  obtain rfl := zb
  refine thn (po_none.run pins sb σ Hb (fun o G => o = none ∧ G = Hb) Ib ⟨rfl, rfl⟩) fun vb sc ⟨ob, Hc, Ic, pb, zc, zd⟩ => ?_
  obtain rfl := zc
  obtain rfl := zd
  refine thn (hst.run pins sc σ Hc _ Ic qa) fun vc sd ⟨oc, Hd, Id, pc, zo, a, xs, zx, hx, q⟩ => ?_
  subst zo zx
  cases ra
  have Ie : Inv X pins σ Hd { sd with heap := sd.heap.push { cls := .type "slice", data := .fields #[va, vb, vc] } } := Id.kept (t' := sd.toks) fun _ _ z => Heap.get?_push_of_some _ z
  obtain ⟨its, rv, pl, hz⟩ := Ie.list hx
  have len := rv.length
  show wpAny (model X.prog X.w) X.A (subscriptTail e (.Slice none none (some st) pp) (.ref a) (.ref sd.heap.objs.size)) (EP X pins σ Q) X.xe _
  refine tail_any (ops := [.ref a, .ref sd.heap.objs.size]) pl.isList.typeIs (PySem.slot_list_getitem.lookup) ?_ (by with_unfolding_all rfl)
  refine wpAny_getItem_list_slice pl.isList (Heap.IsSliceOf.new _ va vb vc) pa pb pc (by decide) ?_ (by rw [List.size_toArray]; omega)
  rw [PySem.W.krv_pick]
  exact ⟨.ref _, _, Ie.laid (t' := sd.toks) (o := .lst xs.reverse) (fun _ _ z => Heap.get?_push_of_some _ z) (Nat.le_refl _) ⟨by rw [List.length_reverse]; exact hz, _, 0, rv.reverse, Heap.get?_push_size _ rfl⟩, rfl, q _ (Ie.hok.fresh (Nat.le_refl _))⟩
end Shg
set_option Elab.async false
set_option linter.all false
set_option maxRecDepth 100000
set_option maxHeartbeats 2000000
/-! sorted(a set of ints), up to a thousand of them. -/
namespace Shg
open PySem PySem.Spec PyProof.Rows L2 SrtO
section
variable {P : Program} {w : World} {A : Around} {E : Value → Shared → Prop} {s : Shared} {a : Addr}
theorem sorted_setW {M : Int → Bool} {n : Nat} {Q : Value → Shared → Prop} (R : SetR w s.heap a M n) (hd0 : A.handled = none) (few : n ≤ 1000)
    (fin : ∀ s' p (out : List Value) (c : Nat) (ks : List Int), (∀ b o, s.heap.get? b = some o → s'.heap.get? b = some o) → s'.gens = s.gens → s'.os = s.os → s.heap.objs.size ≤ p →
      s'.heap.get? p = some (seqObj "list" out.toArray c) → IntsAre out ks → ks.Pairwise (· < ·) → (∀ k, k ∈ ks ↔ M k = true) → ks.length = n → Q (.ref p) s') :
    wpAny (model P w) A (call (.builtin "sorted") [.ref a]) Q E s := by
  obtain ⟨o, es, ep, t, ho, hex, hd, each, nodup, mem, hb, hf, hn, hr, hl⟩ := R
  refine Calls.call_function_entry kind_sorted plain_sorted entry_sorted (args_sorted1 _) ?_
  unfold Builtin.«sorted»
  refine wpAny_bind (m := checkCount "sorted" 1 1 _) (wpAny_pure (wpAny_bind (collect_set (A := A.in1) hd0 ⟨o, ho, hex.1, hd⟩ hf hb hr hl fun s1 us kept sz gens os perm => ?_)))
  have len : us.length = n := (perm.length_eq.trans (List.length_map ..)).trans ((Array.length_toList).trans hn)
  have are : IntsAre us (us.map Builtin.Re.reRawOf) := ints_of us fun v hv => by
    obtain ⟨e, he, q⟩ := List.mem_map.mp (perm.mem_iff.mp hv)
    obtain ⟨k, tk, h1, _⟩ := each e he
    exact ⟨k, tk, q.symm.trans h1⟩
  have keys : (us.map Builtin.Re.reRawOf).Perm (es.toList.map keyOf) := by
    have := perm.map Builtin.Re.reRawOf
    rwa [List.map_map] at this
  have line : us.length ≤ sizeLine := by rw [len, sizeLine_eq]; omega
  refine wpAny_bind (wpAny_newList ?_ line)
  have new : (s1.heap.push (seqObj "list" us.toArray 0)).get? s1.heap.objs.size = some (seqObj "list" us.toArray 0) := Heap.get?_push_size _ rfl
  refine wpAny_bind (wpAny_holding (wpAny_call_entry slot_list_sort ⟨_, new, rfl⟩ entry_list_sort (list_sort_ord swo_int new line (fun h2 => ints_sortable are h2) fun out h1 h2 => ⟨_, rfl, ?_⟩) (args_list_sort _)))
  obtain ⟨k1, k2, k3⟩ := ints_out are h1 h2
  obtain ⟨c, hc⟩ := sortedHeap_at (vs := us) (out := out.toArray) new
  have all : (out.map iv).Perm (es.toList.map keyOf) := k2.trans keys
  refine wpAny_pure ⟨_, rfl, fin _ s1.heap.objs.size out c (out.map iv) (fun b u e => ?_) gens os sz hc k1 (lt_of_le_nodup _ k3 (all.nodup_iff.mpr nodup)) (fun k => by rw [all.mem_iff, ← mem k]) ?_⟩
  · have q := kept b u e
    have lt := Heap.lt_size q
    show (sortedHeap (s1.heap.push (seqObj "list" us.toArray 0)) s1.heap.objs.size us out.toArray).get? b = some u
    rw [sortedHeap_old (Nat.ne_of_lt lt) (Nat.lt_of_lt_of_le lt (by rw [Heap.size_push]; exact Nat.le_succ _))]
    exact Heap.get?_push_of_some _ q
  · rw [all.length_eq, List.length_map, Array.length_toList]
    exact hn
end
def rSortedSetW (w : World) : List V → Hp → VK → Prop := fun vs H Q => ∃ (a : Addr) (M : Int → Bool) (n : Nat), vs = [V.ref a] ∧ H a = some (SetO w a M n) ∧ n ≤ 1000 ∧
  ∀ (ks : List Int) (p : Addr), ks.Pairwise (· < ·) → (∀ k : Int, k ∈ ks ↔ M k = true) → ks.length = n → H p = none → Q (.ref p) (upd H p (.lst (ks.map V.int)))
theorem cr_sortedSetW {X : Cx} (hc : X.calm = true) : CallR X (.builtin "sorted") (rSortedSetW X.w) := by
  intro pins s σ H vs us Q I r h
  obtain ⟨a, M, n, rfl, ha, few, q⟩ := h
  rw [Vals.ref1 r]
  refine sorted_setW (setO_get I ha) (I.ok.hd hc) few fun s' p out c ks kept gens os hp at_ are rise mem len => ?_
  have line : (ks.map V.int).length ≤ sizeLine := by rw [List.length_map, len, sizeLine_eq]; omega
  have free : H p = none := I.hok.fresh hp
  refine ⟨.ref p, _, I.call' (ch := []) (H' := upd H p (.lst (ks.map V.int))) os (Un.laid kept hp free) (I.hok.laid kept hp ⟨line, out, c, vals_of_ints are, at_⟩) (by rw [gens]; exact I.bare) (fun _ z => nomatch z), rfl, q ks p rise mem len free⟩
end Shg
set_option Elab.async false
set_option linter.all false
set_option maxRecDepth 100000
set_option maxHeartbeats 8000000
set_option autoImplicit false
/-! _law_played: a party tick by tick; the first item of a row is anything. -/
namespace Pq
open PySem L2 Sho NdefX Shg Sh1
abbrev NPl : List Str := ["_law_rows_here", "_law_pile", "_law_lifted", "_law_piles", "_law_ticks", "_law_tick", "_law_place", "_law_other", "_law_row"]
theorem ticks_crossed {rs : List Rw} (hv : ∀ r ∈ rs, r.come < r.go) (nd : rs.Nodup) {ts : List Int} (hs : ts.Pairwise (fun a b => a < b)) (hc : ∀ r ∈ rs, r.come ∈ ts ∧ r.go ∈ ts) : crossed rs = ts.flatMap fun t => (tickOf rs t (pileTo rs t)).1 := by
  have st := sorted_flat (f := Rw.go) ts (takers rs) hs (sortV_sorted Rw.go _) fun r hr => (hc r (takers_mem hr)).2
  show (takers rs).flatMap (liftsOf rs) = _
  rw [← st]
  have fl : ∀ l : List Int, (l.flatMap fun t => (takers rs).filter fun r => decide (r.go = t)).flatMap (liftsOf rs) = l.flatMap fun t => ((bot rs).reverse.filter fun r => decide (r.go = t)).flatMap (liftsOf rs) := fun l => by
    induction l with
    | nil => rfl
    | cons t l ih =>
      rw [List.flatMap_cons, List.flatMap_append, ih, List.flatMap_cons]
      congr 2
      exact sortV_filter Rw.go (bot rs).reverse t
  rw [fl ts]
  exact flat_congrI fun t _ => (tick_out hv nd t).symm
/-- a row as it stands: its first item is nv of it -/
def PlayAt (nv : Rw → V) (H : Hp) (v : V) (r : Rw) : Prop := ∃ t, v = .ref t ∧ H t = some (.tup [nv r, .int r.come, .int r.go])
def PairR (nv : Rw → V) (H : Hp) (v : V) (q : Rw × Rw) : Prop := ∃ t, v = .ref t ∧ H t = some (.tup [nv q.1, nv q.2])
/-- the piles behind the ticks -/
def PilesAt (nv : Rw → V) (rs : List Rw) (H : Hp) (kvs : List (Key × V)) (ts : List Int) : Prop := PySem.Paired (fun (kv : Key × V) (t : Int) => kv.1 = .inl t ∧ ∃ l, kv.2 = .ref l ∧ H l = some (.lst ((pileOf rs t).map nv))) kvs ts
/-- tuples stay -/
def TupK (H H' : Hp) : Prop := ∀ b vs, H b = some (.tup vs) → H' b = some (.tup vs)
theorem TupK.same {H H' : Hp} (s : Same H H') : TupK H H' := fun b vs e => s b _ e
theorem TupK.trans {H H1 H2 : Hp} (a : TupK H H1) (b : TupK H1 H2) : TupK H H2 := fun c vs e => b c vs (a c vs e)
theorem TupK.updL {H : Hp} {L : Addr} {xs : List V} {o : HO} (e : H L = some (.lst xs)) : TupK H (upd H L o) := fun b vs h => by
  rw [upd_ne fun z => by rw [z, e] at h; cases h]
  exact h
theorem play_keep {nv : Rw → V} {H H' : Hp} (k : TupK H H') {ws : List V} {rs : List Rw} (h : PySem.Paired (PlayAt nv H) ws rs) : PySem.Paired (PlayAt nv H') ws rs := pair_mono (fun _ _ ⟨t, e, ht⟩ => ⟨t, e, k _ _ ht⟩) h
theorem pairR_keep {nv : Rw → V} {H H' : Hp} (k : TupK H H') {ws : List V} {qs : List (Rw × Rw)} (h : PySem.Paired (PairR nv H) ws qs) : PySem.Paired (PairR nv H') ws qs := pair_mono (fun _ _ ⟨t, e, ht⟩ => ⟨t, e, k _ _ ht⟩) h
/-- what stands through the ticks -/
structure Std (nv : Rw → V) (rs : List Rw) (H0 H : Hp) (p Li Di : Addr) (ts : List Int) (kvs : List (Key × V)) (i : Nat) : Prop where
  same : Same H0 H
  ep : H p = some (.lst (ts.map V.int))
  eD : H Di = some (.dK kvs)
  pl : PySem.Paired (fun (kv : Key × V) (t : Int) => kv.1 = .inl t ∧ ∃ l, kv.2 = .ref l ∧ l ≠ Li ∧ H l = some (.lst ((pileOf rs t).map nv))) kvs (ts.take i)
theorem Std.go {nv : Rw → V} {rs : List Rw} {H0 H H' : Hp} {p Li Di : Addr} {ts : List Int} {kvs : List (Key × V)} {i : Nat} (d : Std nv rs H0 H p Li Di ts kvs i) (s : Same H H') : Std nv rs H0 H' p Li Di ts kvs i :=
  ⟨d.same.trans s, s _ _ d.ep, s _ _ d.eD, pair_mono (fun _ _ ⟨a, l, e, n, h⟩ => ⟨a, l, e, n, s _ _ h⟩) d.pl⟩
theorem same_upd0 {H0 H : Hp} {L : Addr} {o : HO} (s : Same H0 H) (n : H0 L = none) : Same H0 (upd H L o) := fun b u e => by
  rw [upd_ne (ne_of_none e n)]
  exact s b u e
theorem Std.out {nv : Rw → V} {rs : List Rw} {H0 H : Hp} {p Li Di : Addr} {ts : List Int} {kvs : List (Key × V)} {i : Nat} {o : HO} (d : Std nv rs H0 H p Li Di ts kvs i) (n : H0 Li = none) (n1 : p ≠ Li) (n2 : Di ≠ Li) : Std nv rs H0 (upd H Li o) p Li Di ts kvs i :=
  ⟨same_upd0 d.same n, by rw [upd_ne n1]; exact d.ep, by rw [upd_ne n2]; exact d.eD, pair_mono (fun _ _ ⟨a, l, e, m, h⟩ => ⟨a, l, e, m, by rw [upd_ne m]; exact h⟩) d.pl⟩
theorem gone_len (t : Int) : ∀ l : List Rw, (gone t l).1.length ≤ l.length * l.length ∧ (gone t l).2.length ≤ l.length
  | [] => ⟨Nat.zero_le _, Nat.zero_le _⟩
  | x :: l => by
    have ⟨h1, h2⟩ := gone_len t l
    unfold gone
    have : (l.length + 1) * (l.length + 1) = l.length * l.length + l.length + l.length + 1 := by rw [Nat.add_mul, Nat.mul_add]; omega
    split
    · refine ⟨?_, ?_⟩
      · rw [List.length_append, List.length_map, List.length_reverse, List.length_cons]
        omega
      · rw [List.length_cons]
        exact Nat.le_succ_of_le h2
    · refine ⟨?_, ?_⟩
      · show (gone t l).1.length ≤ _
        rw [List.length_cons]
        omega
      · rw [List.length_cons, List.length_cons]
        exact Nat.succ_le_succ h2
theorem pairs_filter {R : V → Rw → Prop} {rs : List Rw} {ws : List V} (h : PySem.Paired R ws rs) (p : Rw → Bool) : ∀ n, n ≤ rs.length → PySem.Paired R (gather (fun i => (rs[i]?).bind fun c => if p c = true then ws[i]? else none) n) ((rs.take n).filter p)
  | 0, _ => .nil
  | n + 1, hn => by
    have ih := pairs_filter h p n (by omega)
    have hl := Shg.pair_len h
    have e1 : ws[n]? = some (ws[n]'(by omega)) := List.getElem?_eq_getElem (by omega)
    obtain ⟨r, hr, hR⟩ := Shg.pair_get h e1
    rw [List.take_add_one, hr, List.filter_append]
    cases hp : p r with
    | true =>
      rw [gather_some (y := ws[n]'(by omega)) (by rw [hr]; show (if p r = true then _ else _) = _; rw [hp, if_pos rfl, e1])]
      refine Shg.pair_app ih ?_
      show PySem.Paired R _ (List.filter p [r])
      rw [List.filter_cons_of_pos hp]
      exact .cons hR .nil
    | false =>
      rw [gather_none (by rw [hr]; show (if p r = true then _ else _) = _; rw [hp, if_neg Bool.false_ne_true])]
      show PySem.Paired R _ (_ ++ List.filter p [r])
      rw [List.filter_cons_of_neg (by rw [hp]; exact Bool.false_ne_true), List.filter_nil, List.append_nil]
      exact ih
theorem put_new {kvs : List (Key × V)} {k : Key} {v : V} (h : ∀ kv ∈ kvs, kv.1 ≠ k) : putK kvs k v = kvs ++ [(k, v)] := by
  unfold putK
  rw [if_neg]
  intro e
  obtain ⟨kv, hm, e⟩ := List.any_eq_true.mp e
  exact h kv hm (of_decide_eq_true e)
theorem cut_fromN (ws : List V) (k : Nat) : cutV ws (some (k : Int)) none = ws.drop k := by
  unfold cutV
  rw [HT.sIx_none, HT.sIx_nat]
  by_cases h : k ≤ ws.length
  · rw [Nat.min_eq_left h, List.take_of_length_le (by rw [List.length_drop]; exact Nat.le_refl _)]
  · rw [Nat.min_eq_right (by omega), Nat.sub_self, List.take_zero, List.drop_of_length_le (by omega)]
theorem cut_toN (ws : List V) (k : Nat) : cutV ws none (some (k : Int)) = ws.take k := by
  unfold cutV
  rw [HT.sIx_none, HT.sIx_nat, List.drop_zero, Nat.sub_zero]
  by_cases h : k ≤ ws.length
  · rw [Nat.min_eq_left h]
  · rw [Nat.min_eq_right (by omega), List.take_length, List.take_of_length_le (by omega)]
theorem pair_rev {α β : Type} {R : α → β → Prop} : ∀ {as : List α} {bs : List β}, PySem.Paired R as bs → PySem.Paired R as.reverse bs.reverse
  | _, _, .nil => .nil
  | _, _, .cons h r => by
    rw [List.reverse_cons, List.reverse_cons]
    exact Shg.pair_app (pair_rev r) (.cons h .nil)
section
variable {P : Program} {w : World} {K : PySem.W.Frag} {mg : Str → Option Value} {base : Heap}
theorem units1 {k : Nat} {A : Around} (r : Room k A) : A.units + 1 < cLine := by have := r.un; omega
theorem scPlayed : FnScope NPl ["_law_rows_here"] (defScope sLawPlayed) := ⟨rfl, rfl, rfl, by decide +kernel, rfl, by decide +kernel, by decide +kernel⟩
def spPlayed (K : PySem.W.Frag) : Sp := fun vs H Q _ => ∃ (a : Addr) (ws : List V) (rs : List Rw) (nv : Rw → V), vs = [.ref a] ∧ SqL K H a ws ∧ PySem.Paired (PlayAt nv H) ws rs ∧ rs.length ≤ 100 ∧ (∀ r ∈ rs, r.come < r.go) ∧ rs.Nodup ∧
  ∀ (t L D : Addr) (out : List V) (kvs : List (Key × V)) (ts : List Int) (H' : Hp), Same H H' → H' t = some (.tup [.ref L, .ref D]) → H' L = some (.lst out) → PySem.Paired (PairR nv H') out (crossed rs) → H' D = some (.dK kvs) →
    PilesAt nv rs H' kvs ts → ts.Pairwise (· < ·) → (∀ k, k ∈ ts ↔ ∃ r ∈ rs, r.come = k ∨ r.go = k) → Q (.ref t) H'
theorem ok_played {f : Addr} {fd : FuncData} (F : Fun K "_law_played" "_law_played" sLawPlayed f fd) (B : Shg.Blt mg) : FnOk P w K mg base CX0 1 f fd ["_law_rows_here"] (spPlayed K) := by
  refine F.ok scPlayed (fun vs H Q E h => ?_) (fun cdv A outer s H vs Q E hr h => ?_)
  · obtain ⟨a, ws, rs, nv, rfl, _⟩ := h
    rfl
  obtain ⟨a, ws, rs, nv, rfl, ha, hw, hl, hv, nd0, kk⟩ := h
  have nd := scPlayed.nd
  have lw := Shg.pair_len hw
  refine ⟨_, (pss_cons (ps_par3 (i := 1) (j := 2) (l := 3) rfl nd rfl rfl rfl (by decide) (by decide) (by decide) rfl rfl rfl (pa_cons (pe_lst pa_nil) (pa_cons (pe_lst pa_nil) (pa_cons pe_dnewK pa_nil))) rfl)
      (pss_cons (ps_set (i := 4) nd rfl (Or.inl rfl) (pe_callB (cr_sortedSetW rfl) (by rfl) B.sorted (by decide +kernel) (pa_cons (pe_callTy (cr_setL rfl) (by rfl) B.set (by decide +kernel) (pa_cons (pe_op op_cat (pe_lc (own := [("_law_row", 8)]) (g := gName 8) (tt := tYes) (te := tOp (rIxT K) (tVar 8) (tC (.int 1))) rfl nd (pi_list (pv 0)) (blkOk_by (own := [("_law_row", 8)]) (N := NPl) (sc := defScope sLawPlayed) (by decide +kernel))
        (fun _ _ _ _ _ => (pg_name (i := 8) nd rfl (Or.inl rfl))) (fun _ _ _ _ _ => pts_nil) (fun _ _ _ _ _ => (pe_ix ix_tup (pv 8) pe_int (fun _ _ => rfl)))) (pe_lc (own := [("_law_row", 8)]) (g := gName 8) (tt := tYes) (te := tOp (rIxT K) (tVar 8) (tC (.int 2))) rfl nd (pi_list (pv 0)) (blkOk_by (own := [("_law_row", 8)]) (N := NPl) (sc := defScope sLawPlayed) (by decide +kernel))
        (fun _ _ _ _ _ => (pg_name (i := 8) nd rfl (Or.inl rfl))) (fun _ _ _ _ _ => pts_nil) (fun _ _ _ _ _ => (pe_ix ix_tup (pv 8) pe_int (fun _ _ => rfl))))) pa_nil)) pa_nil)))
      (pss_cons (ps_for PassesOwn.never rfl (pi_list (pv 4)) (pg_name (i := 5) nd rfl (Or.inr rfl)) (pss_cons (ps_for PassesOwn.never rfl (pi_range3 (by rfl) B.range (pa_cons (pe_op op_sub (pe_callB call_len_seq (by rfl) B.len PySem.boot_len (pa_cons (pv 1) pa_nil)) pe_int) (pa_cons (pe_op op_sub pe_int pe_int) (pa_cons (pe_op op_sub pe_int pe_int) pa_nil)))) (pg_name (i := 6) nd rfl (Or.inl rfl)) (pss_one (ps_if (pt_cmpR op_eq (pe_ix ix_tup (pe_ix ix_list (pv 1) (pv 6) (fun _ _ => rfl)) pe_int (fun _ _ => rfl)) (pv 5) (nomark _)) (pss_cons (ps_for PassesOwn.never rfl (pi_list (pe_revE (pe_slice sl_list (pv 1) (po_some (pe_op op_add (pv 6) pe_int)) po_none) (po_some (pe_op op_sub pe_int pe_int)))) (pg_name (i := 7) nd rfl (Or.inl rfl)) (pss_one (ps_expr (pe_bm PySem.F.plainAttrs_list PySem.F.slot_list_append PySem.F.type_list_append mt_append (pv 2) (pa_cons (pe_tup (pa_cons (pe_ix ix_tup (pe_ix ix_list (pv 1) (pv 6) (fun _ _ => rfl)) pe_int (fun _ _ => rfl)) (pa_cons (pe_ix ix_tup (pv 7) pe_int (fun _ _ => rfl)) pa_nil))) pa_nil)))))
      (pss_one (ps_set (i := 1) nd rfl (Or.inl rfl) (pe_op op_cat (pe_slice sl_list (pv 1) po_none (po_some (pv 6))) (pe_slice sl_list (pv 1) (po_some (pe_op op_add (pv 6) pe_int)) po_none))))) pss_nil)))
      (pss_cons (ps_set (i := 1) nd rfl (Or.inl rfl) (pe_op op_cat (pv 1) (pe_lc (own := [("_law_row", 8)]) (g := gName 8) (tt := tTest (tOp rEq (tOp (rIxT K) (tVar 8) (tC (.int 1))) (tVar 5))) (te := tVar 8) rfl nd (pi_list (pv 0)) (blkOk_by (own := [("_law_row", 8)]) (N := NPl) (sc := defScope sLawPlayed) (by decide +kernel))
        (fun _ _ _ _ _ => (pg_name (i := 8) nd rfl (Or.inl rfl))) (fun _ _ _ _ _ => pts_one (pt_cmpR op_eq (pe_ix ix_tup (pv 8) pe_int (fun _ _ => rfl)) (pv 5) (nomark _))) (fun _ _ _ _ _ => (pv 8)))))
      (pss_one (ps_dput (units1 hr) (pv 3) (pv 5) (pe_lc (own := [("_law_row", 8)]) (g := gName 8) (tt := tYes) (te := tOp (rIxT K) (tVar 8) (tC (.int 0))) rfl nd (pi_list (pv 1)) (blkOk_by (own := [("_law_row", 8)]) (N := NPl) (sc := defScope sLawPlayed) (by decide +kernel))
        (fun _ _ _ _ _ => (pg_name (i := 8) nd rfl (Or.inl rfl))) (fun _ _ _ _ _ => pts_nil) (fun _ _ _ _ _ => (pe_ix ix_tup (pv 8) pe_int (fun _ _ => rfl)))) rfl)))))
      (pss_one (ps_ret (pe_tup (pa_cons (pv 2) (pa_cons (pv 3) pa_nil)))))))), ?_⟩
  refine ⟨Nat.zero_le _, fun Pl0 hP => ⟨Nat.zero_le _, fun Li hL => fun Di hD => ⟨_, _, _, rfl, ?_⟩⟩⟩
  have e0 : ∀ b o, H b = some o → (upd (upd (upd H Pl0 (.lst [])) Li (.lst [])) Di (.dK [])) b = some o := ((Shg.same_upd hP).trans ((Shg.same_upd hL).trans (Shg.same_upd hD)))
  have fP : H Pl0 = none := hP
  have fL : H Li = none := by
    cases e : H Li with
    | none => rfl
    | some o => rw [Shg.same_upd hP _ _ e] at hL; cases hL
  have fD : H Di = none := by
    cases e : H Di with
    | none => rfl
    | some o => rw [((Shg.same_upd hP).trans (Shg.same_upd hL)) _ _ e] at hD; cases hD
  have nPL : Pl0 ≠ Li := fun z => by rw [← z, upd_same] at hL; cases hL
  have nDL : Di ≠ Li := fun z => by rw [z, upd_same] at hD; cases hD
  have eP1 := ((Shg.same_upd (o := .lst []) hL).trans (Shg.same_upd (o := .dK []) hD)) _ _ (upd_same (H := H) (a := Pl0) (o := .lst []))
  have eL1 := (Shg.same_upd (o := .dK []) hD) _ _ (upd_same (H := upd H Pl0 (.lst [])) (a := Li) (o := .lst []))
  have eD1 := upd_same (H := upd (upd H Pl0 (.lst [])) Li (.lst [])) (a := Di) (o := .dK [])
  generalize upd (upd (upd H Pl0 (.lst [])) Li (.lst [])) Di (.dK []) = H1 at *
  clear hP hL hD
  have sA : Same H H1 := e0
  -- the ticks
  refine nx_of (asg_rel (fun v H' => ∃ (p : Addr) (ts : List Int), v = .ref p ∧ Same H1 H' ∧ H1 p = none ∧ H' p = some (.lst (ts.map V.int)) ∧ ts.Pairwise (· < ·) ∧ (∀ k, k ∈ ts ↔ ∃ r ∈ rs, r.come = k ∨ r.go = k) ∧ ts.length ≤ 200) (fun R h0 => ?_) fun vt Ht ht => ?_)
  · refine ⟨_, rfl, a, rfl, ⟨_, sA.seq ha⟩, fun D1 hD1 => ?_⟩
    refine lc_map walk_list (fun j => (rs[j]?).map fun r => V.int r.come) hD1 (by rw [lw]; exact Nat.le_trans hl (by decide)) (fun H2 s2 => (sA.trans s2).seq ha) (fun j v H2 H' hj s2 yy R' k1 => ?_) (fun j hj => ⟨_, by rw [List.getElem?_eq_getElem (by omega)]; rfl⟩) fun H2 s2 e2 => ?_
    · obtain ⟨rfl, ev⟩ := yy
      obtain ⟨r, hr, t, rfl, ht⟩ := Shg.pair_get hw ev
      exact ⟨rfl, _, rfl, t, _, 1, .int r.come, rfl, rfl, SqT.of ((sA.trans s2) _ _ ht), atI_nat (j := 1) rfl, k1 _ _ (Same.refl _) (by rw [hr]; rfl)⟩
    rw [lw, gather_map rs fun r => V.int r.come] at e2
    refine ⟨_, rfl, a, rfl, ⟨_, (sA.trans s2).seq ha⟩, fun D2 hD2 => ?_⟩
    refine lc_map walk_list (fun j => (rs[j]?).map fun r => V.int r.go) hD2 (by rw [lw]; exact Nat.le_trans hl (by decide)) (fun H3 s3 => ((sA.trans s2).trans s3).seq ha) (fun j v H3 H' hj s3 yy R' k1 => ?_) (fun j hj => ⟨_, by rw [List.getElem?_eq_getElem (by omega)]; rfl⟩) fun H3 s3 e3 => ?_
    · obtain ⟨rfl, ev⟩ := yy
      obtain ⟨r, hr, t, rfl, ht⟩ := Shg.pair_get hw ev
      exact ⟨rfl, _, rfl, t, _, 2, .int r.go, rfl, rfl, SqT.of (((sA.trans s2).trans s3) _ _ ht), atI_nat (j := 2) rfl, k1 _ _ (Same.refl _) (by rw [hr]; rfl)⟩
    rw [lw, gather_map rs fun r => V.int r.go] at e3
    refine ⟨D1, D2, _, _, rfl, rfl, s3 _ _ e2, e3, by rw [List.length_map, List.length_map]; exact Nat.le_trans (by omega : _ ≤ 200) (by decide), fun p3 hp3 => ?_⟩
    have em : rs.map (fun r => V.int r.come) ++ rs.map (fun r => V.int r.go) = (rs.map (fun r => r.come) ++ rs.map fun r => r.go).map V.int := by
      rw [List.map_append, List.map_map, List.map_map]
      rfl
    rw [em]
    have s4 := Shg.same_upd (o := .lst ((rs.map (fun r => r.come) ++ rs.map fun r => r.go).map V.int)) hp3
    have ln : (rs.map (fun r => r.come) ++ rs.map fun r => r.go).length ≤ 200 := by rw [List.length_append, List.length_map, List.length_map]; omega
    refine ⟨p3, _, rfl, SqL.of upd_same, by omega, fun p4 n hp4 hn => ?_⟩
    have s5 := Shg.same_upd (o := SetO w p4 (fun j => decide (j ∈ rs.map (fun r => r.come) ++ rs.map fun r => r.go)) n) hp4
    refine ⟨p4, _, n, rfl, upd_same, by omega, fun ks p5 rise mem len hp5 => h0 _ _ ⟨p5, ks, rfl, (((s2.trans s3).trans s4).trans s5).trans (Shg.same_upd hp5), ?_, upd_same, rise, fun k => ?_, by omega⟩⟩
    · cases e : H1 p5 with
      | none => rfl
      | some o =>
        have z := (((s2.trans s3).trans s4).trans s5) _ _ e
        have z2 := z.symm.trans hp5
        cases z2
    · rw [mem k, decide_eq_true_eq, List.mem_append, List.mem_map, List.mem_map]
      constructor
      · rintro (⟨r, hr, e⟩ | ⟨r, hr, e⟩)
        · exact ⟨r, hr, .inl e⟩
        · exact ⟨r, hr, .inr e⟩
      · rintro ⟨r, hr, e | e⟩
        · exact .inl ⟨r, hr, e⟩
        · exact .inr ⟨r, hr, e⟩
  obtain ⟨p, ts, rfl, sT, fp, ep, rise, mem, lts⟩ := ht
  refine name_at ?_
  have npL : p ≠ Li := fun z => by rw [z, eL1] at fp; cases fp
  have hc : ∀ r ∈ rs, r.come ∈ ts ∧ r.go ∈ ts := fun r hr => ⟨(mem _).mpr ⟨r, hr, .inl rfl⟩, (mem _).mpr ⟨r, hr, .inr rfl⟩⟩
  have lB : ∀ (l : List Int), (l.flatMap fun t => (tickOf rs t (pileTo rs t)).1).length ≤ l.length * 10000 := fun l => by
    induction l with
    | nil => exact Nat.zero_le _
    | cons t l ih =>
      rw [List.flatMap_cons, List.length_append, List.length_cons, Nat.succ_mul]
      have h1 := (gone_len t (pileTo rs t)).1
      have h2 : (pileTo rs t).length ≤ 100 := Nat.le_trans (List.length_filter_le _ _) (by rw [bot_length]; exact hl)
      have h3 := Nat.mul_le_mul h2 h2
      have h4 : (tickOf rs t (pileTo rs t)).1 = (gone t (pileTo rs t)).1 := rfl
      rw [h4]
      omega
  refine ⟨_, rfl, p, rfl, ⟨_, SqL.of ep⟩, for_it walk_list (fun i σ H2 => ∃ (Pl : Addr) (pws : List V) (pile : List Rw) (out : List V) (kvs : List (Key × V)) (o5 o6 o7 o8 : Option V), σ = [some (.ref a), some (.ref Pl), some (.ref Li), some (.ref Di), some (.ref p), o5, o6, o7, o8] ∧ Std nv rs H H2 p Li Di ts kvs i ∧ Pl ≠ Li ∧ H2 Pl = some (.lst pws) ∧ PySem.Paired (PlayAt nv H2) pws pile ∧ H2 Li = some (.lst out) ∧
      PySem.Paired (PairR nv H2) out ((ts.take i).flatMap fun t => (tickOf rs t (pileTo rs t)).1) ∧ ∀ t, ts[i]? = some t → pile = pileTo rs t)
    ⟨Pl0, [], [], [], [], none, none, none, none, rfl, ⟨sA.trans sT, ep, sT _ _ eD1, .nil⟩, nPL, sT _ _ eP1, .nil, sT _ _ eL1, .nil, fun t ht => ?_⟩ (fun i σ H2 _ q => by obtain ⟨_, _, _, _, _, _, _, _, _, _, d, _⟩ := q; exact SqL.of d.ep) ?_ ?_⟩
  · unfold pileTo
    refine (List.filter_eq_nil_iff.mpr fun r hr => ?_).symm
    have h1 := (hc r (bot_mem.mp hr)).1
    have h2 : t ≤ r.come := by
      obtain ⟨k, hk, e⟩ := List.getElem_of_mem h1
      rcases Nat.eq_zero_or_pos k with rfl | kp
      · rw [List.getElem?_eq_getElem hk] at ht
        have : ts[0] = t := Option.some.inj ht
        omega
      · have h0 : 0 < ts.length := Nat.lt_trans kp hk
        rw [List.getElem?_eq_getElem h0] at ht
        have e0 : ts[0] = t := Option.some.inj ht
        have := (List.pairwise_iff_getElem.mp rise) 0 k h0 hk kp
        omega
    simp
    omega
  · rintro i y σ H3 H2 hi ⟨Pl, pws, pile, out, kvs, o5, o6, o7, o8, rfl, d, nPl, ePl, pP, eLi, pO, hpile⟩ ⟨rfl, ey⟩
    rw [List.length_map] at hi
    obtain ⟨t, hti⟩ : ∃ t, ts[i]? = some t := ⟨_, List.getElem?_eq_getElem hi⟩
    rw [List.getElem?_map, hti] at ey
    obtain rfl : y = .int t := (Option.some.inj ey).symm
    obtain rfl := hpile t hti
    have lpw := Shg.pair_len pP
    have l100 : (pileTo rs t).length ≤ 100 := Nat.le_trans (List.length_filter_le _ _) (by rw [bot_length]; exact hl)
    have lOut : ((ts.take i).flatMap fun t => (tickOf rs t (pileTo rs t)).1).length ≤ 2000000 := by
      have := lB (ts.take i)
      rw [List.length_take] at this
      omega
    generalize hO : ((ts.take i).flatMap fun t => (tickOf rs t (pileTo rs t)).1) = outR at *
    refine name_at ?_
    have rg : RgC (((pws.length : Nat) : Int) - 1) (0 - 1) (0 - 1) (((pws.length : Nat) : Int) - 1 - (-1)).toNat := RgC.neg (by omega) (by omega) (by decide) (by decide)
    have en : (((pws.length : Nat) : Int) - 1 - (-1)).toNat = pws.length := by omega
    rw [en] at rg
    have px : ∀ (k : Nat), k < pws.length → ∃ x, (pileTo rs t)[k]? = some x := fun k hk => ⟨_, List.getElem?_eq_getElem (by omega)⟩
    generalize hpile0 : pileTo rs t = pile0 at *
    refine ⟨_, rfl, Pl, pws, rfl, .inl (SqL.of ePl), _, _, rfl, rfl, _, _, rfl, rfl, _, _, rfl, rfl, _, _, _, _, rfl, rg, for_it walk_rangeC (fun m σ H4 => ∃ (Pl' : Addr) (pws' out' : List V) (o6 o7 : Option V), σ = [some (.ref a), some (.ref Pl'), some (.ref Li), some (.ref Di), some (.ref p), some (.int t), o6, o7, o8] ∧ Std nv rs H H4 p Li Di ts kvs i ∧ Pl' ≠ Li ∧ H4 Pl' = some (.lst pws') ∧
        PySem.Paired (PlayAt nv H4) pws' (pile0.take (pws.length - m) ++ (gone t (pile0.drop (pws.length - m))).2) ∧ H4 Li = some (.lst out') ∧ PySem.Paired (PairR nv H4) out' (outR ++ (gone t (pile0.drop (pws.length - m))).1))
      ⟨Pl, pws, out, o6, o7, rfl, d, nPl, ePl, ?_, eLi, ?_⟩ (fun _ _ _ _ _ => trivial) ?_ ?_⟩
    · rw [Nat.sub_zero, lpw, List.take_length, List.drop_length]
      show PySem.Paired _ _ (pile0 ++ [])
      rw [List.append_nil]
      exact pP
    · rw [Nat.sub_zero, lpw, List.drop_length]
      show PySem.Paired _ _ (outR ++ [])
      rw [List.append_nil]
      exact pO
    · rintro m y σ Ha Hb hm ⟨Pl', pws', out', o6, o7, rfl, d4, nP4, eP4, pP4, eL4, pO4⟩ ⟨rfl, ey⟩
      obtain ⟨k, hk⟩ : ∃ k, pws.length - m = k + 1 := ⟨pws.length - m - 1, by omega⟩
      have ey' : y = .int (k : Int) := ey.trans (congrArg V.int (by omega))
      subst ey'
      clear ey
      rw [hk] at pP4 pO4
      obtain ⟨x, hx⟩ := px k (by omega)
      obtain ⟨kl, ek⟩ := List.getElem?_eq_some_iff.mp hx
      have dk : pile0.drop k = x :: pile0.drop (k + 1) := by rw [List.drop_eq_getElem_cons kl, ek]
      have tk : pile0.take (k + 1) = pile0.take k ++ [x] := by rw [List.take_add_one, hx]; rfl
      have ltk : (pile0.take (k + 1)).length = k + 1 := by rw [List.length_take]; omega
      have gl := gone_len t (pile0.drop (k + 1))
      have ld : (pile0.drop (k + 1)).length ≤ 100 := by rw [List.length_drop]; omega
      have gl1 := Nat.le_trans gl.1 (Nat.mul_le_mul ld ld)
      have gl2 := Nat.le_trans gl.2 ld
      have e2 : pws.length - (m + 1) = k := by omega
      have gk : gone t (pile0.drop k) = if x.go = t then ((gone t (pile0.drop (k + 1))).1 ++ (gone t (pile0.drop (k + 1))).2.reverse.map fun y => (x, y), (gone t (pile0.drop (k + 1))).2) else ((gone t (pile0.drop (k + 1))).1, x :: (gone t (pile0.drop (k + 1))).2) := by
        rw [dk]
        rfl
      generalize gone t (pile0.drop (k + 1)) = g at *
      have lp4 := Shg.pair_len pP4
      rw [List.length_append, ltk] at lp4
      have lo4 := Shg.pair_len pO4
      rw [List.length_append] at lo4
      obtain ⟨v, hv4⟩ : ∃ v, pws'[k]? = some v := ⟨_, List.getElem?_eq_getElem (by omega)⟩
      obtain ⟨x', hx', tx, rfl, htx⟩ := Shg.pair_get pP4 hv4
      rw [List.getElem?_append_left (by omega), List.getElem?_take_of_lt (by omega), hx] at hx'
      obtain rfl := Option.some.inj hx'
      refine name_at ?_
      refine ⟨_, rfl, _, rfl, Pl', _, _, _, rfl, rfl, SqL.of eP4, atI_nat hv4, tx, _, 2, .int x.go, rfl, rfl, SqT.of htx, atI_nat (j := 2) rfl, _, rfl, rfl, _, rfl, ite2 (fun q => ?_) (fun q => ?_)⟩
      · have xt : x.go = t := by simpa using q
        rw [if_pos xt] at gk
        refine ⟨_, rfl, _, rfl, _, _, rfl, rfl, _, rfl, Pl', _, rfl, SqL.of eP4, fun q1 hq1 => ⟨_, _, rfl, rfl, _, rfl, rfl, q1, _, rfl, SqL.of upd_same, fun q2 hq2 => ⟨q2, rfl, ⟨_, SqL.of upd_same⟩, ?_⟩⟩⟩
        have hdr : (pile0.take (k + 1) ++ g.2).drop (k + 1) = g.2 := List.drop_left' ltk
        have htr : (pile0.take (k + 1) ++ g.2).take k = pile0.take k := by
          rw [List.take_append_of_le_length (by omega), List.take_take, Nat.min_eq_left (by omega)]
        have cr : (cutV pws' (some ((k : Int) + 1)) none).reverse = (pws'.drop (k + 1)).reverse := by rw [show ((k : Nat) : Int) + 1 = ((k + 1 : Nat) : Int) by omega, cut_fromN]
        have c0 : cutV pws' (some ((k : Int) + 1)) none = pws'.drop (k + 1) := by rw [show ((k : Nat) : Int) + 1 = ((k + 1 : Nat) : Int) by omega, cut_fromN]
        have s1 := Shg.same_upd (o := .lst (cutV pws' (some ((k : Int) + 1)) none)) hq1
        have s2 := Shg.same_upd (o := .lst (cutV pws' (some ((k : Int) + 1)) none).reverse) hq2
        have eq2 : (upd (upd Hb q1 (.lst (cutV pws' (some ((k : Int) + 1)) none))) q2 (.lst (cutV pws' (some ((k : Int) + 1)) none).reverse)) q2 = some (.lst (cutV pws' (some ((k : Int) + 1)) none).reverse) := upd_same
        have s12 := s1.trans s2
        have nqL : q2 ≠ Li := fun z => by rw [z, s1 _ _ eL4] at hq2; cases hq2
        have nqP : q2 ≠ Pl' := fun z => by rw [z, s1 _ _ eP4] at hq2; cases hq2
        rw [c0] at eq2 s12 ⊢
        generalize upd (upd Hb q1 (.lst (pws'.drop (k + 1)))) q2 (.lst (pws'.drop (k + 1)).reverse) = Hc at *
        clear s1 s2 hq1 hq2 cr c0
        have pR : PySem.Paired (PlayAt nv Hc) (pws'.drop (k + 1)).reverse g.2.reverse := by
          have := Shg.pair_drop (k + 1) pP4
          rw [hdr] at this
          exact pair_rev (play_keep (.same s12) this)
        have lR := Shg.pair_len pR
        rw [List.length_reverse, List.length_reverse] at lR
        refine for_it walk_list (fun j σ H5 => ∃ (out5 : List V) (o7 : Option V), σ = [some (.ref a), some (.ref Pl'), some (.ref Li), some (.ref Di), some (.ref p), some (.int t), some (.int (k : Int)), o7, o8] ∧ Std nv rs H H5 p Li Di ts kvs i ∧ H5 Pl' = some (.lst pws') ∧ H5 q2 = some (.lst (pws'.drop (k + 1)).reverse) ∧ TupK Hc H5 ∧ H5 Li = some (.lst out5) ∧
            PySem.Paired (PairR nv H5) out5 ((outR ++ g.1) ++ (g.2.reverse.take j).map fun y => (x, y)))
          ⟨out', o7, rfl, d4.go s12, s12 _ _ eP4, eq2, .same (Same.refl _), s12 _ _ eL4, by rw [List.take_zero, List.map_nil, List.append_nil]; exact pairR_keep (.same s12) pO4⟩ (fun j σ H5 _ z => by obtain ⟨_, _, _, _, _, e, _⟩ := z; exact SqL.of e) ?_ ?_
        · rintro j y σ Hd He hj ⟨out5, o7, rfl, d5, eP5, eq5, k5, eL5, pO5⟩ ⟨rfl, ey⟩
          obtain ⟨z, hz, tz, rfl, htz⟩ := Shg.pair_get pR ey
          refine name_at ?_
          have lo5 := Shg.pair_len pO5
          rw [List.length_append, List.length_append, List.length_map, List.length_take] at lo5
          refine ⟨_, rfl, .inl ⟨rfl, _, SqL.of eL5⟩, _, rfl, _, rfl, Pl', _, _, _, rfl, rfl, SqL.of eP5, atI_nat hv4, tx, _, 0, nv x, rfl, rfl, SqT.of (k5 _ _ (s12 _ _ htx)), atI_nat (j := 0) rfl, _, rfl, tz, _, 0, nv z, rfl, rfl, SqT.of (k5 _ _ htz), atI_nat (j := 0) rfl, by show 2 ≤ sizeLine; decide, fun u hu => ?_⟩
          have su := Shg.same_upd (o := .tup [nv x, nv z]) hu
          have nu : u ≠ Li := fun z => by rw [z, eL5] at hu; cases hu
          refine ⟨Li, out5, .ref u, rfl, rfl, su _ _ eL5, ?_, ?_⟩
          · have : g.2.reverse.length ≤ 100 := by rw [List.length_reverse]; exact gl2
            exact Nat.lt_of_le_of_lt (show out5.length ≤ 2020000 by omega) (by decide)
          · refine ⟨out5 ++ [.ref u], _, rfl, (d5.go su).out fL npL nDL, by rw [upd_ne nP4]; exact su _ _ eP5, by rw [upd_ne nqL]; exact su _ _ eq5, k5.trans ((TupK.same su).trans (TupK.updL (su _ _ eL5))), upd_same, ?_⟩
            have et : g.2.reverse.take (j + 1) = g.2.reverse.take j ++ [z] := by rw [List.take_add_one, hz]; rfl
            rw [et, List.map_append, ← List.append_assoc]
            exact Shg.pair_app (pairR_keep ((TupK.same su).trans (TupK.updL (su _ _ eL5))) pO5) (.cons ⟨u, rfl, by rw [upd_ne nu]; exact upd_same⟩ .nil)
        · rintro σ Hd ⟨out5, o7, rfl, d5, eP5, eq5, k5, eL5, pO5⟩
          rw [List.length_reverse, lR, List.take_of_length_le (by rw [List.length_reverse]; exact Nat.le_refl _)] at pO5
          refine nx_of ?_
          refine ⟨_, rfl, _, rfl, _, rfl, Pl', _, rfl, SqL.of eP5, fun c1 hc1 => ?_⟩
          rw [cut_toN]
          have u1 := Shg.same_upd (o := .lst (pws'.take k)) hc1
          refine ⟨_, rfl, _, rfl, _, _, rfl, rfl, _, rfl, Pl', _, rfl, SqL.of (u1 _ _ eP5), fun c2 hc2 => ?_⟩
          rw [show ((k : Nat) : Int) + 1 = ((k + 1 : Nat) : Int) by omega, cut_fromN] at *
          have u2 := Shg.same_upd (o := .lst (pws'.drop (k + 1))) hc2
          refine ⟨c1, c2, _, _, rfl, rfl, u2 _ _ upd_same, upd_same, ?_, fun M hM => ?_⟩
          · exact Nat.le_trans (show (pws'.take k).length + (pws'.drop (k + 1)).length ≤ 300 by rw [List.length_take, List.length_drop]; omega) (by decide)
          have u3 := Shg.same_upd (o := .lst (pws'.take k ++ pws'.drop (k + 1))) hM
          have u13 := (u1.trans u2).trans u3
          have nM : M ≠ Li := fun z => by rw [z, (u1.trans u2) _ _ eL5] at hM; cases hM
          refine name_at ⟨M, _, out5, _, _, rfl, d5.go u13, nM, upd_same, ?_, u13 _ _ eL5, ?_⟩
          · rw [e2, gk]
            have h1 := Shg.pair_take k pP4
            rw [htr] at h1
            have h2 := Shg.pair_drop (k + 1) pP4
            rw [hdr] at h2
            exact play_keep ((TupK.same s12).trans (k5.trans (.same u13))) (Shg.pair_app h1 h2)
          · rw [e2, gk, ← List.append_assoc]
            exact pairR_keep (.same u13) pO5
      · have xt : ¬ x.go = t := fun z => q (by simpa using z)
        rw [if_neg xt] at gk
        refine nx_of ⟨Pl', pws', out', _, _, rfl, d4, nP4, eP4, ?_, eL4, ?_⟩
        · rw [e2, gk]
          rw [tk, List.append_assoc] at pP4
          exact pP4
        · rw [e2, gk]
          exact pO4
    · rintro σ H4 ⟨Pl', pws', out', o6, o7, rfl, d4, nP4, eP4, pP4, eL4, pO4⟩
      rw [Nat.sub_self, List.take_zero, List.nil_append, List.drop_zero] at pP4
      rw [Nat.sub_self, List.drop_zero] at pO4
      have gl := gone_len t pile0
      have lp4 := Shg.pair_len pP4
      have few : (gone t pile0).2.length ≤ 100 := Nat.le_trans gl.2 l100
      -- those who come
      refine ⟨_, rfl, _, rfl, a, rfl, ⟨_, d4.same.seq ha⟩, fun D hD => ?_⟩
      refine lc_gather (walk_list (xs := ws)) (fun j => (rs[j]?).bind fun r => if (fun r : Rw => decide (r.come = t)) r = true then ws[j]? else none) hD (by rw [lw]; exact Nat.le_trans hl (by decide)) (fun H s => (d4.same.trans s).seq ha) (fun j v H5 H6 hj s5 vv R2 k1 => ?_) fun H5 s5 e5 => ?_
      · obtain ⟨rfl, ev⟩ := vv
        obtain ⟨r, hr, tr, rfl, htr⟩ := Shg.pair_get hw ev
        have k3 := k1 _ (Same.refl _)
        rw [hr] at k3
        have k3' : R2 (if decide (r.come = t) = true then ws[j]? else none) _ := k3
        rw [ev] at k3'
        refine ⟨rfl, _, rfl, tr, _, 1, .int r.come, rfl, rfl, SqT.of (s5 _ _ (d4.same _ _ htr)), atI_nat (j := 1) rfl, _, rfl, rfl, _, rfl, ?_⟩
        have eV : decide (V.int r.come = V.int t) = decide (r.come = t) := decide_eq_decide.mpr ⟨fun z => by injection z, fun z => by rw [z]⟩
        rw [eV]
        refine ite2 (fun q => ?_) (fun q => ?_)
        · rw [if_pos q] at k3'
          exact ⟨_, rfl, k3'⟩
        · rw [if_neg q] at k3'
          exact k3'
      have pF := pairs_filter (play_keep (.same (d4.same.trans s5)) hw) (fun r : Rw => decide (r.come = t)) rs.length (Nat.le_refl _)
      rw [List.take_length] at pF
      rw [lw] at e5
      generalize gather (fun j => (rs[j]?).bind fun r => if (fun r : Rw => decide (r.come = t)) r = true then ws[j]? else none) rs.length = fs at *
      have lf := Shg.pair_len pF
      have lfr := List.length_filter_le (fun r : Rw => decide (r.come = t)) rs
      refine ⟨Pl', D, _, _, rfl, rfl, s5 _ _ eP4, e5, Nat.le_trans (by omega : _ ≤ 200) (by decide), fun M hM => ?_⟩
      have sM := Shg.same_upd (o := .lst (pws' ++ fs)) hM
      have s45 := s5.trans sM
      have nM : M ≠ Li := fun z => by rw [z, s5 _ _ eL4] at hM; cases hM
      have eM : (upd H5 M (.lst (pws' ++ fs))) M = some (.lst (pws' ++ fs)) := upd_same
      have pM : PySem.Paired (PlayAt nv (upd H5 M (.lst (pws' ++ fs)))) (pws' ++ fs) (pileOf rs t) := by
        have e := tick_pile hv t
        rw [hpile0] at e
        have e' : (gone t pile0).2 ++ rs.filter (fun r => decide (r.come = t)) = pileOf rs t := e
        rw [← e']
        exact Shg.pair_app (play_keep (.same s45) pP4) (play_keep (.same sM) pF)
      have d6 := d4.go s45
      have eL6 := s45 _ _ eL4
      have pO6 := pairR_keep (.same s45) pO4
      generalize upd H5 M (.lst (pws' ++ fs)) = H6 at *
      have lM := Shg.pair_len pM
      have lpo : (pileOf rs t).length ≤ 100 := Nat.le_trans (List.length_filter_le _ _) (by rw [bot_length]; exact hl)
      generalize pws' ++ fs = zs at *
      -- the names behind the tick
      refine name_at ?_
      refine ⟨_, rfl, M, rfl, ⟨_, SqL.of eM⟩, fun D2 hD2 => ?_⟩
      refine lc_map walk_list (fun j => ((pileOf rs t)[j]?).map nv) hD2 (by rw [lM]; exact Nat.le_trans lpo (by decide)) (fun H7 s7 => SqL.of (s7 _ _ eM)) (fun j v H7 H' hj s7 yy R' k1 => ?_) (fun j hj => ⟨_, by rw [List.getElem?_eq_getElem (by omega)]; rfl⟩) fun H7 s7 e7 => ?_
      · obtain ⟨rfl, ev⟩ := yy
        obtain ⟨r, hr, tr, rfl, htr⟩ := Shg.pair_get pM ev
        exact ⟨rfl, _, rfl, tr, _, 0, nv r, rfl, rfl, SqT.of (s7 _ _ htr), atI_nat (j := 0) rfl, k1 _ _ (Same.refl _) (by rw [hr]; rfl)⟩
      rw [lM, gather_map (pileOf rs t) nv] at e7
      have d7 := d6.go s7
      have nD2 : D2 ≠ Li := fun z => by rw [z, eL6] at hD2; cases hD2
      have nDD : D2 ≠ Di := fun z => by rw [z, d6.eD] at hD2; cases hD2
      have lkv := Shg.pair_len d7.pl
      have lti : (ts.take i).length = i := by rw [List.length_take]; omega
      have new : ∀ kv ∈ kvs, kv.1 ≠ (.inl t : Key) := fun kv hkv z => by
        obtain ⟨j, hj, ej⟩ := List.getElem_of_mem hkv
        obtain ⟨u, hu, e1, _⟩ := Shg.pair_get d7.pl (List.getElem?_eq_getElem hj)
        rw [ej, z] at e1
        injection e1 with e1
        have ji : j < i := by omega
        rw [List.getElem?_take_of_lt ji] at hu
        obtain ⟨h1, h2⟩ := List.getElem?_eq_some_iff.mp hu
        obtain ⟨h3, h4⟩ := List.getElem?_eq_some_iff.mp hti
        have := (List.pairwise_iff_getElem.mp rise) j i h1 h3 ji
        omega
      refine ⟨_, rfl, _, rfl, Di, _, rfl, DPut.k (k := .inl t) d7.eD (Nat.lt_of_le_of_lt (show kvs.length ≤ 200 by omega) (by decide)), ?_⟩
      rw [put_new new]
      have tk : TupK H7 (upd H7 Di (.dK (kvs ++ [(.inl t, .ref D2)]))) := fun b vs e => by
        rw [upd_ne fun z => by rw [z, d7.eD] at e; cases e]
        exact e
      have npD : p ≠ Di := fun z => by have h1 := d7.ep; rw [z, d7.eD] at h1; cases h1
      have eM7 := s7 _ _ eM
      refine ⟨M, zs, pileOf rs t, out', kvs ++ [(.inl t, .ref D2)], _, _, _, _, rfl, ⟨same_upd0 d7.same fD, by rw [upd_ne npD]; exact d7.ep, upd_same, ?_⟩, nM, by rw [upd_ne fun z => by rw [z, d7.eD] at eM7; cases eM7]; exact eM7, play_keep ((TupK.same s7).trans tk) pM, by rw [upd_ne (Ne.symm nDL)]; exact s7 _ _ eL6, ?_, fun t' ht' => ?_⟩
      · have et : ts.take (i + 1) = ts.take i ++ [t] := by rw [List.take_add_one, hti]; rfl
        rw [et]
        refine Shg.pair_app (pair_mono (fun _ _ ⟨x, l, e, n, h⟩ => ⟨x, l, e, n, by rw [upd_ne fun z => by rw [z, d7.eD] at h; cases h]; exact h⟩) d7.pl) (.cons ⟨rfl, D2, rfl, nD2, by rw [upd_ne nDD]; exact e7⟩ .nil)
      · have et : ts.take (i + 1) = ts.take i ++ [t] := by rw [List.take_add_one, hti]; rfl
        rw [et, List.flatMap_append, hO, List.flatMap_cons, List.flatMap_nil, List.append_nil, hpile0]
        exact pairR_keep ((TupK.same s7).trans tk) pO6
      · obtain ⟨h3, h4⟩ := List.getElem?_eq_some_iff.mp hti
        obtain ⟨h5, h6⟩ := List.getElem?_eq_some_iff.mp ht'
        have lt := (List.pairwise_iff_getElem.mp rise) i (i + 1) h3 h5 (Nat.lt_succ_self _)
        rw [h4, h6] at lt
        have side : ∀ z ∈ ts, z ≤ t ∨ t' ≤ z := fun z hz => by
          obtain ⟨m, hm, rfl⟩ := List.getElem_of_mem hz
          rcases Nat.lt_or_ge i m with q | q
          · right
            rcases Nat.eq_or_lt_of_le q with q | q
            · subst q
              exact Int.le_of_eq h6.symm
            · have := (List.pairwise_iff_getElem.mp rise) (i + 1) m h5 hm q
              omega
          · left
            rcases Nat.eq_or_lt_of_le q with q | q
            · subst q
              exact Int.le_of_eq h4
            · have := (List.pairwise_iff_getElem.mp rise) m i hm h3 q
              omega
        exact pile_between lt fun r hr => ⟨side _ (hc r hr).1, side _ (hc r hr).2⟩
  · rintro σ H2 ⟨Pl, pws, pile, out, kvs, o5, o6, o7, o8, rfl, d, nPl, ePl, pP, eLi, pO, _⟩
    rw [List.length_map, List.take_length] at pO
    have d2 := d.pl
    rw [List.length_map, List.take_length] at d2
    refine ⟨_, rfl, _, rfl, by show 2 ≤ sizeLine; decide, fun t ht => ?_⟩
    have s := Shg.same_upd (o := .tup [.ref Li, .ref Di]) ht
    exact kk t Li Di out kvs ts _ (d.same.trans s) upd_same (s _ _ eLi) (pairR_keep (.same s) (by rw [ticks_crossed hv nd0 rise hc]; exact pO)) (s _ _ d.eD) (pair_mono (fun _ _ ⟨x, l, e, _, h⟩ => ⟨x, l, e, s _ _ h⟩) d2) rise mem
end
end Pq
set_option Elab.async false
set_option linter.all false
set_option maxRecDepth 100000
set_option maxHeartbeats 2000000
/-! Answers of readings that stand in every law. -/
namespace Shg
open PySem L2 Sho NdefX
/-- a op b op c of ints -/
theorem chainI {f g : Int → Int → Bool} {ta tb tc : TE} {σ : L2.St} {H : Hp} {R : Bool → Hp → Prop} (i j k : Int) (h1 : ∀ Q : VK, Q (.int i) H → ta σ H Q) (h2 : ∀ Q : VK, Q (.int j) H → tb σ H Q) (h3 : ∀ Q : VK, Q (.int k) H → tc σ H Q) (h : R (f i j && g j k) H) :
    tTest (tChain (rI0 fun i j => .bl (f i j)) (rI0 fun i j => .bl (g i j)) ta tb tc) σ H R := by
  refine h1 _ (h2 _ ⟨i, j, rfl, rfl, f i j, rfl, ?_⟩)
  cases e : f i j with
  | false =>
    rw [if_neg Bool.false_ne_true]
    rw [e] at h
    exact ⟨_, rfl, h⟩
  | true =>
    rw [if_pos rfl]
    rw [e] at h
    exact h3 _ ⟨j, k, rfl, rfl, _, rfl, h⟩
theorem chainN {f g : Int → Int → Bool} {ta tb tc : TE} {σ : L2.St} {H : Hp} {R : Bool → Hp → Prop} (i j k : Int) (h1 : ∀ Q : VK, Q (.int i) H → ta σ H Q) (h2 : ∀ Q : VK, Q (.int j) H → tb σ H Q) (h3 : ∀ Q : VK, Q (.int k) H → tc σ H Q) (h : R (!(f i j && g j k)) H) :
    tNot (tTest (tChain (rI0 fun i j => .bl (f i j)) (rI0 fun i j => .bl (g i j)) ta tb tc)) σ H R := chainI (R := fun b H' => R (!b) H') i j k h1 h2 h3 h
/-- a, b = x, y: what is known of x -/
theorem par_rel {i j : Nat} {te : TE} {tr : TA} {u : TS} {D : Ends} {σ : L2.St} {H : Hp} (P : V → Hp → Prop) (h1 : ∀ R : VK, (∀ v H', P v H' → R v H') → te σ H R)
    (h2 : ∀ v H', P v H' → tr σ H' fun ws H2 => ∃ v1 w, v :: ws = [v1, w] ∧ u D ((σ.set i (some v1)).set j (some w)) H2) : tSeq (tPar i j (tCons te tr)) u D σ H := h1 _ h2
/-- paired place by place -/
theorem pair_of {α β : Type} {R : α → β → Prop} : ∀ {as : List α} {bs : List β}, as.length = bs.length → (∀ (i : Nat) a b, as[i]? = some a → bs[i]? = some b → R a b) → PySem.Paired R as bs
  | [], [], _, _ => .nil
  | [], _ :: _, h, _ => by simp at h
  | _ :: _, [], h, _ => by simp at h
  | a :: as, b :: bs, h, k => .cons (k 0 a b rfl rfl) (pair_of (by simpa using h) fun i x y hx hy => k (i + 1) x y hx hy)
end Shg
set_option Elab.async false
set_option linter.all false
set_option maxRecDepth 100000
set_option maxHeartbeats 4000000
set_option autoImplicit false
/-! change_without. -/
namespace Cm
open PySem L2 Sho NdefX Shg Sh1
abbrev NCh : List Str := ["party", "name", "smaller", "changes", "other", "before", "after"]
/-- how many pairs y lifts at this party -/
def liftN (xs : List Stay) (y : Stay) : Nat := (lifted (xs.map rw3) (rw3 y)).length
/-- who lifts less without x, before and after -/
def chgOf (xs ys : List Stay) : List Stay → List (Str × Nat × Nat)
  | [] => []
  | y :: l => if liftN ys y < liftN xs y then (y.1, liftN xs y, liftN ys y) :: chgOf xs ys l else chgOf xs ys l
theorem chg_snoc (xs ys : List Stay) (y : Stay) : ∀ l : List Stay, chgOf xs ys (l ++ [y]) = chgOf xs ys l ++ (if liftN ys y < liftN xs y then [(y.1, liftN xs y, liftN ys y)] else [])
  | [] => by
    show (if liftN ys y < liftN xs y then _ else _) = _
    by_cases h : liftN ys y < liftN xs y
    · rw [if_pos h, if_pos h]
      rfl
    · rw [if_neg h, if_neg h]
      rfl
  | z :: l => by
    show (if liftN ys z < liftN xs z then _ :: chgOf xs ys (l ++ [y]) else chgOf xs ys (l ++ [y])) = (if liftN ys z < liftN xs z then _ else _) ++ _
    rw [chg_snoc xs ys y l]
    by_cases h : liftN ys z < liftN xs z
    · rw [if_pos h, if_pos h]
      rfl
    · rw [if_neg h, if_neg h]
theorem chg_mem {xs ys : List Stay} : ∀ {l : List Stay} {c : Str × Nat × Nat}, c ∈ chgOf xs ys l → c.1 ∈ l.map fun y => y.1
  | [], _, h => nomatch h
  | y :: l, c, h => by
    unfold chgOf at h
    by_cases e : liftN ys y < liftN xs y
    · rw [if_pos e] at h
      rcases List.mem_cons.mp h with rfl | h
      · exact List.mem_cons_self
      · exact List.mem_cons_of_mem _ (chg_mem h)
    · rw [if_neg e] at h
      exact List.mem_cons_of_mem _ (chg_mem h)
theorem chg_len (xs ys : List Stay) : ∀ l : List Stay, (chgOf xs ys l).length ≤ l.length
  | [] => Nat.le_refl _
  | y :: l => by
    unfold chgOf
    have := chg_len xs ys l
    by_cases e : liftN ys y < liftN xs y
    · rw [if_pos e]
      simp only [List.length_cons]
      omega
    · rw [if_neg e]
      simp only [List.length_cons]
      omega
/-- the dict of changes -/
def ChAt (H : Hp) (kvs : List (Key × V)) (cs : List (Str × Nat × Nat)) : Prop := PySem.Paired (fun (kv : Key × V) (c : Str × Nat × Nat) => kv.1 = Sum.inr c.1 ∧ ∃ t, kv.2 = V.ref t ∧ H t = some (.tup [.int (c.2.1 : Nat), .int (c.2.2 : Nat)])) kvs cs
theorem ChAt.mono {H H' : Hp} (e : LamX.ExtN H H') {kvs : List (Key × V)} {cs : List (Str × Nat × Nat)} (h : ChAt H kvs cs) : ChAt H' kvs cs := Shg.pair_mono (fun _ _ ⟨q, t, e1, e2⟩ => ⟨q, t, e1, e _ _ e2 fun _ z => nomatch z⟩) h
theorem ChAt.tups {H H' : Hp} (e : ∀ b xs, H b = some (.tup xs) → H' b = some (.tup xs)) {kvs : List (Key × V)} {cs : List (Str × Nat × Nat)} (h : ChAt H kvs cs) : ChAt H' kvs cs := Shg.pair_mono (fun _ _ ⟨q, t, e1, e2⟩ => ⟨q, t, e1, e _ _ e2⟩) h
theorem ChAt.snoc {H : Hp} : ∀ {kvs : List (Key × V)} {cs : List (Str × Nat × Nat)} {c : Str × Nat × Nat} {t : Addr}, ChAt H kvs cs → H t = some (.tup [.int (c.2.1 : Nat), .int (c.2.2 : Nat)]) → ChAt H (kvs ++ [(Sum.inr c.1, V.ref t)]) (cs ++ [c])
  | _, _, _, t, .nil, h => .cons ⟨rfl, t, rfl, h⟩ .nil
  | _, _, _, _, .cons a r, h => .cons a (ChAt.snoc r h)
theorem ChAt.key {H : Hp} {kvs : List (Key × V)} {cs : List (Str × Nat × Nat)} (h : ChAt H kvs cs) : ∀ kv ∈ kvs, ∃ c ∈ cs, kv.1 = Sum.inr c.1 := by
  unfold ChAt at h
  induction h with
  | nil => intro kv hk; cases hk
  | cons a t ih =>
    intro kv hk
    rcases List.mem_cons.mp hk with rfl | hk
    · exact ⟨_, List.mem_cons_self, a.1⟩
    · obtain ⟨c, hc, e⟩ := ih kv hk
      exact ⟨c, List.mem_cons_of_mem _ hc, e⟩
theorem tabs_updD {T : List (Addr × Str)} {H : Hp} {D : Addr} {kvs : List (Key × V)} {o : HO} (h : H D = some (.dK kvs)) (t : LamX.Tabs T H) : LamX.Tabs T (upd H D o) := fun tq q => by
  obtain ⟨qs, q1, q2, q3⟩ := t tq q
  have ne : ∀ {b : Addr} {u : HO}, H b = some u → (∀ zs, HO.dK zs ≠ u) → b ≠ D := fun h' n z => by
    rw [z, h] at h'
    exact n _ (Option.some.inj h')
  refine ⟨qs, by rw [upd_ne (ne q1 fun _ z => nomatch z)]; exact q1, q2, fun p' cv h' => ?_⟩
  obtain ⟨c, e1, e2⟩ := q3 p' cv h'
  exact ⟨c, e1, by rw [upd_ne (ne e2 fun _ z => nomatch z)]; exact e2⟩
theorem put_newC {kvs : List (Key × V)} {k : Key} {v : V} (h : ∀ kv ∈ kvs, kv.1 ≠ k) : putK kvs k v = kvs ++ [(k, v)] := by
  unfold putK
  rw [if_neg]
  intro z
  obtain ⟨kv, hk, e⟩ := List.any_eq_true.mp z
  exact h kv hk (of_decide_eq_true e)
theorem without_sub (xs : List Stay) (x : Stay) : (without xs x).Sublist xs := List.filter_sublist
theorem party_same {C : Addr} {H H' : Hp} {p : Addr} {xs : List Stay} (e : LamX.ExtN H H') (h : PartyAt C H p xs) : PartyAt C H' p xs := by
  obtain ⟨dx, b, zs, h1, h2, h3⟩ := h
  exact ⟨dx, b, zs, e _ _ h1 (fun _ z => nomatch z), e _ _ h2 (fun _ z => nomatch z), Shg.pair_mono (fun _ _ ⟨t, q, ht⟩ => ⟨t, q, e _ _ ht fun _ z => nomatch z⟩) h3⟩
section
variable {P : Program} {w : World} {K : PySem.W.Frag} {mg : Str → Option Value} {base : Heap}
def spChange (C : Addr) (T : List (Addr × Str)) : Sp := fun vs H Q _ => ∃ (p : Addr) (x : Stay) (xs : List Stay), vs = [.ref p, .str x.1] ∧ PartyAt C H p xs ∧ Short xs ∧ Valid xs ∧ x ∈ xs ∧ LamX.Tabs T H ∧
  ∀ (D : Addr) (H' : Hp) (kvs : List (Key × V)), Grows T H H' → H' D = some (.dK kvs) → ChAt H' kvs (chgOf xs (without xs x) (without xs x)) → Q (.ref D) H'
theorem scChange3 : FnScope NCh ["party", "name"] (defScope sChange) := ⟨rfl, rfl, rfl, by decide +kernel, rfl, by decide +kernel, by decide +kernel⟩
/-- what stands through the turns -/
structure Cg (C : Addr) (T : List (Addr × Str)) (H0 : Hp) (p q : Addr) (xs ys : List Stay) (t D : Addr) (done : List Stay) (H : Hp) : Prop where
  g : Grows T H0 H
  n : H0 D = none
  p : PartyAt C H p xs
  q : PartyAt C H q ys
  t : H t = some (.tup (ys.map fun x => .str x.1))
  d : ∃ kvs, H D = some (.dK kvs) ∧ ChAt H kvs (chgOf xs ys done)
theorem ok_changeX {f C CU fSub fC fN pN : Addr} {fd fdSub fdC fdN : FuncData} {T : List (Addr × Str)} (F : Fun K "change_without" "change_without" sChange f fd) (B : Shg.Blt mg) (PC : PartyC K mg C) (hc : PySem.W.selfFirst K C = true)
    (OS : OpC K C "__sub__" "__rsub__" "str" fSub) (GSub : FnOk P w K mg base (L2.CX P w) 7 fSub fdSub ["self", "name"] (spPSub C CU)) (bSub : Binds K fdSub ["self", "name"] [])
    (GC : FnOk P w K mg base (L2.CX P w) 8 fC fdC ["self", "name"] (spCallP C CU T)) (oC : StX.CallO K C fC) (bC : Binds K fdC ["self", "name"] [])
    (GN : FnOk P w K mg base CX0 1 fN fdN ["self"] (spPNames C)) (hN : PropOf K C "names" pN fN) (bN : Binds K fdN ["self"] []) :
    FnOk P w K mg base (L2.CX P w) 9 f fd ["party", "name"] (spChange C T) := by
  refine F.okX scChange3 (fun vs H Q E h => ?_) (fun cdv A outer s H vs Q E hr h => ?_)
  · obtain ⟨p, x, xs, rfl, _⟩ := h
    rfl
  obtain ⟨p, x, xs, rfl, PA, hs, hv, hx, hT, k⟩ := h
  have nd := scChange3.nd
  have pass : Passes (L2.CX P w) (cxOf (L2.CX P w) P w K mg base NCh "change_without" (defScope sChange) f cdv A outer s H E) E := passes_call (takes_of rfl rfl rfl rfl) fun _ _ _ _ z => z
  refine ⟨_, (pss_cons (ps_set (i := 2) nd rfl (Or.inl rfl) (pe_op (sub_str (fnr_of GSub bSub) (hr.mono (by decide)) pass hc OS) (pv 0) (pv 1)))
      (pss_cons (ps_set (i := 3) nd rfl (Or.inl rfl) pe_dnewK)
      (pss_cons (ps_for (passes_of rfl) rfl (pi_tup (pe_prop (pv 2) PC.cl hN GN (hr.mono (by decide)) bN .nil pass0 rfl)) (pg_name (i := 4) nd rfl (Or.inl rfl)) (pss_cons (ps_par (i := 5) (j := 6) rfl nd rfl rfl (by decide) rfl rfl (pa_cons (StX.pe_callO (pv 0) oC (fnr_of GC bC) (hr.mono (by decide)) pass (pa_cons (pv 4) pa_nil)) (pa_cons (StX.pe_callO (pv 2) oC (fnr_of GC bC) (hr.mono (by decide)) pass (pa_cons (pv 4) pa_nil)) pa_nil)) (by rfl))
      (pss_one (ps_if (pt_cmpR op_lt (pv 6) (pv 5) (nomark _)) (pss_one (ps_dput (Pq.units1 hr) (pv 3) (pv 4) (pe_tup (pa_cons (pv 5) (pa_cons (pv 6) pa_nil))) rfl)) pss_nil))))
      (pss_one (ps_ret (pv 3)))))), ?_⟩
  have gx : guest xs x.1 = some x := Kb.guest_me hv.nd hx
  have lx : xs.length ≤ 24 := hv.len
  refine ⟨_, rfl, _, rfl, p, rfl, ⟨x.1, rfl⟩, ins_party PA, p, x.1, xs, rfl, PA, hs, hv, (hs x hx).1, fun x' hx' q H1 s1 nq PQ => ?_, fun hn => ?_⟩
  rotate_left
  · rw [gx] at hn
    cases hn
  rw [gx] at hx'
  cases hx'
  refine Shg.name_of ?_
  refine fun D hD => Shg.name_of ?_
  have sD : Same H1 (upd H1 D (.dK [])) := Shg.same_upd hD
  have PQ2 := PartyAt.same sD PQ
  have PA2 := PartyAt.same (s1.trans sD) PA
  have sub := without_sub xs x
  have lw : (without xs x).length ≤ 24 := Nat.le_trans sub.length_le lx
  have hs2 : Short (without xs x) := fun z hz => hs z (sub.mem hz)
  have nd2 : ((without xs x).map fun y => y.1).Nodup := hv.nd.sublist (sub.map _)
  have eD : (upd H1 D (.dK [])) D = some (.dK []) := upd_same
  have s2 := s1.trans sD
  generalize upd H1 D (.dK []) = H2 at sD PQ2 PA2 eD s2
  obtain ⟨dq, bq, zq, q1, q2, q3⟩ := id PQ2
  refine ⟨_, rfl, q, dq, _, rfl, q1, q, without xs x, rfl, PQ2, Nat.le_trans lw (by decide), fun H3 t s3 ht et => ⟨t, rfl, ⟨_, SqT.of et⟩, for_it (walk_tup (K := K) (a := t) (xs := (without xs x).map fun y => V.str y.1)) (fun j σ H' => ∃ o4 o5 o6, σ = [some (.ref p), some (.str x.1), some (.ref q), some (.ref D), o4, o5, o6] ∧ Cg C T H p q xs (without xs x) t D ((without xs x).take j) H')
    ⟨_, _, _, rfl, ⟨Sh1.Grows.of (s2.trans s3), s1.free hD, PartyAt.same s3 PA2, PartyAt.same s3 PQ2, et, [], s3 _ _ eD, .nil⟩⟩ (fun j σ H' _ z => by obtain ⟨_, _, _, _, z⟩ := z; exact SqT.of z.t) ?_ ?_⟩⟩
  · rintro j y σ HK HL hj ⟨o4, o5, o6, rfl, U⟩ ⟨rfl, ey⟩
    rw [List.getElem?_map] at ey
    obtain ⟨y, hy, rfl⟩ := Option.map_eq_some_iff.mp ey
    have hym : y ∈ without xs x := List.mem_of_getElem? hy
    have gy1 : guest xs y.1 = some y := Kb.guest_me hv.nd (sub.mem hym)
    have gy2 : guest (without xs x) y.1 = some y := Kb.guest_me nd2 hym
    refine Shg.name_at ?_
    refine par_rel (fun v H' => v = .int (liftN xs y : Nat) ∧ Grows T HL H') (fun R0 h0 => ?_) fun v HM hM => ?_
    · obtain ⟨dp, bp, zp, p1, p2, p3⟩ := id U.p
      refine ⟨_, rfl, p, rfl, _, rfl, .inr ⟨dp, _, p1⟩, p, y.1, xs, rfl, U.p, hs, by omega, (hs y (sub.mem hym)).1, U.g.tab hT, fun x' hx' H' g => ?_, fun hn => ?_⟩
      · rw [gy1] at hx'
        cases hx'
        exact h0 _ _ ⟨rfl, g⟩
      · rw [gy1] at hn
        cases hn
    obtain ⟨rfl, gM⟩ := hM
    have PM := party_same gM.ext U.q
    obtain ⟨dp, bp, zp, p1, p2, p3⟩ := id PM
    refine ⟨_, rfl, q, rfl, _, rfl, .inr ⟨dp, _, p1⟩, q, y.1, without xs x, rfl, PM, hs2, by omega, (hs y (sub.mem hym)).1, (U.g.trans gM).tab hT, fun x' hx' HN gN => ?_, fun hn => ?_⟩
    rotate_left
    · rw [gy2] at hn
      cases hn
    rw [gy2] at hx'
    cases hx'
    have gg := U.g.trans (gM.trans gN)
    have g2 := gM.trans gN
    obtain ⟨kvs, eD2, ch⟩ := U.d
    have eDN := g2.ext _ _ eD2 fun _ z => nomatch z
    have chN := ch.mono g2.ext
    have tk : (without xs x).take (j + 1) = (without xs x).take j ++ [y] := by rw [List.take_add_one, hy]; rfl
    have pN := party_same g2.ext U.p
    have qN := party_same g2.ext U.q
    have tN := g2.ext _ _ U.t fun _ z => nomatch z
    refine ⟨_, _, rfl, ?_⟩
    refine ⟨_, rfl, _, rfl, _, _, rfl, rfl, _, rfl, ?_⟩
    refine ite2 (fun h => ?_) (fun h => ?_)
    · have h := of_decide_eq_true h
      have lt : liftN (without xs x) y < liftN xs y := by
        unfold liftN
        unfold liftN at h
        omega
      refine ⟨_, rfl, _, rfl, by show 2 ≤ sizeLine; decide, fun c hc => ⟨_, rfl, _, rfl, D, _, rfl, DPut.k (k := Sum.inr y.1) (Shg.same_upd hc _ _ eDN) ?_, ?_⟩⟩
      · have l1 : kvs.length = (chgOf xs (without xs x) ((without xs x).take j)).length := Shg.pair_len chN
        have l2 := chg_len xs (without xs x) ((without xs x).take j)
        rw [List.length_take] at l2
        rw [sizeLine_eq]
        omega
      have nk : ∀ kv ∈ kvs, kv.1 ≠ (Sum.inr y.1 : Key) := fun kv hk e => by
        obtain ⟨c0, hc0, e0⟩ := chN.key kv hk
        rw [e0] at e
        have e1 := Sum.inr.inj e
        have m := chg_mem hc0
        rw [e1] at m
        obtain ⟨z, hz, ez⟩ := List.mem_map.mp m
        have ndt : (((without xs x).take (j + 1)).map fun y => y.1).Nodup := nd2.sublist ((List.take_sublist ..).map _)
        rw [tk, List.map_append, List.nodup_append] at ndt
        exact ndt.2.2 _ (List.mem_map.mpr ⟨z, hz, rfl⟩) y.1 (by simp) ez
      rw [put_newC nk]
      have cs := Shg.same_upd (o := .tup [.int (liftN xs y : Nat), .int (liftN (without xs x) y : Nat)]) hc
      have gc : Grows T HN (upd HN c (.tup [.int (liftN xs y : Nat), .int (liftN (without xs x) y : Nat)])) := Sh1.Grows.of cs
      have eDc := cs _ _ eDN
      have chc := chN.mono gc.ext
      have ec : (upd HN c (.tup [.int (liftN xs y : Nat), .int (liftN (without xs x) y : Nat)])) c = some (.tup [.int (liftN xs y : Nat), .int (liftN (without xs x) y : Nat)]) := upd_same
      have pc := party_same gc.ext pN
      have qc := party_same gc.ext qN
      have tc := gc.ext _ _ tN fun _ z => nomatch z
      have ggc := gg.trans gc
      refine ⟨_, _, _, rfl, ?_⟩
      show Cg C T H p q xs (without xs x) t D ((without xs x).take (j + 1)) (upd (upd HN c (.tup [.int (liftN xs y : Nat), .int (liftN (without xs x) y : Nat)])) D (.dK (kvs ++ [(Sum.inr y.1, .ref c)])))
      generalize upd HN c (.tup [.int (liftN xs y : Nat), .int (liftN (without xs x) y : Nat)]) = HC at *
      have off : ∀ b o, (∀ kv, o ≠ .dK kv) → HC b = some o → (upd HC D (.dK (kvs ++ [(Sum.inr y.1, .ref c)]))) b = some o := fun b o n e => by
        rw [upd_ne fun z => ?_]
        · exact e
        · rw [z, eDc] at e
          exact n _ (Option.some.inj e).symm
      have tups : ∀ b xs, HC b = some (.tup xs) → (upd HC D (.dK (kvs ++ [(Sum.inr y.1, .ref c)]))) b = some (.tup xs) := fun b xs e => off b _ (fun _ z => nomatch z) e
      have pk : ∀ {r : Addr} {zs : List Stay}, PartyAt C HC r zs → PartyAt C (upd HC D (.dK (kvs ++ [(Sum.inr y.1, .ref c)]))) r zs := fun {r zs} h => by
        obtain ⟨dx, b, zs, h1, h2, h3⟩ := h
        exact ⟨dx, b, zs, off _ _ (fun _ z => nomatch z) h1, tups _ _ h2, Shg.pair_mono (fun _ _ ⟨t, q, ht⟩ => ⟨t, q, tups _ _ ht⟩) h3⟩
      refine ⟨⟨fun b o e n => ?_, fun tb => tabs_updD eDc (ggc.tab tb)⟩, U.n, pk pc, pk qc, tups _ _ tc, _, upd_same, ?_⟩
      · have nb : b ≠ D := fun z => by rw [z, U.n] at e; cases e
        rw [upd_ne nb]
        exact ggc.ext _ _ e n
      · rw [tk, chg_snoc, if_pos lt]
        exact ChAt.snoc (c := (y.1, liftN xs y, liftN (without xs x) y)) (chc.tups tups) (tups _ _ ec)
    · have lt : ¬ liftN (without xs x) y < liftN xs y := fun z => h (decide_eq_true (by
        unfold liftN at z ⊢
        omega))
      refine ⟨_, _, _, rfl, gg, U.n, pN, qN, tN, kvs, eDN, ?_⟩
      rw [tk, chg_snoc, if_neg lt, List.append_nil]
      exact chN
  · rintro σ HK ⟨o4, o5, o6, rfl, U⟩
    obtain ⟨kvs, eD2, ch⟩ := U.d
    rw [List.length_map, List.take_length] at ch
    exact ⟨_, rfl, k D HK kvs U.g eD2 ch⟩
end
end Cm
set_option Elab.async false
set_option linter.all false
set_option maxRecDepth 100000
set_option maxHeartbeats 4000000
set_option autoImplicit false
/-! sorted(list of tuples of ints), whatever the ints. -/
namespace Shg
open PySem PyProof.Rows PySem.Spec L2 Srt
/-- one list of ints before another -/
def lexL : List Int → List Int → Bool
  | [], [] => false
  | [], _ :: _ => true
  | _ :: _, [] => false
  | x :: xs, y :: ys => if x = y then lexL xs ys else decide (x < y)
theorem lexL_asym : ∀ xs ys : List Int, lexL xs ys = true → lexL ys xs = false
  | [], [], h => (by cases h)
  | [], _ :: _, _ => rfl
  | _ :: _, [], h => (by cases h)
  | x :: xs, y :: ys, h => by
    unfold lexL at h ⊢
    by_cases e : x = y
    · rw [if_pos e] at h
      rw [if_pos e.symm]
      exact lexL_asym xs ys h
    · rw [if_neg e] at h
      rw [if_neg fun z => e z.symm, decide_eq_false_iff_not]
      have := of_decide_eq_true h
      omega
theorem lexL_tr : ∀ xs ys zs : List Int, lexL ys xs = false → lexL zs ys = false → lexL zs xs = false
  | [], [], [], _, _ => rfl
  | [], [], _ :: _, _, _ => rfl
  | [], _ :: _, [], _, h => (by cases h)
  | [], _ :: _, _ :: _, _, _ => rfl
  | _ :: _, [], _, h, _ => (by cases h)
  | _ :: _, _ :: _, [], _, h => (by cases h)
  | x :: xs, y :: ys, z :: zs, h1, h2 => by
    unfold lexL at h1 h2 ⊢
    by_cases e1 : y = x
    · rw [if_pos e1] at h1
      subst e1
      by_cases e2 : z = y
      · rw [if_pos e2] at h2 ⊢
        exact lexL_tr xs ys zs h1 h2
      · rw [if_neg e2] at h2 ⊢
        exact h2
    · rw [if_neg e1, decide_eq_false_iff_not] at h1
      by_cases e2 : z = y
      · subst e2
        rw [if_neg e1, decide_eq_false_iff_not]
        exact h1
      · rw [if_neg e2, decide_eq_false_iff_not] at h2
        rw [if_neg (by omega), decide_eq_false_iff_not]
        omega
theorem swo_lexL {α : Type} (k : α → List Int) : SrtO.Swo fun v u => lexL (k v) (k u) := ⟨fun _ _ h => lexL_asym _ _ h, fun _ _ _ h1 h2 => lexL_tr _ _ _ h1 h2⟩
section
variable {prog : Program} {w : World} {A : Around} {E : Value → Shared → Prop} {s : Shared} {Q : Bool → Shared → Prop}
theorem lexL_run {b : Bool} {xs ys : List Value} {ns ms : List Int} (i : Nat) (hx : IntsAre xs ns) (hy : IntsAre ys ms) (hl : ns.length = ms.length) (h : Q (lexL ns ms) s) : PySem.W.KatLex prog w A b false Q (xs.zip ys) i s := by
  induction hx generalizing ys ms i with
  | nil =>
    cases hy with
    | nil => exact PySem.W.kat_nil h
    | cons q u hy => simp at hl
  | @cons p t xs ns hx ih =>
    cases hy with
    | nil => simp at hl
    | @cons q u ys ms hy =>
      have hl' : ns.length = ms.length := by simpa using hl
      show PySem.W.KatLex prog w A b false Q ((Value.int p t, Value.int q u) :: xs.zip ys) i s
      unfold lexL at h
      refine PySem.W.kat_cons (wpAny_eqBool_int ?_)
      by_cases e : p = q
      · subst e
        rw [beq_self_eq_true]
        rw [if_pos rfl] at h
        exact PySem.W.kat_yes (ih (i + 1) hy hl' h)
      · rw [show (p == q) = false from beq_eq_false_iff_ne.mpr e]
        rw [if_neg e] at h
        exact PySem.W.kat_no (TS.oneLt_ints _ h)
def TupsL (h : Heap) (d : Nat) (k : Value → List Int) (vs : List Value) : Prop := ∀ v, v ∈ vs → TS.TupInts h v (k v) ∧ (k v).length = d
theorem firstsL {h : Heap} {d : Nat} {k : Value → List Int} (hd : 1 ≤ d) : ∀ vs : List Value, TupsL h d k vs → ∃ fs, PySem.W.KatTups h vs fs ∧ fs.length = vs.length ∧ ∀ f, f ∈ fs → ∃ n t, f = Value.int n t
  | [], _ => ⟨[], PySem.W.KatTups.nil, rfl, fun f hf => by simp at hf⟩
  | v :: vs, x => by
    obtain ⟨fs, kk, hl, hi⟩ := firstsL hd vs fun u hu => x u (List.mem_cons_of_mem _ hu)
    obtain ⟨⟨a, xs, e0, ⟨o, ho, hc, n, hdt⟩, i⟩, hn⟩ := x v (List.mem_cons_self ..)
    rw [e0]
    obtain ⟨y, ys, e⟩ : ∃ y ys, xs.toList = y :: ys := by
      cases q : xs.toList with
      | nil =>
        rw [q] at i
        have l := i.length
        rw [List.length_nil, hn] at l
        omega
      | cons y ys => exact ⟨y, ys, rfl⟩
    obtain ⟨m, t, hy⟩ := i.all y (by rw [e]; exact List.mem_cons_self ..)
    refine ⟨y :: fs, PySem.W.KatTups.cons ho hc hdt ?_ kk, by simp [hl], ?_⟩
    · have z := congrArg (fun l : List Value => l[0]?) e
      simpa using z
    · intro f hf
      rcases List.mem_cons.mp hf with rfl | hf
      · exact ⟨m, t, hy⟩
      · exact hi f hf
theorem cmpL {d : Nat} {k : Value → List Int} {vs : List Value} (hp : TupsL s.heap d k vs) : SrtO.Cmp prog w A s (tuples' true) (fun p => p.1 ∈ vs) (SrtO.lt2 fun v u => lexL (k v) (k u)) := by
  intro p q hm hm'
  obtain ⟨⟨a, xs, e1, ⟨o, ho, hc, n, hdt⟩, i1⟩, l1⟩ := hp _ hm
  obtain ⟨⟨a', ys, e2, ⟨o', ho', hc', n', hdt'⟩, i2⟩, l2⟩ := hp _ hm'
  show wpAny (model prog w) A (keyLt' (tuples' true) p.1 q.1) (fun r s' => s' = s ∧ r = lexL (k p.1) (k q.1)) (fun _ _ => False) s
  generalize k p.1 = ns at i1 l1 ⊢
  generalize k q.1 = ms at i2 l2 ⊢
  rw [e1, e2]
  refine PySem.W.kat_lt ho hdt ho' hdt' ?_
  have sz : decide (xs.size < ys.size) = false := by
    have z1 := i1.length
    have z2 := i2.length
    rw [Array.length_toList] at z1 z2
    exact decide_eq_false (by omega)
  rw [sz]
  exact lexL_run 0 i1 i2 (by omega) ⟨rfl, rfl⟩
theorem sortableL {a : Addr} {d : Nat} {k : Value → List Int} {vs : List Value} (hd : 1 ≤ d) (h0 : 0 < vs.length) (hp : TupsL s.heap d k vs) (ha : ∀ o, s.heap.get? a = some o → o.cls ≠ .type "tuple") : SrtO.SortableO prog w A s a vs fun v u => lexL (k v) (k u) := by
  intro h' keep
  have hp' : TupsL h' d k vs := fun v hm => ⟨(hp v hm).1.keeps fun b o e c => keep b o (fun z => by subst z; exact ha o e c) e, (hp v hm).2⟩
  obtain ⟨fs, h1, h2, h3⟩ := firstsL hd vs hp'
  refine ⟨tuples' true, fun Q E hq => ?_, cmpL hp'⟩
  refine PySem.W.kat_kind (T := .type "int") h1 (by omega) (fun f hm => ?_) (by rfl) ?_
  · obtain ⟨x, t, rfl⟩ := h3 f hm
    exact PySem.W.Looks.now
  · have e : (Value.type "int" != Value.type "tuple") = true := by first | decide +kernel | rfl | decide
    rw [e]
    exact hq
theorem sortedL {l : Addr} {d : Nat} {vs : List Value} {k : Value → List Int} {Q : Value → Shared → Prop} (hd : 1 ≤ d) (hl : s.heap.IsList l vs.toArray) (hz : vs.length ≤ sizeLine) (hp : TupsL s.heap d k vs)
    (h : ∀ (h' : Heap) (d : Addr) (out : List Value), SrtO.Srtd (fun v u => lexL (k v) (k u)) out → out.Perm vs → (∀ b o, s.heap.get? b = some o → h'.get? b = some o) → s.heap.objs.size ≤ d → (∃ n, h'.get? d = some (seqObj "list" out.toArray n)) → Q (.ref d) { s with heap := h' }) :
    wpAny (model prog w) A (call (.builtin "sorted") [.ref l]) Q E s := by
  refine SrtO.sorted_ord (swo_lexL k) hl hz (fun h2 h₁ a ha kk => ?_) fun out hs hb => ?_
  · refine sortableL (s := { s with heap := h₁ }) hd (by omega) (fun v hm => ⟨(hp v hm).1.keeps fun b o e _ => (kk b o e).2, (hp v hm).2⟩) fun o e => ?_
    have e' : some o = some (seqObj "list" vs.toArray 0) := e.symm.trans ha
    cases e'
    intro c
    exact absurd (Value.type.inj c) (by decide)
  · exact h _ _ out hs hb.perm (fun b o e => sortedAll_old e) (Nat.le_succ _) (sortedAll_at s.heap vs out.toArray)
end
/-- sorted(xs), xs a list of tuples of d ints (k says which): a new list of the same, sorted -/
def rSortLx (K : PySem.W.Frag) : List V → Hp → VK → Prop := fun vs H Q => ∃ (a : Addr) (xs : List V) (k : V → List Int) (d : Nat), vs = [V.ref a] ∧ SqL K H a xs ∧ 1 ≤ d ∧ (∀ x ∈ xs, ∃ t, x = V.ref t ∧ H t = some (.tup ((k x).map V.int)) ∧ (k x).length = d) ∧
  ∀ ys p, ys.Pairwise (fun x y => lexL (k y) (k x) = false) → ys.Perm xs → H p = none → Q (.ref p) (upd H p (.lst ys))
section
variable {X : Cx}
theorem cr_sortLx : CallR X (.builtin "sorted") (rSortLx X.K) := by
  intro pins s σ H vs us Q I r h
  obtain ⟨a, xs, k, d, rfl, hs, hd, hx, q⟩ := h
  obtain ⟨its, rv, hl, hz⟩ := I.list hs
  rw [Vals.ref1 r]
  obtain ⟨e1, e2⟩ := refs_back rv fun x m => by
    obtain ⟨t, e, _⟩ := hx x m
    exact ⟨t, e⟩
  refine sortedL (k := fun u => k (backV u)) hd hl.isList (by rw [← rv.length]; exact hz) (fun v hv => ?_) fun h' dd out h1 h2 kp hdd hn => ?_
  · obtain ⟨t, rfl⟩ := e2 v hv
    have hm : V.ref t ∈ xs := by rw [e1]; exact List.mem_map.mpr ⟨_, hv, rfl⟩
    obtain ⟨t', e, ht, hlen⟩ := hx _ hm
    cases e
    exact ⟨tupI_raw I (SqT.of ht), hlen⟩
  · have h3 : ∀ u ∈ out, ∃ a, u = Value.ref a := fun u hu => e2 u (h2.mem_iff.mp hu)
    obtain ⟨n, hn⟩ := hn
    have hb : (out.map backV).Perm xs := by
      rw [e1]
      exact h2.map backV
    refine ⟨.ref dd, upd H dd (.lst (out.map backV)), I.laid (t' := s.toks) kp hdd ⟨?_, out, n, vals_back h3, hn⟩, rfl, q _ dd (List.pairwise_map.mpr h1) hb (I.hok.fresh hdd)⟩
    rw [hb.length_eq]
    exact hz
end
end Shg
set_option Elab.async false
set_option linter.all false
set_option maxRecDepth 100000
set_option maxHeartbeats 4000000
set_option autoImplicit false
/-! sorted(xs, key=lambda ..), the keys tuples of ints: stable. -/
namespace Sho
open PySem PySem.Spec PyProof.Rows L2 LamX NdefX Shg
/-- in the order of their keys kz, equal ones as they stood -/
def SortedBy {α : Type} (kz : List (List Int)) (ys out : List α) : Prop :=
  ∃ ps : List (List Int × α), SrtO.Srtd (fun p q => lexL p.1 q.1) ps ∧ SrtO.Stb (fun p q => lexL p.1 q.1) ps (kz.zip ys) ∧ out = ps.map (·.2)
section
variable {prog : Program} {w : World} {A : Around} {E : Value → Shared → Prop} {a : Addr} {vs : List Value}
theorem sortC_end {s : Shared} {kS : Addr} {keys : List Value} {e e1 d : Nat} {P : PySem.Fin → Shared → Prop} {k : Value → List Int} (hka : kS ≠ a)
    (hkS : s.heap.get? kS = some (seqObj "list" keys.toArray e)) (ha : s.heap.get? a = some (seqObj "list" #[] e1)) (hd : 1 ≤ d) (hk : TupsL s.heap d k keys) (hlen : keys.length = vs.length) (hZ : vs.length ≤ sizeLine)
    (h : ∀ h' tk out c, (∀ b o, b ≠ kS → b ≠ a → s.heap.get? b = some o → h'.get? b = some o) → h'.get? a = some (seqObj "list" out c) →
      (∃ ps : List Keyed, SrtO.Srtd (SrtO.lt2 fun v u => lexL (k v) (k u)) ps ∧ SrtO.Stb (SrtO.lt2 fun v u => lexL (k v) (k u)) ps (keys.zip vs) ∧ out.toList = ps.map (·.2)) → P (.done (.ret .none)) { s with heap := h', toks := tk }) :
    wpAny (model prog w) A (ksk_end a false vs.toArray e1 (.ref kS) keys.toArray) P E s := by
  have hZ2 := hZ
  rw [sizeLine_eq] at hZ2
  have zl : (keys.toArray.zip vs.toArray).toList = keys.zip vs := ksk_zip ..
  have zs : (keys.toArray.zip vs.toArray).size = vs.length := by rw [← Array.length_toList, zl, List.length_zip, hlen, Nat.min_self]
  have tail : ∀ st : SortSt, SrtO.Srtd (SrtO.lt2 fun v u => lexL (k v) (k u)) (arrOf st).toList → SrtO.Stb (SrtO.lt2 fun v u => lexL (k v) (k u)) (arrOf st).toList (keys.toArray.zip vs.toArray).toList → failedOf st = none →
      wpAny (model prog w) A (ksk_tail a false e1 (.ref kS) st) P E s := by
    intro st hs hb hf
    have hsz : (arrOf st).size = vs.length := by rw [← Array.length_toList, hb.len, Array.length_toList, zs]
    have s1 := Heap.SameBut.update s.heap kS (Obj.mapSeq fun _ => (#[] : Array Value))
    have na1 : (s.heap.update kS (Obj.mapSeq fun _ => (#[] : Array Value))).get? a = some (seqObj "list" #[] e1) := (s1.2 a hka.symm).trans ha
    have s2 := Heap.SameBut.update (s.heap.update kS (Obj.mapSeq fun _ => (#[] : Array Value))) a (Obj.mapSeq fun _ => (arrOf st).map (·.2))
    obtain ⟨c2, hc2⟩ : ∃ c2, ((s.heap.update kS (Obj.mapSeq fun _ => (#[] : Array Value))).update a (Obj.mapSeq fun _ => (arrOf st).map (·.2))).get? a = some (seqObj "list" ((arrOf st).map (·.2)) c2) :=
      ⟨_, get?_update_seq na1 fun _ => (arrOf st).map (·.2)⟩
    unfold ksk_tail
    try dsimp only
    refine wpAny_bind (listUpdate_at hkS rfl ?_ (by rw [List.size_toArray, sizeLine_eq]; omega) (Nat.zero_le _))
    refine wpAny_bind (wpAny_letGo ?_)
    refine wpAny_bind (seqEpoch_at na1 rfl ?_)
    refine wpAny_bind (listUpdate_at na1 rfl ?_ (Nat.zero_le _) (by simp only [Bool.false_eq_true, if_false, Array.size_map]; rw [hsz, sizeLine_eq]; omega))
    rw [hf]
    simp only [bne_self_eq_false, Bool.false_eq_true, if_false]
    refine wpAny_pure (h _ _ _ c2 (fun b o b1 b2 q => ?_) hc2 ⟨(arrOf st).toList, hs, by rw [← zl]; exact hb, Array.toList_map⟩)
    exact (s2.2 b b2).trans ((s1.2 b b1).trans q)
  unfold ksk_end
  try dsimp only
  simp only [Bool.false_eq_true, if_false]
  by_cases h2 : vs.toArray.size < 2
  · rw [if_pos h2, if_pos h2]
    refine wpAny_bind (wpAny_pure ?_)
    rw [StateT.run_pure]
    refine wpAny_bind (wpAny_pure ?_)
    try dsimp only
    refine tail (SortSt.mk' general' (keys.toArray.zip vs.toArray) #[] 7 none) ?_ (SrtO.Stb.refl _) rfl
    show SrtO.Srtd _ (keys.toArray.zip vs.toArray).toList
    have hl : (keys.toArray.zip vs.toArray).toList.length < 2 := by
      rw [Array.length_toList, zs]
      rw [List.size_toArray] at h2
      exact h2
    match (keys.toArray.zip vs.toArray).toList, hl with
    | [], _ => exact List.Pairwise.nil
    | [v], _ => exact List.pairwise_singleton _ _
    | _ :: _ :: l, h => exact absurd h (by rw [List.length_cons, List.length_cons]; omega)
  · rw [if_neg h2, if_neg h2]
    rw [List.size_toArray] at h2
    obtain ⟨fs, g1, g2, g3⟩ := firstsL hd keys hk
    refine wpAny_bind (PySem.W.kat_kind (T := .type "int") g1 (by omega) (fun f hm => ?_) (by rfl) ?_)
    · obtain ⟨x, t, rfl⟩ := g3 f hm
      exact PySem.W.Looks.now
    have e : (Value.type "int" != Value.type "tuple") = true := by first | decide +kernel | rfl | decide
    rw [e]
    have hall : SrtO.AllL (fun p : Keyed => p.1 ∈ keys) (keys.toArray.zip vs.toArray).toList := fun p hm => by
      rw [zl] at hm
      exact (List.of_mem_zip (a := p.1) (b := p.2) hm).1
    refine wpAny_bind (wpAny_mono (SrtO.wpS_sortO (st0 := SortSt.mk' (tuples' true) (keys.toArray.zip vs.toArray) #[] 7 none)
      (Q := fun _ st' => SrtO.Srtd (SrtO.lt2 fun v u => lexL (k v) (k u)) (arrOf st').toList ∧ SrtO.Stb (SrtO.lt2 fun v u => lexL (k v) (k u)) (arrOf st').toList (keys.toArray.zip vs.toArray).toList ∧ failedOf st' = none)
      (SrtO.swo2 (swo_lexL k)) (cmpL hk) rfl hall rfl rfl fun st' a1 a2 a3 => ⟨a1, a2, a3⟩) ?_ fun _ _ e => e)
    rintro ⟨⟨⟩, st'⟩ s' ⟨rfl, hp1, hp2, hf⟩
    try dsimp only
    exact tail st' hp1 hp2 hf
theorem sortC_rest {f : Value} {s : Shared} {kS : Addr} {e1 : Nat} {P : PySem.Fin → Shared → Prop} (J : Nat → List Value → Shared → Prop) (hka : kS ≠ a) (hZ : vs.length ≤ sizeLine) (h0 : J 0 [] s)
    (hkS : s.heap.get? kS = some (seqObj "list" #[] 0)) (ha : s.heap.get? a = some (seqObj "list" #[] e1))
    (hup : ∀ i ks s' g, J i ks s' → J i ks { s' with heap := s'.heap.update kS (Obj.mapSeq g) })
    (hlen : ∀ i ks s', J i ks s' → ks.length = i)
    (turn : ∀ (i : Nat) (v : Value) ks, vs[i]? = some v → ∀ s', J i ks s' → (∃ e, s'.heap.get? kS = some (seqObj "list" ks.toArray e)) → s'.heap.get? a = some (seqObj "list" #[] e1) →
      wpAny (model prog w) A (call f [v]) (fun u s2 => J (i + 1) (ks ++ [u]) s2 ∧ (∀ o, s'.heap.get? kS = some o → s2.heap.get? kS = some o) ∧ (∀ o, s'.heap.get? a = some o → s2.heap.get? a = some o)) (fun _ _ => False) s')
    (h : ∀ s' ks e, J vs.length ks s' → s'.heap.get? kS = some (seqObj "list" ks.toArray e) → s'.heap.get? a = some (seqObj "list" #[] e1) →
      wpAny (model prog w) A (ksk_end a false vs.toArray e1 (.ref kS) ks.toArray) P E s') :
    wpAny (model prog w) A (ksk_rest a f false vs.toArray e1 (.ref kS)) P E s := by
  have hZ2 := hZ
  rw [sizeLine_eq] at hZ2
  unfold ksk_rest
  refine wpAny_bind (wpAny_rule ?_)
  first
    | rw [List.forIn_toArray]
    | (rw [← Array.forIn_toList]; simp only [List.toList_toArray])
  refine wpAny_bind (ksk_fold (fun i s' => ∃ ks e, J i ks s' ∧ s'.heap.get? kS = some (seqObj "list" ks.toArray e) ∧ s'.heap.get? a = some (seqObj "list" #[] e1)) vs 0 s
    ⟨[], 0, h0, hkS, ha⟩ ?step ?done)
  case step =>
    rintro j x s' hx ⟨ks, e, hJ, gk, ga⟩
    simp only [Nat.zero_add] at hJ ⊢
    have hj := (List.getElem?_eq_some_iff.mp hx).1
    have hl := hlen _ _ _ hJ
    refine wpAny_bind (wpAny_attempt (wpAny_mono (turn j x ks hx s' hJ ⟨e, gk⟩ ga) (fun v s2 he => ?_) fun _ _ hF => hF.elim))
    obtain ⟨J2, q1, q2⟩ := he
    try dsimp only
    have gk2 := q1 _ gk
    have ea : ks.toArray.push v = (ks ++ [v]).toArray := by simp
    refine wpAny_bind (listUpdate_at gk2 rfl ?_ (by rw [List.size_toArray, sizeLine_eq]; omega) (Nat.le_trans (Nat.le_of_eq (Array.size_push ..)) (by rw [List.size_toArray, sizeLine_eq]; omega)))
    refine wpAny_pure ⟨rfl, ks ++ [v], _, hup _ _ s2 _ J2, by rw [← ea]; exact get?_update_seq gk2 (·.push v), ?_⟩
    exact ((Heap.SameBut.update s2.heap kS _).2 a hka.symm).trans (q2 _ ga)
  case done =>
    rintro s' ⟨ks, e, hJ, gk, ga⟩
    simp only [Nat.zero_add] at hJ
    try dsimp only
    refine wpAny_bind (listItems_at gk rfl ?_)
    exact h s' ks e hJ gk ga
end
end Sho
set_option Elab.async false
set_option linter.all false
set_option maxRecDepth 100000
set_option maxHeartbeats 4000000
set_option autoImplicit false
namespace Sho
open PySem PySem.Spec PyProof.Rows L2 LamX NdefX Shg
def toI : V → Int
  | .int n => n
  | _ => 0
theorem toI_map (ns : List Int) : (ns.map V.int).map toI = ns := by
  rw [List.map_map]
  conv => rhs; rw [← List.map_id ns]
  rfl
/-- the ints of a tuple -/
def intsAt (H : Hp) : Value → List Int
  | .ref t => match H t with
    | some (.tup xs) => xs.map toI
    | _ => []
  | _ => []
theorem intsAt_of {H : Hp} {t : Addr} {ns : List Int} (h : H t = some (.tup (ns.map V.int))) : intsAt H (.ref t) = ns := by
  unfold intsAt
  simp only
  rw [h]
  exact toI_map ns
/-- the keys found: new tuples of ints -/
def KeysAt (H : Hp) : List Value → List (List Int) → Prop := PySem.Paired fun u n => ∃ t, u = Value.ref t ∧ H t = some (.tup (n.map V.int))
theorem KeysAt.mono {H H' : Hp} (s : Same H H') {us : List Value} {kz : List (List Int)} (h : KeysAt H us kz) : KeysAt H' us kz := Shg.pair_mono (fun _ _ ⟨t, e, q⟩ => ⟨t, e, s _ _ q⟩) h
theorem KeysAt.ints {H : Hp} {us : List Value} {kz : List (List Int)} (h : KeysAt H us kz) : us.map (intsAt H) = kz := by
  unfold KeysAt at h
  induction h with
  | nil => rfl
  | cons a t ih =>
    obtain ⟨t0, rfl, q⟩ := a
    rw [List.map_cons, ih, intsAt_of q]
theorem KeysAt.mem {H : Hp} {us : List Value} {kz : List (List Int)} (h : KeysAt H us kz) : ∀ u ∈ us, ∃ t n, u = Value.ref t ∧ H t = some (.tup (n.map V.int)) ∧ n ∈ kz := by
  unfold KeysAt at h
  induction h with
  | nil => intro u hu; cases hu
  | cons a t ih =>
    intro u hu
    rcases List.mem_cons.mp hu with rfl | hu
    · obtain ⟨t0, e, q⟩ := a
      exact ⟨t0, _, e, q, List.mem_cons_self⟩
    · obtain ⟨t0, n, e, q, m⟩ := ih u hu
      exact ⟨t0, n, e, q, List.mem_cons_of_mem _ m⟩
theorem KeysAt.snoc {H : Hp} : ∀ {us : List Value} {kz : List (List Int)} {t : Addr} {n : List Int}, KeysAt H us kz → H t = some (.tup (n.map V.int)) → KeysAt H (us ++ [.ref t]) (kz ++ [n])
  | _, _, t, n, .nil, q => .cons ⟨t, rfl, q⟩ .nil
  | _, _, t, n, .cons a r, q => .cons a (KeysAt.snoc r q)
theorem zip_unVL {H : Hp} : ∀ {ys : List V} {us : List Value} (ks : List Value), Vals ys us → (ks.zip us).map (fun p : Keyed => (intsAt H p.1, unV p.2)) = (ks.map (intsAt H)).zip ys
  | _, _, [], _ => rfl
  | _, _, _ :: _, .nil => by simp
  | _, _, k :: ks, .cons r rs => by
    simp only [List.zip_cons_cons, List.map_cons]
    rw [unV_of r, zip_unVL ks rs]
theorem outC {H : Hp} {us vs out : List Value} {ys : List V} {kz : List (List Int)} (rv : Vals ys vs) (ku : KeysAt H us kz) (hl : us.length = vs.length)
    (h : ∃ ps : List Keyed, SrtO.Srtd (SrtO.lt2 fun v u => lexL (intsAt H v) (intsAt H u)) ps ∧ SrtO.Stb (SrtO.lt2 fun v u => lexL (intsAt H v) (intsAt H u)) ps (us.zip vs) ∧ out = ps.map (·.2)) :
    ∃ ys', SortedBy kz ys ys' ∧ Vals ys' out := by
  obtain ⟨ps, h1, h2, rfl⟩ := h
  have ez : (us.zip vs).map (fun p : Keyed => (intsAt H p.1, unV p.2)) = kz.zip ys := by
    rw [← ku.ints, ← zip_unVL us rv]
  refine ⟨(ps.map fun p : Keyed => (intsAt H p.1, unV p.2)).map (·.2), ⟨_, SrtO.srtd_map (lt := fun p q : List Int × V => lexL p.1 q.1) h1, ?_, rfl⟩, ?_⟩
  · rw [← ez]
    exact SrtO.Stb.map (swo_lexL fun p : List Int × V => p.1) _ h2
  · rw [List.map_map]
    have : Vals ((ps.map (·.2)).map unV) (ps.map (·.2)) := vals_un fun u hu => by
      obtain ⟨p, hp, rfl⟩ := List.mem_map.mp hu
      exact vals_mem rv (List.of_mem_zip (a := p.1) (b := p.2) (h2.perm.mem_iff.mp hp)).2
    rw [List.map_map] at this
    exact this
section
variable {X : Cx} {k : Nat}
/-- sorted(xs, key=f): f a lambda that hands back a new tuple of d ints -/
def rSortC (X : Cx) (k : Nat) : List V → List V → Hp → VK → Prop := fun xs zs H Q => ∃ (a f : Addr) (ys : List V) (kz : List (List Int)) (d : Nat), xs = [V.ref a] ∧ zs = [V.ref f] ∧ (SqL X.K H a ys ∨ SqT X.K H a ys) ∧ kz.length = ys.length ∧ 1 ≤ d ∧ (∀ n ∈ kz, n.length = d) ∧
  (∀ (A : Around) (outer : List Env) (s : Shared) (H1 : Hp) (i : Nat) (v : V) (n : List Int) (u : Value), Room k A → Env0 X.prog X.w X.K X.mg X.base A outer s H1 → Same H H1 → ys[i]? = some v → kz[i]? = some n → RelV v u →
    codeAny (model X.prog X.w) A (.call (.ref f) ⟨[u], []⟩) (CR CX0 outer X.prog X.w H1 s (fun r H' => ∃ t, r = .ref t ∧ H1 t = none ∧ H' = upd H1 t (.tup (n.map V.int))) E0) s) ∧
  ∀ p H' out, Same H H' → H' p = some (.lst out) → SortedBy kz ys out → Q (.ref p) H'
theorem cr_sortedC (hr : Room (k + 3) X.A) : CallRK X (.builtin "sorted") [Str.ofString "key"] (rSortC X k) := by
  rintro pins s σ H xs zs us ws Q I rx rz ⟨l, f, ys, kz, d, rfl, rfl, hl, hlen, hd1, hdn, hkey, hq⟩
  obtain ⟨us1, rfl⟩ : ∃ u, us = [u] := by cases rx with | cons r t => cases t; exact ⟨_, rfl⟩
  obtain ⟨ws1, rfl⟩ : ∃ u, ws = [u] := by cases rz with | cons r t => cases t; exact ⟨_, rfl⟩
  obtain rfl : us1 = .ref l := by cases rx with | cons r t => exact r
  obtain rfl : ws1 = .ref f := by cases rz with | cons r t => exact r
  obtain ⟨vs, T, o1, n1, rv, hT, e1, e2, e3, hZ⟩ : ∃ (vs : List Value) (T : String) (o1 : Obj) (n1 : Nat), Vals ys vs ∧ (T = "list" ∨ T = "tuple") ∧ s.heap.get? l = some o1 ∧ o1.cls = .type T ∧ o1.data = .seq vs.toArray n1 ∧ ys.length ≤ sizeLine := by
    rcases hl with hl | hl
    · obtain ⟨vs, rv, pl, hZ⟩ := I.list hl
      obtain ⟨o, n, e1, e2, _, e3⟩ := pl
      exact ⟨vs, "list", o, n, rv, .inl rfl, e1, e2, e3, hZ⟩
    · obtain ⟨vs, rv, pl, hZ⟩ := I.tuple hl
      obtain ⟨o, e1, e2, n, e3⟩ := pl
      exact ⟨vs, "tuple", o, n, rv, .inr rfl, e1, e2, e3, hZ⟩
  have hlv : kz.length = vs.length := by rw [hlen, rv.length]
  have hZv : vs.length ≤ sizeLine := by rw [← rv.length]; exact hZ
  have hZ2 := hZv
  rw [sizeLine_eq] at hZ2
  show wpAny _ _ (call (.builtin "sorted") [.ref l] [(Str.ofString "key", .ref f)]) _ _ _
  refine call_function_entry_kw kind_sorted plain_sorted entry_sorted (ksk_s1 _ _) ?_
  unfold Builtin.«sorted»
  refine wpAny_bind (m := checkCount "sorted" 1 1 _) (wpAny_pure ?_)
  refine wpAny_bind (collect_any hT e1 e2 e3 ?_ hZv)
  refine wpAny_bind (wpAny_newList ?_ (by rw [sizeLine_eq]; omega))
  generalize hh1 : ((s.heap.push (seqObj "list" #[] 0)).update s.heap.objs.size (Obj.mapSeq (· ++ vs.toArray))) = h1
  have z1 : h1.objs.size = s.heap.objs.size + 1 := by rw [← hh1, Heap.size_update, size_push']
  have k1 : ∀ b o, s.heap.get? b = some o → h1.get? b = some o := fun b o q => by
    have lt := Heap.lt_size q
    rw [← hh1, Heap.get?_update_ne _ _ _ _ (Nat.ne_of_lt lt), Heap.get?_push_ne _ _ _ (Nat.ne_of_lt lt)]
    exact q
  show wpAny _ _ _ _ _ { s with heap := h1.push (seqObj "list" vs.toArray 0) }
  have k2 : ∀ b o, s.heap.get? b = some o → (h1.push (seqObj "list" vs.toArray 0)).get? b = some o := fun b o q => Heap.get?_push_of_some _ (k1 b o q)
  have g2 : (h1.push (seqObj "list" vs.toArray 0)).get? h1.objs.size = some (seqObj "list" vs.toArray 0) := Heap.get?_push_size _ rfl
  generalize ha0 : h1.objs.size = a0 at g2 ⊢
  generalize hh2 : h1.push (seqObj "list" vs.toArray 0) = h2 at g2 k2 ⊢
  have a0s : s.heap.objs.size ≤ a0 := by omega
  have z2 : h2.objs.size = a0 + 1 := by rw [← hh2, size_push', ha0]
  refine wpAny_bind (wpAny_holding (wpAny_call_entry_kw slot_list_sort ⟨_, g2, rfl⟩ entry_list_sort ?body (ksk_l1 _ _)))
  case body =>
    show wpAny _ X.A.in1.in1 (Builtin.«list.sort» ⟨[.ref a0], [(Str.ofString "key", .ref f)]⟩) _ _ _
    rw [ksk_t1]
    unfold ksk_tree
    have sb3 := Heap.SameBut.update h2 a0 (Obj.mapSeq fun _ => (#[] : Array Value))
    obtain ⟨e1, g3⟩ : ∃ e1, (h2.update a0 (Obj.mapSeq fun _ => (#[] : Array Value))).get? a0 = some (seqObj "list" #[] e1) := ⟨_, get?_update_seq g2 fun _ => #[]⟩
    have z3 : (h2.update a0 (Obj.mapSeq fun _ => (#[] : Array Value))).objs.size = a0 + 1 := by rw [Heap.size_update, z2]
    refine wpAny_bind (listItems_at g2 rfl ?_)
    refine wpAny_bind (listUpdate_at g2 rfl ?_ (by rw [List.size_toArray, sizeLine_eq]; omega) (Nat.zero_le _))
    refine wpAny_bind (seqEpoch_at g3 rfl ?_)
    have k3 : ∀ b o, s.heap.get? b = some o → (h2.update a0 (Obj.mapSeq fun _ => (#[] : Array Value))).get? b = some o := fun b o q =>
      (sb3.2 b (Nat.ne_of_lt (Nat.lt_of_lt_of_le (Heap.lt_size q) a0s))).trans (k2 b o q)
    generalize h2.update a0 (Obj.mapSeq fun _ => (#[] : Array Value)) = h3 at g3 k3 z3
    refine wpAny_bind (wpAny_newTuple ?_ (by show vs.length ≤ _; rw [sizeLine_eq]; omega))
    refine wpAny_bind (wpAny_newList ?_ (Nat.zero_le _))
    refine wpAny_holding ?_
    have z4 : (h3.push (seqObj "tuple" vs.toArray 0)).objs.size = a0 + 2 := by rw [size_push', z3]
    have k5 : ∀ b o, h3.get? b = some o → ((h3.push (seqObj "tuple" vs.toArray 0)).push (seqObj "list" #[] 0)).get? b = some o := fun b o q => Heap.get?_push_of_some _ (Heap.get?_push_of_some _ q)
    have gk : ((h3.push (seqObj "tuple" vs.toArray 0)).push (seqObj "list" #[] 0)).get? (h3.push (seqObj "tuple" vs.toArray 0)).objs.size = some (seqObj "list" #[] 0) := Heap.get?_push_size _ rfl
    have ga := k5 _ _ g3
    generalize hkS : (h3.push (seqObj "tuple" vs.toArray 0)).objs.size = kS at gk
    have hkS2 : kS = a0 + 2 := by rw [← hkS]; exact z4
    have h5k : ∀ b o, s.heap.get? b = some o → ((h3.push (seqObj "tuple" vs.toArray 0)).push (seqObj "list" #[] 0)).get? b = some o := fun b o q => k5 b o (k3 b o q)
    show wpAny _ _ (ksk_rest a0 (.ref f) false vs.toArray e1 (.ref kS)) _ _ { s with heap := (h3.push (seqObj "tuple" vs.toArray 0)).push (seqObj "list" #[] 0) }
    generalize (h3.push (seqObj "tuple" vs.toArray 0)).push (seqObj "list" #[] 0) = h5 at gk ga h5k
    have I5 : Inv X pins σ H { s with heap := h5 } := I.kept (t' := s.toks) h5k
    have na : H a0 = none := I.hok.fresh a0s
    have nk : H kS = none := I.hok.fresh (by omega)
    have fa := I.fpOk a0s na
    have fk := I.fpOk (b := kS) (by omega) nk
    have hka : kS ≠ a0 := by omega
    obtain ⟨m0, hm0, _⟩ := I5.loc
    have nstk : ∀ b, FpOk X pins H b → b ∉ frs X.stack := fun b fb hb => by
      rcases List.mem_cons.mp (I.stkSub b hb) with z | z
      · exact fb.2.1 z
      · exact fb.2.2.1 z
    have nsOne : ∀ {g : Heap} {m1 m2 : Str → Option Value}, g.Ns X.env.locals m1 → g.Ns X.env.locals m2 → m1 = m2 := by
      rintro g m1 m2 ⟨o, es, ep, q1, q2, _, q3⟩ ⟨o', es', ep', r1, r2, _, r3⟩
      rw [q1] at r1
      cases r1
      rw [q2] at r2
      cases r2
      funext y
      rw [← q3, ← r3]
    have fkH : ∀ Hi, Hi kS = none → FpOk X pins Hi kS := fun Hi e => ⟨e, fk.2⟩
    have faH : ∀ Hi, Hi a0 = none → FpOk X pins Hi a0 := fun Hi e => ⟨e, fa.2⟩
    have nst : ∀ b, (b = kS ∨ b = a0) → b ∉ frs X.stack := fun b hb => by
      rcases hb with rfl | rfl
      · exact nstk _ fk
      · exact nstk _ fa
    let J : Nat → List Value → Shared → Prop := fun i ks s' => ∃ Hi, Inv X pins σ Hi s' ∧ s'.heap.Ns X.env.locals m0 ∧ Same H Hi ∧ Hi kS = none ∧ Hi a0 = none ∧ KeysAt Hi ks (kz.take i) ∧ ks.length = i
    refine sortC_rest (J := J) hka hZv ⟨H, I5, hm0, Same.refl _, nk, na, by rw [List.take_zero]; exact .nil, rfl⟩ gk ga (fun i ks s' g q => ?_) (fun i ks s' q => ?_) (fun i v ks hv s' q gk' ga' => ?_)
      fun s' ks e q gk' ga' => ?_
    · obtain ⟨Hi, I', hm', sH, nk', na', ku, kl⟩ := q
      have sb := Heap.SameBut.update s'.heap kS (Obj.mapSeq g)
      refine ⟨Hi, I'.turned (t' := s'.toks) (fun b o hb e => (sb.2 b hb).trans e) nk' fk.2.1 fk.2.2.2.1 fk.2.2.2.2.1 fk.2.2.2.2.2, ?_, sH, nk', na', ku, kl⟩
      exact hm'.sameBut sb (Ne.symm fk.2.1)
    · obtain ⟨Hi, _, _, _, _, _, ku, kl⟩ := q
      exact kl
    · obtain ⟨Hi, I', hm', sH, nk', na', ku, kl⟩ := q
      have hil := (List.getElem?_eq_some_iff.mp hv).1
      obtain ⟨n, hn⟩ : ∃ n, kz[i]? = some n := ⟨_, List.getElem?_eq_getElem (by omega)⟩
      obtain ⟨y, hy⟩ : ∃ y, ys[i]? = some y := by
        cases e : ys[i]? with
        | some y => exact ⟨y, rfl⟩
        | none =>
          rw [rv.none_of e] at hv
          cases hv
      obtain ⟨v2, hv2, ry⟩ := rv.get hy
      rw [hv] at hv2
      cases hv2
      have e0 := I'.env0.in1.in1
      have room : Room k X.A.in1.in1 := (((hr.mono (show k + 2 ≤ k + 3 by omega)).in1).in1).mono (Nat.le_refl _)
      have run := hkey X.A.in1.in1 X.stack s' Hi i y n v room e0 sH hy hn ry
      refine wpAny_call (codeAny_mono run fun r s2 hq2 => ?_)
      cases r with
      | error e => exact False.elim hq2
      | ok fl =>
        cases fl with
        | ret u =>
          have hq3 : CE X.stack X.prog X.w Hi s' (fun r H' => ∃ t, r = .ref t ∧ Hi t = none ∧ H' = upd Hi t (.tup (n.map V.int))) u s2 := hq2
          have un := hq3
          obtain ⟨_, _, _, _, un, _⟩ := un
          obtain ⟨w2, H2, I2, r2, t, rfl, hnt, rfl⟩ := I'.after hq3
          obtain rfl : u = .ref t := r2
          obtain ⟨ek, gk'⟩ := gk'
          have kk := un.keep kS _ gk' nk' (nst _ (.inl rfl)) (by simp)
          have ka := un.keep a0 _ ga' na' (nst _ (.inr rfl)) (by simp)
          have off : ∀ b (arr : Array Value) e, s2.heap.get? b = some (seqObj "list" arr e) → t ≠ b := fun b arr e q z => by
            subst z
            obtain ⟨_, its2, _, o2, ho2, hc2, _, _⟩ := I2.hok t _ upd_same
            rw [q] at ho2
            cases ho2
            exact absurd (Value.type.inj hc2) (by decide)
          have tk := off _ _ _ kk
          have ta := off _ _ _ ka
          have sU : Same Hi (upd Hi t (.tup (n.map V.int))) := Shg.same_upd hnt
          refine ⟨⟨_, I2, ?_, sH.trans sU, by rw [upd_ne (Ne.symm tk)]; exact nk', by rw [upd_ne (Ne.symm ta)]; exact na', ?_, by rw [List.length_append, kl]; rfl⟩, fun o e => un.keep kS o e nk' (nst _ (.inl rfl)) (by simp), fun o e => un.keep a0 o e na' (nst _ (.inr rfl)) (by simp)⟩
          · obtain ⟨o, es, ep, ho, hd, hs, hf'⟩ := hm'
            by_cases hL : X.env.locals ∈ frs X.stack
            · obtain ⟨sl, e2⟩ := un.slot _ o ho I'.free hL (by simp)
              exact ⟨_, es, ep, e2, hd, hs, hf'⟩
            · exact ⟨o, es, ep, un.keep _ o ho I'.free hL (by simp), hd, hs, hf'⟩
          · rw [List.take_add_one, hn]
            exact KeysAt.snoc (ku.mono sU) upd_same
        | next => exact False.elim hq2
        | brk => exact False.elim hq2
        | cont => exact False.elim hq2
    · obtain ⟨Hi, I', hm', sH, nk', na', ku, kl⟩ := q
      have et : kz.take vs.length = kz := List.take_of_length_le (by omega)
      rw [et] at ku
      have hkT : TupsL s'.heap d (intsAt Hi) ks := fun u hu => by
        obtain ⟨t, n, rfl, ht, hn⟩ := ku.mem u hu
        rw [intsAt_of ht]
        exact ⟨tupI_raw I' (SqT.of ht), hdn n hn⟩
      refine sortC_end hka gk' ga' hd1 hkT kl hZv fun h' tk out c n2 n3 n4 => ?_
      obtain ⟨ys', sby, rout⟩ := outC rv ku kl n4
      have lys : ys'.length ≤ sizeLine := by
        obtain ⟨ps, _, b2, e⟩ := sby
        rw [e, List.length_map, b2.len, List.length_zip]
        exact Nat.le_trans (Nat.min_le_right ..) hZ
      have ex : ∀ b o, b ≠ X.env.locals → b ∉ [kS, a0] → s'.heap.get? b = some o → h'.get? b = some o := fun b o b1 b2 e => by
        simp only [List.mem_cons, List.not_mem_nil, or_false, not_or] at b2
        exact n2 b o b2.1 b2.2 e
      have n1 : h'.Ns X.env.locals m0 := by
        obtain ⟨o, es, ep, q, r1, r2, r3⟩ := hm'
        exact ⟨o, es, ep, n2 _ _ (Ne.symm fk.2.1) (Ne.symm fa.2.1) q, r1, r2, r3⟩
      have tr : ∀ b u, Hi b = some u → b ≠ a0 := fun b u e z => by rw [z, na'] at e; cases e
      have up : ∀ b u, Hi b = some u → upd Hi a0 (.lst ys') b = some u := fun b u e => by rw [upd_ne (tr b u e)]; exact e
      have off : ∀ b u, Hi b = some u → b ≠ X.env.locals ∧ b ∉ [kS, a0] := fun b u e => by
        refine ⟨fun z => ?_, fun z => ?_⟩
        · rw [z, I'.free] at e
          cases e
        · simp only [List.mem_cons, List.not_mem_nil, or_false] at z
          rcases z with z | z
          · rw [z, nk'] at e
            cases e
          · exact tr b u e z
      refine ⟨_, rfl, ?_⟩
      refine wpAny_pure ⟨_, rfl, .ref a0, upd Hi a0 (.lst ys'), ?_, rfl, hq a0 _ ys' (sH.trans (Shg.same_upd na')) upd_same sby⟩
      refine I'.step (g' := s'.gens) (d' := s'.drawn) (t' := tk) (h' := h') (ch := [kS, a0]) (fun b hb => ?_) (fun b o b1 _ b3 e _ => ex b o b1 b3 e) (fun b o b1 _ b3 e _ => ⟨o.slots, ex b o b1 b3 e⟩)
        (fun b o b3 e n => ?_) (fun b o b3 e => ?_) (fun b u e => up b _ e) (fun b o u e => up b _ e) (fun b ps e => ⟨#[], by rw [up b _ e]; simp⟩) (fun m' hm2 => ?_) (fun b u e => ?_) I'.bare
      · simp only [List.mem_cons, List.not_mem_nil, or_false] at hb
        rcases hb with rfl | rfl
        · exact ⟨fk.2.2.2.1, fk.2.1, fk.2.2.2.2.1, fk.2.2.2.2.2⟩
        · exact ⟨fa.2.2.2.1, fa.2.1, fa.2.2.2.2.1, fa.2.2.2.2.2⟩
      · simp only [List.mem_cons, List.not_mem_nil, or_false, not_or] at b3
        rw [upd_ne b3.2]
        exact n
      · by_cases bL : b = X.env.locals
        · rw [bL]
          obtain ⟨o', _, _, q, _⟩ := n1
          exact ⟨o', q⟩
        · exact ⟨o, ex b o bL b3 e⟩
      · rw [nsOne hm2 hm']
        exact n1
      · by_cases hb : b = a0
        · subst hb
          rw [upd_same] at e
          cases e
          exact ⟨lys, out.toList, c, rout, by rw [n3]⟩
        · rw [upd_ne hb] at e
          refine (I'.hok b u e).stay (fun d v hd q => ?_) (fun d q => up d _ q) fun d xs q => up d _ q
          rcases hd with rfl | hd
          · exact ex _ v (off _ _ e).1 (off _ _ e).2 q
          · exact ex _ v (off _ _ hd).1 (off _ _ hd).2 q
end
end Sho
set_option Elab.async false
set_option linter.all false
set_option maxRecDepth 100000
set_option maxHeartbeats 4000000
set_option autoImplicit false
/-! calmest_order. -/
namespace Cm
open PySem L2 Sho NdefX Shg Sh1
abbrev qCalm : Str := "calmest_order.<locals>.<lambda>"
def calmK (x : Stay) : List Int := [x.2.1, -x.2.2]
/-- the lambda (stay[1], -stay[2]) -/
theorem key_calm {P : Program} {w : World} {K : PySem.W.Frag} {mg : Str → Option Value} {base : Heap} {Z : LF} {f : Addr} {H : Hp} {x : Str} (l : LamAt H f Z) (S : NScope [x] [x] [] Z.F.scope) (hcl : Z.F.cl = []) (hb : ∀ (pm ctv u : Value), bindArgs (Z.fd pm ctv) ⟨[u], []⟩ = pure [(x, u)])
    (body : ∀ (A : Around) (outer : List Env) (s : Shared), PE (lcx CX0 P w K mg base [x] Z f A outer s H E0) Z.e (tTup (tCons (tOp (rIxT K) (tVar 0) (tC (.int 1))) (tCons (tUn (rU fun i => .int (-i)) (tOp (rIxT K) (tVar 0) (tC (.int 2)))) tNil))))
    {A : Around} {outer : List Env} {s : Shared} {v : V} {y : Stay} {u : Value} (hr : Room 1 A) (e0 : Env0 P w K mg base A outer s H) (hv : ∃ t, v = .ref t ∧ H t = some (.tup [.str y.1, .int y.2.1, .int y.2.2])) (ru : RelV v u) :
    codeAny (model P w) A (.call (.ref f) ⟨[u], []⟩) (CR CX0 outer P w H s (fun r H' => ∃ t, r = .ref t ∧ H t = none ∧ H' = upd H t (.tup ((calmK y).map V.int))) E0) s := by
  obtain ⟨pm, ctv, ho⟩ := lamO_at e0.hok l.o
  obtain ⟨t, rfl, ht⟩ := hv
  have C : CellsAt Z.F.cl [] [] s.heap H := by
    rw [hcl]
    exact ⟨rfl, fun _ _ e => (nomatch e), fun _ _ _ e => (nomatch e), fun i y e => (nomatch e)⟩
  refine lam_call (ps := [x]) (us := [u]) (vs := [.ref t]) S hr e0 ho (codeO_at e0.hok l.c) (.of_eq (hb pm ctv u)) rfl C (.cons ru .nil) (fun _ => body A outer s) ?_
  refine ⟨_, rfl, t, _, 1, .int y.2.1, rfl, rfl, SqT.of ht, atI_nat (j := 1) rfl, _, rfl, t, _, 2, .int y.2.2, rfl, rfl, SqT.of ht, atI_nat (j := 2) rfl, _, rfl, by show 2 ≤ sizeLine; decide, fun q hq => ⟨q, rfl, hq, rfl⟩⟩
/-- back to stays -/
def unStay (H : Hp) : V → Stay
  | .ref t => match H t with
    | some (.tup [.str n, .int c, .int g]) => (n, c, g)
    | _ => ((default : Str), 0, 0)
  | _ => ((default : Str), 0, 0)
theorem unStay_of {H : Hp} {v : V} {x : Stay} (h : StayV H v x) : unStay H v = x := by
  obtain ⟨t, rfl, ht⟩ := h
  unfold unStay
  simp only [ht]
theorem unStays {H : Hp} {ws : List V} {xs : List Stay} (h : StaysV H ws xs) : ws.map (unStay H) = xs := by
  unfold StaysV at h
  induction h with
  | nil => rfl
  | cons a t ih => rw [List.map_cons, ih, unStay_of a]
theorem stays_sub {H : Hp} {ws : List V} {xs : List Stay} (h : StaysV H ws xs) : ∀ v ∈ ws, StayV H v (unStay H v) := by
  unfold StaysV at h
  induction h with
  | nil => intro v hv; cases hv
  | cons a t ih =>
    intro v hv
    rcases List.mem_cons.mp hv with rfl | hv
    · rw [unStay_of a]
      exact a
    · exact ih v hv
theorem stays_all {H : Hp} : ∀ {ws : List V}, (∀ v ∈ ws, StayV H v (unStay H v)) → StaysV H ws (ws.map (unStay H))
  | [], _ => .nil
  | v :: ws, h => .cons (h v List.mem_cons_self) (stays_all fun u hu => h u (List.mem_cons_of_mem _ hu))
theorem zip_mapR {α β γ : Type} (f : β → γ) : ∀ (as : List α) (bs : List β), (as.zip bs).map (fun p => (p.1, f p.2)) = as.zip (bs.map f)
  | [], _ => rfl
  | _ :: _, [] => rfl
  | a :: as, b :: bs => by
    rw [List.zip_cons_cons, List.map_cons, List.map_cons, List.zip_cons_cons, zip_mapR f as bs]
theorem sorted_stays {H : Hp} {kz : List (List Int)} {ws out : List V} {xs : List Stay} (h : SortedBy kz ws out) (sv : StaysV H ws xs) : ∃ ys, SortedBy kz xs ys ∧ StaysV H out ys := by
  obtain ⟨ps, h1, h2, rfl⟩ := h
  refine ⟨(ps.map (·.2)).map (unStay H), ⟨ps.map fun p => (p.1, unStay H p.2), ?_, ?_, ?_⟩, stays_all fun v hv => ?_⟩
  · exact SrtO.srtd_map (lt := fun p q : List Int × Stay => lexL p.1 q.1) (f := fun p : List Int × V => (p.1, unStay H p.2)) h1
  · have := SrtO.Stb.map (lt := fun p q : List Int × Stay => lexL p.1 q.1) (swo_lexL fun p : List Int × Stay => p.1) (fun p : List Int × V => (p.1, unStay H p.2)) h2
    rw [zip_mapR, unStays sv] at this
    exact this
  · rw [List.map_map, List.map_map]
    rfl
  · obtain ⟨p, hp, rfl⟩ := List.mem_map.mp hv
    exact stays_sub sv _ (List.of_mem_zip (a := p.1) (b := p.2) (h2.perm.mem_iff.mp hp)).2
theorem sorted_perm {α : Type} {kz : List (List Int)} {xs ys : List α} (h : SortedBy kz xs ys) (hl : kz.length = xs.length) : ys.Perm xs := by
  obtain ⟨ps, _, h2, rfl⟩ := h
  have := h2.perm.map (·.2)
  rw [List.map_snd_zip (by omega)] at this
  exact this
section
variable {P : Program} {w : World} {K : PySem.W.Frag} {mg : Str → Option Value} {base : Heap}
def spCalm (C : Addr) (T : List (Addr × Str)) : Sp := fun vs H Q _ => ∃ (p : Addr) (xs : List Stay), vs = [.ref p] ∧ PartyAt C H p xs ∧ Short xs ∧ Valid xs ∧ LamX.Tabs T H ∧
  ∀ q H' ys, Grows T H H' → PartyAt C H' q ys → SortedBy (xs.map calmK) xs ys → Q (.ref q) H'
theorem scCalm : FnScope ["party", "stays"] ["party"] (defScope sCalmest) := ⟨rfl, rfl, rfl, by decide +kernel, rfl, by decide +kernel, by decide +kernel⟩
theorem valid_perm {xs ys : List Stay} (p : ys.Perm xs) (v : Valid xs) : Valid ys := ⟨by rw [p.length_eq]; exact v.len, (p.map _).nodup_iff.mpr v.nd, fun z hz => v.ok z (p.mem_iff.mp hz)⟩
theorem ok_calm {f c TP C CI fI fSt pSt : Addr} {fd fdSt : FuncData} {T : List (Addr × Str)} (F : Shg.FunL K "calmest_order" "calmest_order" sCalmest f c fd) (B : Shg.Blt mg) (PC : PartyC K mg C) (TB : LamX.TabB base mg c TP) (hm : (TP, qCalm) ∈ T) (hu : ∀ p ∈ T, p.1 = TP → p.2 = qCalm)
    (M : Mk K C fI) (GI : FnR P w K mg base (L2.CX P w) 5 fI (spPNew C CI)) (GSt : FnOk P w K mg base CX0 1 fSt fdSt ["self"] (getSp C "_stays")) (hSt : PropOf K C "stays" pSt fSt) (bSt : Binds K fdSt ["self"] []) :
    FnOk P w K mg base (L2.CX P w) 7 f fd ["party"] (spCalm C T) := by
  refine Shg.FunL.okX F scCalm (fun vs H Q E h => ?_) (fun A outer s H vs Q E hr h => ?_)
  · obtain ⟨p, xs, rfl, _⟩ := h
    rfl
  obtain ⟨p, xs, rfl, PA, hs, hv, hT, k⟩ := h
  have nd := scCalm.nd
  have pass : Passes (L2.CX P w) (cxOf (L2.CX P w) P w K mg base ["party", "stays"] "calmest_order" (defScope sCalmest) f (.ref c) A outer s H E) E := passes_call (takes_of rfl rfl rfl rfl) fun _ _ _ _ z => z
  refine ⟨_, pss_cons (ps_set (i := 1) nd rfl (Or.inl rfl) (pe_callBK (cr_sortedC (k := 1) (hr.mono (by decide))) (by rfl) B.sorted (by decide +kernel) (pa_cons (pe_prop (pv 0) PC.cl hSt GSt (hr.mono (by decide)) bSt .nil pass0 rfl) pa_nil) (pk_cons (pe_lam TB rfl hm hu (Shg.free_by (os := (defScope sCalmest).names) (by decide +kernel))) pk_nil)))
    (pss_one (ps_ret (pe_makeS M GI (hr.mono (by decide)) rfl PC.gm pass (pv 1)))), ?_⟩
  obtain ⟨dx, a, ws, h1, h2, h3⟩ := id PA
  have lw := Shg.pair_len h3
  refine ⟨_, rfl, p, dx, _, rfl, h1, p, dx, _, .ref a, rfl, h1, lk_stays _, hT, fun f0 c0 H1 G1 n0 l0 => ⟨a, f0, ws, xs.map calmK, 2, rfl, rfl, .inr (sqt_grows G1.ext (SqT.of h2)), by rw [List.length_map, lw], by decide, fun n hn => ?_, fun A' outer' s' H2 i v n u hr' e0 s2 hv2 hn ru => ?_, fun q H2 out s2 e2 so => ?_⟩⟩
  · obtain ⟨x, _, rfl⟩ := List.mem_map.mp hn
    rfl
  · rw [List.getElem?_map] at hn
    obtain ⟨y, hy, rfl⟩ := Option.map_eq_some_iff.mp hn
    obtain ⟨x, hx, t, rfl, ht⟩ := Shg.pair_get h3 hv2
    rw [hy] at hx
    cases hx
    exact key_calm (y := y) (l0.ext (LamX.ExtN.of s2)) (nscope_by (sc := Shg.scL [("stay", .local)]) (by decide +kernel)) rfl (fun _ _ _ => rfl) (fun A outer s => pe_tup (pa_cons (pe_ix ix_tup (pv 0) pe_int (fun _ _ => rfl)) (pa_cons (pe_un un_neg (pe_ix ix_tup (pv 0) pe_int (fun _ _ => rfl))) pa_nil))) hr' e0
      ⟨t, rfl, s2 _ _ (G1.ext _ _ ht fun _ z => nomatch z)⟩ ru
  · have g2 := G1.trans (Sh1.Grows.of s2)
    have sv : StaysV H2 ws xs := Shg.pair_mono (fun _ _ ⟨t, q, ht⟩ => ⟨t, q, g2.ext _ _ ht fun _ z => nomatch z⟩) h3
    obtain ⟨ys, so2, sv2⟩ := sorted_stays so sv
    have pm : ys.Perm xs := sorted_perm so2 (List.length_map _)
    have lo : out.length = ys.length := Shg.pair_len sv2
    have hv3 := valid_perm pm hv
    refine Shg.name_of ⟨_, rfl, q, out, rfl, .inr (SqL.of e2), ?_⟩
    refine party_new sv2 (fun z hz => hs z (pm.mem_iff.mp hz)) (by rw [lo, pm.length_eq]; exact Nat.le_trans hv.len (by decide)) (fun _ r H3 s3 _ PR => k r H3 ys (g2.trans (Sh1.Grows.of s3)) PR so2) fun i hi => ?_
    rw [valid_iff.mpr hv3] at hi
    cases hi
end
end Cm
set_option Elab.async false
set_option linter.all false
set_option maxRecDepth 100000
set_option maxHeartbeats 4000000
set_option autoImplicit false
/-! The calmest order, numbers only. -/
namespace Cm
open PySem L2 Sho NdefX Shg Sh1 Qu
theorem above_sub (x : Rw) : ∀ l : List Rw, (above x l).Sublist l
  | [] => .slnil
  | y :: l => by
    unfold above
    split
    · exact List.sublist_cons_self ..
    · exact (above_sub x l).cons _
theorem lifted_mem {rs : List Rw} (nd : rs.Nodup) {x z : Rw} : z ∈ lifted rs x ↔ [x, z].Sublist (bot rs) ∧ z.come < x.go ∧ x.go < z.go := by
  have nb : (bot rs).Nodup := (bot_perm rs).nodup_iff.mpr nd
  unfold lifted
  rw [List.mem_filter, List.mem_reverse, above_two nb]
  unfold crosses
  rw [Bool.and_eq_true, decide_eq_true_iff, decide_eq_true_iff]
theorem lifted_nodup {rs : List Rw} (nd : rs.Nodup) (x : Rw) : (lifted rs x).Nodup := by
  have nb : (bot rs).Nodup := (bot_perm rs).nodup_iff.mpr nd
  unfold lifted
  exact ((List.reverse_perm _).nodup_iff.mpr (nb.sublist (above_sub x _))).sublist List.filter_sublist
theorem lifted_less {ys rs : List Rw} (s : ys.Sublist rs) (nd : rs.Nodup) {x : Rw} (hx : x ∈ ys) : (lifted ys x).length ≤ (lifted rs x).length := by
  refine (lifted_nodup (nd.sublist s) x).length_le_of_subset fun z hz => ?_
  obtain ⟨h, c⟩ := (lifted_mem (nd.sublist s)).mp hz
  obtain ⟨m1, m2⟩ := two_mem h
  exact (lifted_mem nd).mpr ⟨(sub_bot s nd hx (bot_mem.mp m2)).mp h, c⟩
theorem liftN_less {xs : List Stay} (nd : (xs.map fun x => x.1).Nodup) (x : Stay) {y : Stay} (hy : y ∈ without xs x) : liftN (without xs x) y ≤ liftN xs y :=
  lifted_less ((without_sub xs x).map rw3) (Kb.rw_nodup nd) (List.mem_map.mpr ⟨y, hy, rfl⟩)
theorem crossed_nodup {rs : List Rw} (nd : (rs.map Rw.nm).Nodup) : (crossed rs).Nodup := by
  have ndr : rs.Nodup := rw_nodup0 nd
  have ndt : (Pq.takers rs).Nodup := (Kb.takers_perm rs).nodup_iff.mpr ndr
  unfold crossed
  refine List.pairwise_flatMap.mpr ⟨fun x hx => ?_, ?_⟩
  · refine List.pairwise_map.mpr ((lifted_nodup ndr x).imp_of_mem fun {a b} ha hb h e => h ?_)
    have ha := (two_mem ((lifted_mem ndr).mp ha).1).2
    have hb := (two_mem ((lifted_mem ndr).mp hb).1).2
    exact nm_inj nd (bot_mem.mp ha) (bot_mem.mp hb) (Prod.mk.inj e).2
  · refine ndt.imp_of_mem fun {a b} ha hb h p hp q hq e => h ?_
    obtain ⟨y, _, rfl⟩ := List.mem_map.mp hp
    obtain ⟨z, _, rfl⟩ := List.mem_map.mp hq
    exact nm_inj nd ((Kb.takers_perm rs).mem_iff.mp ha) ((Kb.takers_perm rs).mem_iff.mp hb) (Prod.mk.inj e).1
/-- guests who come at one tick stand by their goings, the last to go first -/
def CalmR (rs : List Rw) : Prop := ∀ x y, [x, y].Sublist rs → x.come = y.come → y.go ≤ x.go
theorem calm_least {ys zs : List Rw} (nd : (ys.map Rw.nm).Nodup) (p : ys.Perm zs) (c : CalmR ys) : (crossed ys).length ≤ (crossed zs).length := by
  have ndy := rw_nodup0 nd
  have ndz : zs.Nodup := p.nodup_iff.mp ndy
  refine (crossed_nodup nd).length_le_of_subset fun q hq => ?_
  obtain ⟨x, y, h, e1, e2, h1, h2⟩ := (crossed_two (a := q.1) (b := q.2) ndy).mp hq
  obtain ⟨m1, m2, ne, o⟩ := (bot_two ndy).mp h
  refine (crossed_two (a := q.1) (b := q.2) ndz).mpr ⟨x, y, (bot_two ndz).mpr ⟨p.mem_iff.mp m1, p.mem_iff.mp m2, ne, ?_⟩, e1, e2, h1, h2⟩
  rcases o with o | ⟨e, s⟩
  · exact .inl o
  · have := c x y s e
    omega
theorem lex_two {a b c d : Int} : lexL [a, b] [c, d] = (if a = c then (if b = d then false else decide (b < d)) else decide (a < c)) := rfl
theorem lex_three {a b i c d j : Int} : lexL [a, b, i] [c, d, j] = (if a = c then (if b = d then (if i = j then false else decide (i < j)) else decide (b < d)) else decide (a < c)) := rfl
/-- what sorted by calmK says -/
theorem calm_facts {xs ys : List Stay} (h : SortedBy (xs.map calmK) xs ys) : ys.Perm xs ∧ (ys.Pairwise fun x y => lexL (calmK y) (calmK x) = false) ∧ ∀ κ : Stay, ys.filter (fun z => decide (calmK z = calmK κ)) = xs.filter fun z => decide (calmK z = calmK κ) := by
  have pm := sorted_perm h (List.length_map _)
  obtain ⟨ps, h1, h2, rfl⟩ := h
  have ez : (xs.map calmK).zip xs = xs.map fun x => (calmK x, x) := by
    clear h1 h2 pm
    induction xs with
    | nil => rfl
    | cons x xs ih => rw [List.map_cons, List.zip_cons_cons, ih, List.map_cons]
  rw [ez] at h2
  have ep : ps = (ps.map (·.2)).map fun x => (calmK x, x) := by
    rw [List.map_map]
    have : ps.map id = ps.map ((fun x : Stay => (calmK x, x)) ∘ fun p : List Int × Stay => p.2) := List.map_congr_left fun p hp => by
      obtain ⟨x, _, rfl⟩ := List.mem_map.mp (h2.perm.mem_iff.mp hp)
      rfl
    rw [List.map_id] at this
    exact this
  refine ⟨pm, ?_, fun κ => ?_⟩
  · have h1' : ps.Pairwise fun p q => lexL q.1 p.1 = false := h1
    rw [ep] at h1'
    exact List.pairwise_map.mp h1'
  · have c := h2.cls (calmK κ, κ)
    have r1 : ∀ l : List Stay, (l.map fun x => (calmK x, x)).filter (SrtO.eqv (fun p q : List Int × Stay => lexL p.1 q.1) (calmK κ, κ)) = (l.filter (SrtO.eqv (fun p q : List Int × Stay => lexL p.1 q.1) (calmK κ, κ) ∘ fun x => (calmK x, x))).map fun x => (calmK x, x) := fun l => List.filter_map ..
    rw [ep, r1, r1] at c
    have e : ∀ l : List Stay, l.filter (SrtO.eqv (fun p q : List Int × Stay => lexL p.1 q.1) (calmK κ, κ) ∘ fun x => (calmK x, x)) = l.filter fun z => decide (calmK z = calmK κ) := fun l => List.filter_congr fun z _ => by
      show SrtO.eqv (fun p q : List Int × Stay => lexL p.1 q.1) (calmK κ, κ) (calmK z, z) = _
      rw [Bool.eq_iff_iff, decide_eq_true_iff, SrtO.eqv_iff]
      show lexL (calmK κ) (calmK z) = false ∧ lexL (calmK z) (calmK κ) = false ↔ _
      unfold calmK
      rw [lex_two, lex_two]
      constructor
      · rintro ⟨q1, q2⟩
        by_cases e1 : κ.2.1 = z.2.1
        · rw [if_pos e1] at q1
          rw [if_pos e1.symm] at q2
          by_cases e2 : -κ.2.2 = -z.2.2
          · rw [e1, e2]
          · rw [if_neg e2, decide_eq_false_iff_not] at q1
            rw [if_neg fun y => e2 y.symm, decide_eq_false_iff_not] at q2
            omega
        · rw [if_neg e1, decide_eq_false_iff_not] at q1
          rw [if_neg fun y => e1 y.symm, decide_eq_false_iff_not] at q2
          omega
      · intro y
        obtain ⟨y1, y2⟩ := List.cons.inj y
        obtain ⟨y2, _⟩ := List.cons.inj y2
        rw [if_pos y1.symm, if_pos y2.symm, if_pos y1, if_pos y2]
        exact ⟨rfl, rfl⟩
    rw [e, e] at c
    have inj : ∀ {l m : List Stay}, l.map (fun x => (calmK x, x)) = m.map (fun x => (calmK x, x)) → l = m := fun {l m} z => by
      have := congrArg (List.map (·.2)) z
      rw [List.map_map, List.map_map] at this
      have id_ : ∀ k : List Stay, k.map ((fun x : List Int × Stay => x.2) ∘ fun x => (calmK x, x)) = k := fun k => (List.map_congr_left fun _ _ => rfl).trans (List.map_id k)
      rw [id_, id_] at this
      exact this
    exact inj c
theorem calm_rw {xs ys : List Stay} (h : SortedBy (xs.map calmK) xs ys) : CalmR (ys.map rw3) := by
  obtain ⟨_, pw, _⟩ := calm_facts h
  intro x y s e
  obtain ⟨l, sl, el⟩ := List.sublist_map_iff.mp s
  match l, el with
  | [a, b], el =>
    obtain ⟨e1, e2⟩ := List.cons.inj el
    obtain ⟨e2, _⟩ := List.cons.inj e2
    subst e1 e2
    have q := List.pairwise_iff_forall_sublist.mp pw sl
    have e : a.2.1 = b.2.1 := e
    unfold calmK at q
    rw [lex_two, if_pos e.symm] at q
    show b.2.2 ≤ a.2.2
    by_cases e2 : -b.2.2 = -a.2.2
    · omega
    · rw [if_neg e2, decide_eq_false_iff_not] at q
      omega
theorem calm_min {xs ys zs : List Stay} (nd : (xs.map fun x => x.1).Nodup) (h : SortedBy (xs.map calmK) xs ys) (p : zs.Perm xs) : (crossed (ys.map rw3)).length ≤ (crossed (zs.map rw3)).length := by
  have py := (calm_facts h).1
  refine calm_least (Kb.nm_nodup ((py.map _).nodup_iff.mpr nd)) ((py.trans p.symm).map rw3) (calm_rw h)
/-- the law's keys -/
def keyC (xs : List Stay) (y : Stay) : List Int := [y.2.1, 0 - y.2.2, (xs.idxOf y : Nat)]
theorem idx_two {xs : List Stay} (nd : xs.Nodup) {x y : Stay} (h : [x, y].Sublist xs) : xs.idxOf x < xs.idxOf y := by
  obtain ⟨l, r, rfl, s⟩ : ∃ l r, xs = l ++ r ∧ x ∈ l ∧ y ∈ r := by
    have : ([x] ++ [y]).Sublist xs := h
    obtain ⟨l, r, e, s1, s2⟩ := List.append_sublist_iff.mp this
    exact ⟨l, r, e, List.singleton_sublist.mp s1, List.singleton_sublist.mp s2⟩
  obtain ⟨hx, hy⟩ := s
  have ny : y ∉ l := fun z => (List.nodup_append.mp nd).2.2 y z y hy rfl
  rw [List.idxOf_append, if_pos hx, List.idxOf_append, if_neg ny]
  have := List.idxOf_lt_length_iff.mpr hx
  omega
theorem keys_sorted {xs ys : List Stay} (nd : xs.Nodup) (h : SortedBy (xs.map calmK) xs ys) : (ys.map (keyC xs)).Pairwise fun a b => lexL b a = false := by
  obtain ⟨pm, pw, cls⟩ := calm_facts h
  have ndy : ys.Nodup := pm.nodup_iff.mpr nd
  refine List.pairwise_map.mpr (List.pairwise_iff_forall_sublist.mpr fun {x y} s => ?_)
  have q := List.pairwise_iff_forall_sublist.mp pw s
  unfold keyC
  unfold calmK at q
  rw [lex_two] at q
  rw [lex_three]
  by_cases e1 : y.2.1 = x.2.1
  · rw [if_pos e1] at q ⊢
    by_cases e2 : -y.2.2 = -x.2.2
    · rw [if_pos (by omega)]
      have eq : calmK x = calmK y := by
        unfold calmK
        rw [e1, e2]
      have s2 := s.filter (fun z => decide (calmK z = calmK y))
      rw [List.filter_cons_of_pos (by rw [decide_eq_true_iff]; exact eq), List.filter_cons_of_pos (by rw [decide_eq_true_iff]), List.filter_nil, cls y] at s2
      have := idx_two nd (s2.trans List.filter_sublist)
      rw [if_neg (by omega), decide_eq_false_iff_not]
      omega
    · rw [if_neg e2, decide_eq_false_iff_not] at q
      rw [if_neg (by omega), decide_eq_false_iff_not]
      omega
  · rw [if_neg e1] at q ⊢
    exact q
theorem lex_anti : ∀ {a b : List Int}, a.length = b.length → lexL a b = false → lexL b a = false → a = b
  | [], [], _, _, _ => rfl
  | [], _ :: _, h, _, _ => nomatch h
  | _ :: _, [], h, _, _ => nomatch h
  | x :: a, y :: b, h, h1, h2 => by
    unfold lexL at h1 h2
    by_cases e : x = y
    · rw [if_pos e] at h1
      rw [if_pos e.symm] at h2
      rw [e, lex_anti (by simpa using h) h1 h2]
    · rw [if_neg e, decide_eq_false_iff_not] at h1
      rw [if_neg fun z => e z.symm, decide_eq_false_iff_not] at h2
      omega
/-- sorted lists of such keys are one -/
theorem lex_one {d : Nat} : ∀ {l m : List (List Int)}, (∀ x ∈ l, x.length = d) → l.Pairwise (fun a b => lexL b a = false) → m.Pairwise (fun a b => lexL b a = false) → l.Perm m → l = m
  | [], m, _, _, _, p => (List.Perm.eq_nil p.symm).symm
  | x :: l, [], _, _, _, p => absurd p.length_eq (by simp)
  | x :: l, y :: m, hl, s1, s2, p => by
    have a1 := List.pairwise_cons.mp s1
    have a2 := List.pairwise_cons.mp s2
    have e : x = y := by
      have mx := p.mem_iff.mp (List.mem_cons_self (a := x) (l := l))
      have my := p.mem_iff.mpr (List.mem_cons_self (a := y) (l := m))
      rcases List.mem_cons.mp mx with e | hx
      · exact e
      · rcases List.mem_cons.mp my with e | hy
        · exact e.symm
        · exact lex_anti ((hl x List.mem_cons_self).trans (hl y (List.mem_cons_of_mem _ hy)).symm) (a2.1 x hx) (a1.1 y hy)
    subst e
    rw [lex_one (fun z hz => hl z (List.mem_cons_of_mem _ hz)) a1.2 a2.2 p.cons_inv]
/-- two guests who stay equally long -/
theorem eve_mem {a b l : Int} (hl : 0 < l) {n m : Str} (ne : n ≠ m) {q : Str × Str} : q ∈ crossed (([(n, a, a + l), (m, b, b + l)] : List Stay).map rw3) ↔ (q = (n, m) ∧ a < b ∧ b < a + l) ∨ (q = (m, n) ∧ b < a ∧ a < b + l) := by
  have nd : ((([(n, a, a + l), (m, b, b + l)] : List Stay).map rw3).map Rw.nm).Nodup := by
    show [n, m].Nodup
    simp [ne]
  have ndr := rw_nodup0 nd
  have n12 : rw3 (n, a, a + l) ≠ rw3 (m, b, b + l) := fun z => ne (congrArg Rw.nm z)
  have mem : ∀ x, x ∈ ([(n, a, a + l), (m, b, b + l)] : List Stay).map rw3 ↔ x = rw3 (n, a, a + l) ∨ x = rw3 (m, b, b + l) := fun x => by simp
  rw [show q = (q.1, q.2) from rfl, crossed_two ndr]
  constructor
  · rintro ⟨x, y, h, e1, e2, c1, c2⟩
    obtain ⟨m1, m2, nxy, o⟩ := (bot_two ndr).mp h
    rcases (mem x).mp m1 with rfl | rfl
    · rcases (mem y).mp m2 with rfl | rfl
      · exact absurd rfl nxy
      · refine .inl ⟨by rw [← e1, ← e2]; rfl, ?_, c1⟩
        have c2 : a + l < b + l := c2
        omega
    · rcases (mem y).mp m2 with rfl | rfl
      · refine .inr ⟨by rw [← e1, ← e2]; rfl, ?_, c1⟩
        have c2 : b + l < a + l := c2
        omega
      · exact absurd rfl nxy
  · rintro (⟨e, h1, h2⟩ | ⟨e, h1, h2⟩)
    · cases e
      exact ⟨_, _, (bot_two ndr).mpr ⟨(mem _).mpr (.inl rfl), (mem _).mpr (.inr rfl), n12, .inl h1⟩, rfl, rfl, h2, by show a + l < b + l; omega⟩
    · cases e
      exact ⟨_, _, (bot_two ndr).mpr ⟨(mem _).mpr (.inr rfl), (mem _).mpr (.inl rfl), n12.symm, .inl h1⟩, rfl, rfl, h2, by show b + l < a + l; omega⟩
theorem one_len {α : Type} {l : List α} (nd : l.Nodup) {p : α} (h : p ∈ l) (o : ∀ q ∈ l, q = p) : l.length = 1 := by
  have h1 := nd.length_le_of_subset (l₂ := [p]) fun q hq => by rw [o q hq]; exact List.mem_singleton_self _
  have h2 := List.length_pos_of_mem h
  simp at h1
  omega
theorem eve_count {a b l : Int} (hl : 0 < l) {n m : Str} (ne : n ≠ m) : (crossed (([(n, a, a + l), (m, b, b + l)] : List Stay).map rw3)).length = if (a < b ∧ b < a + l) ∨ (b < a ∧ a < b + l) then 1 else 0 := by
  have nd : ((([(n, a, a + l), (m, b, b + l)] : List Stay).map rw3).map Rw.nm).Nodup := by
    show [n, m].Nodup
    simp [ne]
  have ndc := crossed_nodup nd
  by_cases h1 : a < b ∧ b < a + l
  · rw [if_pos (.inl h1)]
    refine one_len ndc (p := (n, m)) ((eve_mem hl ne).mpr (.inl ⟨rfl, h1⟩)) fun q hq => ?_
    rcases (eve_mem hl ne).mp hq with ⟨e, _⟩ | ⟨_, z, _⟩
    · exact e
    · omega
  · by_cases h2 : b < a ∧ a < b + l
    · rw [if_pos (.inr h2)]
      refine one_len ndc (p := (m, n)) ((eve_mem hl ne).mpr (.inr ⟨rfl, h2⟩)) fun q hq => ?_
      rcases (eve_mem hl ne).mp hq with ⟨_, z, _⟩ | ⟨e, _⟩
      · omega
      · exact e
    · rw [if_neg fun z => z.elim h1 h2, List.length_eq_zero_iff]
      refine List.eq_nil_iff_forall_not_mem.mpr fun q hq => ?_
      rcases (eve_mem hl ne).mp hq with ⟨_, z⟩ | ⟨_, z⟩
      · exact h1 z
      · exact h2 z
end Cm
set_option Elab.async false
set_option linter.all false
set_option maxRecDepth 100000
set_option maxHeartbeats 2000000
namespace Sh1
open PySem L2 Sho NdefX
theorem asg_seq {te : TE} {g : TG} {u : TS} {D : Ends} {σ : L2.St} {H : Hp} (h : te σ H fun x H1 => g x σ H1 (u D)) : tSeq (tAsg te g) u D σ H := h
theorem asg_one {te : TE} {g : TG} {D : Ends} {σ : L2.St} {H : Hp} (h : te σ H fun x H1 => g x σ H1 D.nx) : tAsg te g D σ H := h
section
variable {P : Program} {w : World} {K : PySem.W.Frag} {mg : Str → Option Value} {base : Heap}
def spParty (K : PySem.W.Frag) (C : Addr) : Sp := fun vs H Q _ => ∃ (a : Addr) (ws : List V) (xs : List Stay), vs = [.ref a] ∧ SqL K H a ws ∧ StaysV H ws xs ∧ Short xs ∧ Valid xs ∧
  ∀ (p : Addr) (H' : Hp), Same H H' → H p = none → PartyAt C H' p xs → Q (.ref p) H'
theorem scParty : FnScope ["_law_rows_here", "_law_result", "_law_row"] ["_law_rows_here"] (defScope sLawParty) := ⟨rfl, rfl, rfl, by decide +kernel, rfl, by decide +kernel, by decide +kernel⟩
theorem ok_party {f C CI fI fA : Addr} {fd fdA : FuncData} (F : Fun K "_law_party" "_law_party" sLawParty f fd) (PC : PartyC K mg C) (M : Mk K C fI) (GI : FnR P w K mg base (L2.CX P w) 5 fI (spPNew C CI))
    (hc : PySem.W.selfFirst K C = true) (hA : PySem.W.findIn K (.ref C) "__add__" = some (some (.ref fA))) (iA : PySem.W.isFn K (.ref fA) = true)
    (GA : FnOk P w K mg base (L2.CX P w) 7 fA fdA ["self", "other"] (spPAdd C CI)) (bA : Binds K fdA ["self", "other"] []) :
    FnOk P w K mg base (L2.CX P w) 8 f fd ["_law_rows_here"] (spParty K C) := by
  refine F.okX scParty (fun vs H Q E h => ?_) (fun cdv A outer s H vs Q E hr h => ?_)
  · obtain ⟨a, ws, xs, rfl, _⟩ := h
    rfl
  · obtain ⟨a, ws, xs, rfl, ha, hxs, hsh, hv, k⟩ := h
    have nd := scParty.nd
    have pass : Passes (L2.CX P w) (cxOf (L2.CX P w) P w K mg base ["_law_rows_here", "_law_result", "_law_row"] "_law_party" (defScope sLawParty) f cdv A outer s H E) E := passes_call (takes_of rfl rfl rfl rfl) fun _ _ _ _ z => z
    refine ⟨_, pss_cons (ps_set (i := 1) nd rfl (Or.inl rfl) (pe_makeR0 M GI (hr.mono (by decide)) rfl PC.gm pass))
      (pss_cons (ps_for (passes_of rfl) rfl (pi_list (pv 0)) (pg_name (i := 2) nd rfl (Or.inl rfl))
        (pss_one (ps_set (i := 1) nd rfl (Or.inl rfl) (pe_op (op_own2 (fnr_of GA bA) hr pass hc hA iA) (pv 1) (StX.pe_makeR M GI (hr.mono (by decide)) rfl PC.gm pass (pa_cons (pv 2) pa_nil))))))
      (pss_one (ps_ret (pv 1)))), ?_⟩
    have len := pair_len hxs
    refine asg_seq (new0 fun p H1 s1 hp P1 => ?_)
    refine ⟨_, rfl, a, rfl, ⟨_, s1.seq ha⟩, for_it walk_list (fun i σ H2 => ∃ q o2, σ = [some (.ref a), some (.ref q), o2] ∧ Same H H2 ∧ H q = none ∧ PartyAt C H2 q (xs.take i))
      ⟨p, none, rfl, s1, hp, P1⟩ (fun i σ H2 _ ⟨_, _, _, s2, _⟩ => s2.seq ha) ?_ ?_⟩
    · rintro i y σ H2 H3 hi ⟨q, o2, rfl, s2, hq, P2⟩ ⟨rfl, e2⟩
      obtain ⟨x, hx, hy⟩ := pair_get hxs e2
      have hxm := List.mem_of_getElem? hx
      have take1 : xs.take (i + 1) = xs.take i ++ [x] := by rw [List.take_add_one, hx]; rfl
      refine ⟨_, rfl, new1 rfl (hy.same s2) (fun z hz => by rw [List.mem_singleton] at hz; rw [hz]; exact hsh x hxm) ⟨fun _ r H4 s4 hr4 P4 => ?_, fun i hi => ?_⟩⟩
      · refine ⟨q, r, rfl, rfl, ins_party (P2.same s4), ins_party P4, q, r, xs.take i, [x], rfl, P2.same s4, P4, hsh.take i, (fun z hz => by rw [List.mem_singleton] at hz; rw [hz]; exact hsh x hxm), ?_, ?_, ?_⟩
        · have := hv.len
          rw [List.length_take]
          simp only [List.length_cons, List.length_nil]
          omega
        · intro _ z H5 s5 hz P5
          refine ⟨_, _, rfl, (s2.trans s4).trans s5, ?_, by rw [take1]; exact P5⟩
          exact (s2.trans s4).free hz
        · intro j hj
          rw [← take1, valid_iff.mpr (hv.take _)] at hj
          cases hj
      · rw [valid_iff.mpr (Valid.one (hv.ok x hxm))] at hi
        cases hi
    · rintro σ H2 ⟨q, o2, rfl, s2, hq, P2⟩
      refine ⟨_, rfl, k q H2 s2 hq ?_⟩
      rw [len, List.take_length] at P2
      exact P2
end
end Sh1
set_option Elab.async false
set_option linter.all false
set_option maxRecDepth 100000
set_option maxHeartbeats 4000000
/-! list.count of flat values; isinstance of a caught error of an own class, with or without fields. -/
namespace Sho
open PySem PySem.Spec PyProof.Rows L2
section
variable {X : Cx}
theorem count_flat {y : V} : ∀ {us : List Value} {ys : List V}, Vals ys us → ys.all flatV = true → us.countP (eqU y) = ys.countP fun z => eqV z y
  | _, _, .nil, _ => rfl
  | u :: us, z :: ys, .cons r t, f => by
    rw [List.all_cons, Bool.and_eq_true] at f
    rw [List.countP_cons, List.countP_cons, count_flat t f.2, eqU_of r f.1]
def rCntF (K : PySem.W.Frag) : V → List V → Hp → VK → Prop := fun x xs H Q => ∃ (p : Addr) (ys : List V) (y : V), x = .ref p ∧ xs = [y] ∧ SqL K H p ys ∧ flatV y = true ∧ ys.all flatV = true ∧ Q (.int (ys.countP (fun z => eqV z y) : Nat)) H
theorem mt_countF : MtR X "list.count" (rCntF X.K) := by
  intro pins s σ H x xs v us Q I rx rxs h
  obtain ⟨p, ys, y, rfl, rfl, hs, fy, fys, q⟩ := h
  cases rx
  obtain ⟨u, rfl, ru⟩ := rxs.one
  obtain ⟨its, rv, ⟨⟨cls, dd, data, sl⟩, n, ho, hc, hdn, hd⟩, hlen⟩ := I.list hs
  simp only at hc hd
  subst hc hd
  refine call_meets PySem.F.slot_list_count ⟨_, ho, rfl⟩ PySem.F.entry_list_count (PySem.F.args_list_count_2 _ _)
    (SeqAt.list_countAt p its.toArray n dd sl u (eqU y)) ⟨ho, fun z hz => mem_eqAt ru fy rv fys z (by simpa using hz), ?_⟩
  have ec : its.toArray.toList.countP (eqU y) = ys.countP fun z => eqV z y := count_flat rv fys
  refine ⟨.int (ys.countP (fun z => eqV z y) : Nat), H, I.tok _, ⟨s.toks, ?_⟩, q⟩
  show Value.int ((its.toArray.toList.countP (eqU y) : Nat) : Int) s.toks = Value.int ((ys.countP (fun z => eqV z y) : Nat) : Int) s.toks
  rw [ec]
/-- isinstance(e, c), e the exception that the suite holds: its class and its dict are told when it is read -/
def rIsX (K : PySem.W.Frag) (cls : Value) (d : Option Addr) (a : Addr) : List V → Hp → VK → Prop := fun xs H Q => ∃ (D : Addr) (c : V) (cv : Value) (b : Bool), cls = .ref D ∧ ExcC K D ∧ (∀ dd, d = some dd → ∃ fs, H dd = some (.xd fs)) ∧
  xs = [.ref a, c] ∧ (∀ u, RelV c u → u = cv) ∧ PySem.W.kitOne K (.ref D) cv = some b ∧ Q (.bl b) H
theorem call_isX {a : Addr} {oe : Obj} {cls : Value} {d : Option Addr} {pn : List (Addr × Obj)} (hz : Zc cls d oe) (hf : ∃ vs, oe.data = .fields vs) : CallR (X.suite a ((a, oe) :: pn)) (.builtin "isinstance") (rIsX X.K cls d a) := by
  intro pins s σ H xs us Q I r h
  obtain ⟨D, c, cv, b, hc, C, hd, rfl, hcv, e, q⟩ := h
  subst hc
  cases r with
  | cons rx rr =>
    cases rr with
    | cons rt rr =>
      cases rr
      cases rx
      have ec := hcv _ rt
      subst ec
      obtain ⟨hget, _⟩ := I.pin (a, oe) (List.mem_append.mpr (.inl List.mem_cons_self))
      obtain ⟨vs, hv⟩ := hf
      obtain ⟨od, J⟩ : ∃ od, PySem.W.InstAt s.heap a oe D od := by
        obtain ⟨oc, od, oda, osl⟩ := oe
        obtain ⟨h1, h2⟩ := hz
        dsimp only at h1 h2 hv
        subst h1 h2 hv
        cases od with
        | none => exact ⟨none, hget, rfl, rfl, trivial⟩
        | some dd =>
          obtain ⟨fs, hfs⟩ := hd dd rfl
          obtain ⟨mA, n, _⟩ : ObjOk (X.suite a _).prog (X.suite a _).w H s.heap dd (.xd fs) := I.hok dd _ hfs
          obtain ⟨o, es, ep, ho, _⟩ := n
          exact ⟨some o, hget, rfl, rfl, ho⟩
      have cl : (PySem.W.clsIn X.K D).isSome = true := by
        obtain ⟨cd, hc, _⟩ := PySem.W.any_some C.hd
        rw [hc]
        rfl
      exact PySem.W.kia_one (PySem.W.kitx_exc cl C.hg C.hk C.hs C.ha C.hn C.ht C.hm) I.kIn J e (fun z => nomatch z) fun tk => ⟨.bl b, H, I.kept (t' := tk) fun _ _ z => z, rfl, q⟩
/-! ### the same rules within an except suite: their readings speak of the outer context -/
variable {a : Addr} {l : List (Addr × Obj)}
theorem ixs_list : IxR (X.suite a l) (rIxL X.K) := ix_list
theorem mts_index : MtR (X.suite a l) "list.index" (rIndex X.K) := mt_index
theorem mts_countF : MtR (X.suite a l) "list.count" (rCntF X.K) := mt_countF
theorem ops_in_seq : OpR (X.suite a l) (compareOp .In) (rIn X.K false) := op_in_seq
theorem pes_bm {o e : Expr} {es : List Expr} {to : TE} {t : TA} {name : Str} {apos cpos : Pos} {T id : String} {r : V → List V → Hp → VK → Prop} (pa : PlainAttrs T) (slot : Slot T name id) (hty : typeOf (.builtin id) = pure (.type "method_descriptor")) (hm : MtR (X.suite a l) id r) (ho : PE (X.suite a l) o to) (ha : PA (X.suite a l) (e :: es) t)
    (hbase : attributeBase o name X.env (eval o X.env) = eval o X.env := by rfl)
    (hfew : ((backTo cpos (starEach (e :: es) X.env)).all (fun x => !x.1) && (backToKw cpos (keywordEach [] X.env)).all (fun x => x.1.isSome)
      && decide ((e :: es).length + ([] : List Keyword).length + (if ([] : List Keyword).isEmpty then 0 else 1) < 30)) = true := by rfl)
    (hline : (apos.endLine == cpos.line) = true := by rfl) (hs : starEach (e :: es) X.env = (false, eval e X.env) :: starEach es X.env := by rfl) (hplain : (backTo cpos (starEach es X.env)).any (·.1) = false := by rfl) :
    PE (X.suite a l) (.Call (.Attribute o name apos) (e :: es) [] cpos) (tBM X.K T r to t) := pe_bm pa slot hty hm ho ha hbase hfew hline hs hplain
end
end Sho
set_option Elab.async false
set_option linter.all false
set_option maxRecDepth 100000
set_option maxHeartbeats 4000000
set_option autoImplicit false
/-! _law_counts, _law_mixed. -/
namespace Cm
open PySem L2 Sho NdefX Shg Sh1 Qu
abbrev NCt : List Str := ["_law_rows_here", "_law_lifted", "_law_pair", "_law_row"]
abbrev nvS : Rw → V := fun r => .str r.nm
theorem play_of3 {H : Hp} : ∀ {ws : List V} {xs : List Stay}, StaysV H ws xs → PySem.Paired (Pq.PlayAt nvS H) ws (xs.map rw3)
  | _, _, .nil => .nil
  | _, _, .cons ⟨t, e, h⟩ r => .cons ⟨t, e, h⟩ (play_of3 r)
theorem merge_new3 : ∀ (l acc : List (Key × V)), ((acc ++ l).map fun kv => kv.1).Nodup → mergeK acc l = acc ++ l
  | [], acc, _ => by
    rw [List.append_nil]
    rfl
  | kv :: l, acc, nd => by
    show mergeK (putK acc kv.1 kv.2) l = _
    have nk : ∀ q ∈ acc, q.1 ≠ kv.1 := fun q hq e => by
      rw [List.map_append, List.nodup_append] at nd
      exact nd.2.2 q.1 (List.mem_map.mpr ⟨q, hq, rfl⟩) kv.1 (by simp) e
    rw [put_newC nk, merge_new3 l (acc ++ [(kv.1, kv.2)]) (by rw [List.append_assoc]; exact nd), List.append_assoc]
    rfl
theorem refs_of {α : Type} {R : Addr → α → Prop} {ys : List V} {xs : List α} (h : PySem.Paired (fun v x => ∃ t, v = V.ref t ∧ R t x) ys xs) : ∃ ps : List Addr, ys = ps.map V.ref ∧ PySem.Paired R ps xs := by
  induction h with
  | nil => exact ⟨[], rfl, .nil⟩
  | cons a _ ih =>
    obtain ⟨t, rfl, r⟩ := a
    obtain ⟨ps, rfl, h⟩ := ih
    exact ⟨t :: ps, rfl, .cons r h⟩
theorem pair_mapR {α β γ : Type} {R : α → γ → Prop} (f : β → γ) {as : List α} {bs : List β} (h : PySem.Paired (fun a b => R a (f b)) as bs) : PySem.Paired R as (bs.map f) := by
  induction h with
  | nil => exact .nil
  | cons a _ ih => exact .cons a ih
/-- the dict of counts -/
def cntK (xs : List Stay) : List (Key × V) := xs.map fun x => (Sum.inr x.1, V.int (liftN xs x : Nat))
theorem cnt_names {xs : List Stay} (nd : (xs.map fun x => x.1).Nodup) {x : Stay} (hx : x ∈ xs) : (((Pq.crossed (xs.map rw3)).map fun q => V.str q.1.nm).countP fun z => eqV z (.str x.1)) = liftN xs x := by
  rw [List.countP_map, List.countP_eq_length_filter]
  have e : ((fun z => eqV z (.str x.1)) ∘ fun q : Rw × Rw => V.str q.1.nm) = fun q : Rw × Rw => decide (q.1.nm = (rw3 x).nm) := by
    funext q
    show eqV (.str q.1.nm) (.str x.1) = _
    rw [show eqV (V.str q.1.nm) (.str x.1) = decide (q.1.nm = x.1) from rfl]
    rfl
  rw [e, Kb.lifts_of (Kb.nm_nodup nd) (List.mem_map.mpr ⟨x, hx, rfl⟩), List.length_map]
  rfl
section
variable {P : Program} {w : World} {K : PySem.W.Frag} {mg : Str → Option Value} {base : Heap}
def spCounts (K : PySem.W.Frag) : Sp := fun vs H Q _ => ∃ (R : Addr) (ws : List V) (xs : List Stay), vs = [.ref R] ∧ SqL K H R ws ∧ StaysV H ws xs ∧ xs.length ≤ 24 ∧ (∀ x ∈ xs, x.2.1 < x.2.2) ∧ (xs.map fun x => x.1).Nodup ∧
  ∀ D H', Same H H' → H' D = some (.dK (cntK xs)) → Q (.ref D) H'
theorem scCounts : FnScope NCt ["_law_rows_here"] (defScope sLawCounts) := ⟨rfl, rfl, rfl, by decide +kernel, rfl, by decide +kernel, by decide +kernel⟩
theorem ok_counts {f fY : Addr} {fd fdY : FuncData} (F : Fun K "_law_counts" "_law_counts" sLawCounts f fd) (B : Shg.Blt mg)
    (GY : FnOk P w K mg base CX0 1 fY fdY ["_law_rows_here"] (Pq.spPlayed K)) (mY : mg "_law_played" = some (.ref fY)) (kY : PySem.W.keepIn K (.ref fY) = true) (bY : Binds K fdY ["_law_rows_here"] []) :
    FnOk P w K mg base CX0 2 f fd ["_law_rows_here"] (spCounts K) := by
  refine F.ok scCounts (fun vs H Q E h => ?_) (fun cdv A outer s H vs Q E hr h => ?_)
  · obtain ⟨R, ws, xs, rfl, _⟩ := h
    rfl
  obtain ⟨R, ws, xs, rfl, hR, sv, lx, hv, ndx, k⟩ := h
  have nd := scCounts.nd
  have lw := Shg.pair_len sv
  refine ⟨_, (pss_cons (ps_set (i := 1) nd rfl (Or.inr rfl) (pe_lc (own := [("_law_pair", 2)]) (g := gName 2) (tt := tYes) (te := tOp (rIxT K) (tVar 2) (tC (.int 0))) rfl nd (pi_list (pe_ix ix_tup (pe_call GY (hr.mono (by decide)) rfl mY kY bY .nil pass0 (pa_cons (pv 0) pa_nil)) pe_int (fun _ _ => rfl))) (blkOk_by (own := [("_law_pair", 2)]) (N := NCt) (sc := defScope sLawCounts) (by decide +kernel))
        (fun _ _ _ _ _ => (pg_name (i := 2) nd rfl (Or.inl rfl))) (fun _ _ _ _ _ => pts_nil) (fun _ _ _ _ _ => (pe_ix ix_tup (pv 2) pe_int (fun _ _ => rfl)))))
      (pss_one (ps_ret (pe_callTy (call_dictP rfl) (by rfl) B.dict (by decide +kernel) (pa_cons (pe_lc (own := [("_law_row", 3)]) (g := gName 3) (tt := tYes) (te := tTup (tCons (tOp (rIxT K) (tVar 3) (tC (.int 0))) (tCons (tBM K "list" (rCntF K) (tVar 1) (tCons (tOp (rIxT K) (tVar 3) (tC (.int 0))) tNil)) tNil))) rfl nd (pi_list (pv 0)) (blkOk_by (own := [("_law_row", 3)]) (N := NCt) (sc := defScope sLawCounts) (by decide +kernel))
        (fun _ _ _ _ _ => (pg_name (i := 3) nd rfl (Or.inl rfl))) (fun _ _ _ _ _ => pts_nil) (fun _ _ _ _ _ => (pe_tup (pa_cons (pe_ix ix_tup (pv 3) pe_int (fun _ _ => rfl)) (pa_cons (pe_bm PySem.F.plainAttrs_list PySem.F.slot_list_count PySem.F.type_list_count mt_countF (pv 1) (pa_cons (pe_ix ix_tup (pv 3) pe_int (fun _ _ => rfl)) pa_nil)) pa_nil))))) pa_nil))))), ?_⟩
  have few : (Pq.crossed (xs.map rw3)).length ≤ 1000 := by
    have := flat_le (f := fun x : Rw => (lifted (xs.map rw3) x).map fun y => (x.nm, y.nm)) (n := 24) (fun x => by
      rw [List.length_map]
      exact Nat.le_trans (lifted_len _ x) (by rw [List.length_map]; exact lx)) (Sh1.takers (xs.map rw3))
    rw [Sh1.takers_length, List.length_map] at this
    have h2 := Nat.mul_le_mul_right 24 lx
    have e : (Pq.crossed (xs.map rw3)).length = (Sh1.crossed (xs.map rw3)).length := by rw [Kb.crossed_nm, List.length_map]
    rw [e]
    exact Nat.le_trans this (Nat.le_trans h2 (by decide))
  refine ⟨_, rfl, R, ws, xs.map rw3, nvS, rfl, hR, play_of3 sv, by rw [List.length_map]; omega, ?_, Kb.rw_nodup ndx, fun t L D out kvs ts H1 s1 et eL oP eD pl sr hk => ?_⟩
  · intro r hr'
    obtain ⟨x, hx, rfl⟩ := List.mem_map.mp hr'
    exact hv x hx
  have lo := Shg.pair_len oP
  refine ⟨t, _, 0, .ref L, rfl, rfl, SqT.of et, atI_nat (j := 0) rfl, L, rfl, ⟨_, SqL.of eL⟩, fun D0 hD0 => ?_⟩
  refine lc_map walk_list (fun j => ((Pq.crossed (xs.map rw3))[j]?).map fun q => V.str q.1.nm) hD0 (by rw [lo]; exact Nat.le_trans few (by decide)) (fun HA sA => SqL.of (sA _ _ eL)) (fun j v HA H' hj sA yy Rr k1 => ?_) (fun j hj => ?_) fun HA sA eA => ?_
  · obtain ⟨rfl, e2⟩ := yy
    obtain ⟨q, hq, c, rfl, hc⟩ := Shg.pair_get oP e2
    refine ⟨rfl, _, rfl, c, _, 0, .str q.1.nm, rfl, rfl, SqT.of (sA _ _ hc), atI_nat (j := 0) rfl, k1 _ _ (Same.refl _) (by rw [hq]; rfl)⟩
  · exact ⟨_, by rw [List.getElem?_eq_getElem (by omega)]; rfl⟩
  rw [lo, gather_map (Pq.crossed (xs.map rw3)) fun q => V.str q.1.nm] at eA
  refine Shg.name_of ?_
  have hRA := sql_grows (LamX.ExtN.of (s1.trans sA)) hR
  have svA : StaysV HA ws xs := Shg.pair_mono (fun _ _ ⟨t, q, ht⟩ => ⟨t, q, sA _ _ (s1 _ _ ht)⟩) sv
  refine ⟨_, rfl, R, rfl, ⟨_, hRA⟩, fun D1 hD1 => ?_⟩
  refine lc_rel walk_list (fun i y H => ∃ x, xs[i]? = some x ∧ ∃ t, y = .ref t ∧ H t = some (.tup [.str x.1, .int (liftN xs x : Nat)])) hD1 (by rw [lw]; exact Nat.le_trans lx (by decide)) (fun H1 s1 => sql_grows (LamX.ExtN.of s1) hRA) (fun i y H H' st r => ?_) (fun i v HB H' hi sB yy Rr k1 => ?_) fun HB ys sB e1 e2 e3 => ?_
  · obtain ⟨x, e, t, e2, e3⟩ := r
    exact ⟨x, e, t, e2, st _ _ e3⟩
  · obtain ⟨rfl, e2⟩ := yy
    obtain ⟨x, hx, t', rfl, ht'⟩ := Shg.pair_get svA e2
    have hxm : x ∈ xs := List.mem_of_getElem? hx
    refine ⟨rfl, _, rfl, t', _, 0, .str x.1, rfl, rfl, SqT.of (sB _ _ ht'), atI_nat (j := 0) rfl, _, rfl, .inl ⟨rfl, _, SqL.of (sB _ _ eA)⟩, _, rfl, t', _, 0, .str x.1, rfl, rfl, SqT.of (sB _ _ ht'), atI_nat (j := 0) rfl, D0, _, _, rfl, rfl, SqL.of (sB _ _ eA), rfl, ?_, ?_⟩
    · rw [List.all_map]
      exact List.all_eq_true.mpr fun _ _ => rfl
    · rw [cnt_names ndx hxm]
      exact ⟨by show 2 ≤ sizeLine; decide, fun c hc => k1 _ _ (Shg.same_upd hc) ⟨x, hx, c, rfl, upd_same⟩⟩
  · obtain ⟨ps, rfl, hps⟩ : ∃ ps : List Addr, ys = ps.map V.ref ∧ PySem.Paired (fun p (x : Stay) => HB p = some (.tup [.str x.1, .int (liftN xs x : Nat)])) ps xs := by
      refine refs_of (R := fun p (x : Stay) => HB p = some (.tup [.str x.1, .int (liftN xs x : Nat)])) (pair_of (by rw [e2, lw]) fun i y x hy hx => ?_)
      obtain ⟨x', hx', t', e, ht'⟩ := e3 i y hy
      rw [hx] at hx'
      cases hx'
      exact ⟨t', e, ht'⟩
    refine ⟨D1, ps, cntK xs, rfl, SqL.of e1, ?_, fun D2 hD2 => ?_⟩
    · exact pair_mapR (R := fun p (kv : Key × V) => SqT K HB p [kV kv.1, kv.2]) _ (Shg.pair_mono (fun _ _ h => SqT.of h) hps)
    rw [merge_new3 (cntK xs) [] ?_, List.nil_append]
    · exact k D2 _ (((s1.trans sA).trans sB).trans (Shg.same_upd hD2)) upd_same
    · rw [List.nil_append]
      unfold cntK
      rw [List.map_map]
      have e : (fun kv : Key × V => kv.1) ∘ (fun x : Stay => ((Sum.inr x.1 : Key), V.int (liftN xs x : Nat))) = (Sum.inr ∘ fun x : Stay => x.1) := rfl
      rw [e, ← List.map_map]
      exact List.pairwise_map.mpr (List.Pairwise.imp (fun h z => h (Sum.inr.inj z)) ndx)
/-! ### a random order -/
abbrev NMx : List Str := ["_law_state", "_law_rows_here", "_law_result", "_law_row"]
theorem paired_take {α β : Type} {R : α → β → Prop} {as : List α} {bs : List β} (h : PySem.Paired R as bs) : ∀ n, PySem.Paired R (as.take n) (bs.take n) := by
  induction h with
  | nil =>
    intro n
    rw [List.take_nil, List.take_nil]
    exact .nil
  | cons a _ ih =>
    intro n
    cases n with
    | zero => exact .nil
    | succ n => exact .cons a (ih n)
theorem paired_drop {α β : Type} {R : α → β → Prop} {as : List α} {bs : List β} (h : PySem.Paired R as bs) : ∀ n, PySem.Paired R (as.drop n) (bs.drop n) := by
  induction h with
  | nil =>
    intro n
    rw [List.drop_nil, List.drop_nil]
    exact .nil
  | cons a r ih =>
    intro n
    cases n with
    | zero => exact .cons a r
    | succ n => exact ih n
def spMixed (K : PySem.W.Frag) (T : List (Addr × Str)) : Sp := fun vs H Q _ => ∃ (l a : Addr) (ns : List Int) (R : Addr) (ws : List V) (xs : List Stay), vs = [.ref l, .ref R] ∧ Dw.St K T l a ns H ∧ H R = some (.lst ws) ∧ R ≠ l ∧ StaysV H ws xs ∧ xs.length ≤ 24 ∧
  ∀ M us zs H', But l H H' → Dw.St K T l a ns H' → H M = none → H' M = some (.lst us) → StaysV H' us zs → zs.Perm xs → Q (.ref M) H'
theorem scMixed : FnScope NMx ["_law_state", "_law_rows_here"] (defScope sLawMixed) := ⟨rfl, rfl, rfl, by decide +kernel, rfl, by decide +kernel, by decide +kernel⟩
theorem stays_but {l : Addr} {H H' : Hp} {zs : List V} {ws : List V} {xs : List Stay} (hl : H l = some (.lst zs)) (b : But l H H') (sv : StaysV H ws xs) : StaysV H' ws xs :=
  Shg.pair_mono (fun _ _ ⟨t, q, ht⟩ => ⟨t, q, b _ _ ht (Dw.ne_at hl ht fun z => nomatch z)⟩) sv
theorem ok_mixed {f f2 : Addr} {fd fd2 : FuncData} {T : List (Addr × Str)} (F : Fun K "_law_mixed" "_law_mixed" sLawMixed f fd) (B : Shg.Blt mg)
    (G2 : FnOk P w K mg base CX0 1 f2 fd2 ["_law_state", "_law_count"] (spDrawn K)) (m2 : mg "_law_drawn" = some (.ref f2)) (k2 : PySem.W.keepIn K (.ref f2) = true) (b2 : Binds K fd2 ["_law_state", "_law_count"] []) :
    FnOk P w K mg base CX0 2 f fd ["_law_state", "_law_rows_here"] (spMixed K T) := by
  refine F.ok scMixed (fun vs H Q E h => ?_) (fun cdv A outer s H vs Q E hr h => ?_)
  · obtain ⟨l, a, ns, R, ws, xs, rfl, _⟩ := h
    rfl
  obtain ⟨l, a, ns, R, ws, xs, rfl, S0, hR, nR, sv, lx, k⟩ := h
  have nd := scMixed.nd
  have lw := Shg.pair_len sv
  obtain ⟨z0, hl0⟩ := S0.at
  refine ⟨_, (pss_cons (ps_set (i := 2) nd rfl (Or.inl rfl) (pe_lst pa_nil))
      (pss_cons (ps_for PassesOwn.never rfl (pi_list (pv 1)) (pg_name (i := 3) nd rfl (Or.inl rfl)) (pss_one (ps_expr (pe_bm PySem.F.plainAttrs_list PySem.F.slot_list_insert PySem.F.type_list_insert mt_insert (pv 2) (pa_cons (pe_call G2 (hr.mono (by decide)) rfl m2 k2 b2 .nil pass0 (pa_cons (pv 0) (pa_cons (pe_op op_add (pe_callB call_len_seq (by rfl) B.len PySem.boot_len (pa_cons (pv 2) pa_nil)) pe_int) pa_nil))) (pa_cons (pv 3) pa_nil))))))
      (pss_one (ps_ret (pv 2))))), ?_⟩
  refine ⟨Nat.zero_le _, fun M hM => Shg.name_of ?_⟩
  have nM : M ≠ l := S0.ne hM
  have s0 := Shg.same_upd (o := .lst []) hM
  refine ⟨_, rfl, R, rfl, ⟨_, SqL.of (s0 _ _ hR)⟩, for_it (walk_list (K := K) (a := R) (xs := ws)) (fun j σ H' => ∃ o3 us zs, σ = [some (.ref l), some (.ref R), some (.ref M), o3] ∧ But l H H' ∧ Dw.St K T l a ns H' ∧ H' M = some (.lst us) ∧ StaysV H' us zs ∧ zs.Perm (xs.take j))
    ⟨none, [], [], rfl, But.of s0, S0.same s0, upd_same, .nil, .refl _⟩ (fun j σ H' _ z => by obtain ⟨_, _, _, _, b, _⟩ := z; exact SqL.of (b _ _ hR nR)) ?_ ?_⟩
  · rintro j y σ HK HL hj ⟨o3, us, zs, rfl, b, S1, eM, svM, pm⟩ ⟨rfl, ey⟩
    have svL := stays_but hl0 b sv
    obtain ⟨x, hx, hv⟩ := Shg.pair_get svL ey
    have lu := Shg.pair_len svM
    have lz : zs.length ≤ 24 := by
      rw [pm.length_eq, List.length_take]
      omega
    refine Shg.name_at ?_
    refine ⟨_, rfl, .inl ⟨rfl, _, SqL.of eM⟩, _, rfl, _, rfl, M, us, rfl, .inl (SqL.of eM), _, _, rfl, rfl, l, a, ns, _, rfl, S1.d, by omega, by omega, fun r H2 r0 r1 b2 d2 => ?_⟩
    have S2 := S1.draw b2 d2
    obtain ⟨z1, hl1⟩ := S1.at
    have eM2 := b2 _ _ eM nM
    have sv2 := stays_but hl1 b2 svM
    have hv2 : StayV H2 y x := by
      obtain ⟨t, e, ht⟩ := hv
      exact ⟨t, e, b2 _ _ ht (Dw.ne_at hl1 ht fun z => nomatch z)⟩
    refine ⟨_, rfl, M, us, r, y, rfl, rfl, eM2, by rw [sizeLine_eq]; omega, r0, by omega, ?_⟩
    have bb := b.trans b2
    have S3 : Dw.St K T l a ns (upd H2 M (.lst (us.take r.toNat ++ [y] ++ us.drop r.toNat))) := S0.to bb d2 hM
    have up : ∀ c o, c ≠ M → H2 c = some o → (upd H2 M (.lst (us.take r.toNat ++ [y] ++ us.drop r.toNat))) c = some o := fun c o n e => by rw [upd_ne n]; exact e
    have st : ∀ {v : V} {x : Stay}, StayV H2 v x → StayV (upd H2 M (.lst (us.take r.toNat ++ [y] ++ us.drop r.toNat))) v x := fun {v x} ⟨t, e, ht⟩ => ⟨t, e, up _ _ (Dw.ne_at eM2 ht fun z => nomatch z) ht⟩
    have sv3 : StaysV (upd H2 M (.lst (us.take r.toNat ++ [y] ++ us.drop r.toNat))) us zs := Shg.pair_mono (fun _ _ h => st h) sv2
    refine ⟨_, _, zs.take r.toNat ++ [x] ++ zs.drop r.toNat, rfl, fun c o e n => ?_, S3, upd_same, paired_append (paired_append (paired_take sv3 _) (.cons (st hv2) .nil)) (paired_drop sv3 _), ?_⟩
    · exact up _ _ (fun z => by rw [z, hM] at e; cases e) (bb _ _ e n)
    · have h1 : (zs.take r.toNat ++ [x] ++ zs.drop r.toNat).Perm (x :: zs) := by
        have := (List.perm_middle (a := x) (l₁ := zs.take r.toNat) (l₂ := zs.drop r.toNat))
        rw [List.take_append_drop] at this
        rw [List.append_assoc]
        exact this
      have h2 : (xs.take (j + 1)) = xs.take j ++ [x] := by rw [List.take_add_one, hx]; rfl
      rw [h2]
      exact h1.trans ((pm.cons x).trans (List.perm_append_comm (l₁ := [x])))
  · rintro σ HK ⟨o3, us, zs, rfl, b, S1, eM, svM, pm⟩
    rw [lw, List.take_length] at pm
    exact ⟨_, rfl, k M us zs HK b S1 hM eM svM pm⟩
end
end Cm
set_option Elab.async false
set_option linter.all false
set_option maxRecDepth 100000
set_option maxHeartbeats 4000000
set_option autoImplicit false
/-! sorted(list or tuple of tuples (text, int, int)). -/
namespace Sho
open PySem PySem.Spec PyProof.Rows L2 LamX NdefX Shg
abbrev ltI : List (Int ⊕ List Nat) → List (Int ⊕ List Nat) → Bool := PyProof.Rows.lexLt itemOrd
theorem swo_I {α : Type} (k : α → List (Int ⊕ List Nat)) : SrtO.Swo fun v u => ltI (k v) (k u) := by
  refine ⟨fun x y h => ?_, fun x y z h1 h2 => ?_⟩
  · cases e : ltI (k y) (k x) with
    | false => rfl
    | true =>
      have := lex_trans (O := itemOrd) _ _ _ h e
      rw [lex_irrefl] at this
      cases this
  · cases e : ltI (k z) (k x) with
    | false => rfl
    | true =>
      rcases lex_negTrans (O := itemOrd) (k z) (k y) (k x) e with q | q
      · have h2' : PyProof.Rows.lexLt itemOrd (k z) (k y) = false := h2
        rw [h2'] at q
        cases q
      · have h1' : PyProof.Rows.lexLt itemOrd (k y) (k x) = false := h1
        rw [h1'] at q
        cases q
/-- two sorted lists of the same are one -/
theorem sorted_one {l m : List (List (Int ⊕ List Nat))} (hl : l.Pairwise fun x y => ltI y x = false) (hm : m.Pairwise fun x y => ltI y x = false) (p : l.Perm m) : l = m := by
  refine SrtO.stb_uniq (swo_I (fun x => x)) hl hm ⟨p, fun x => ?_⟩
  have e : ∀ n : List (List (Int ⊕ List Nat)), n.filter (SrtO.eqv (fun v u => ltI v u) x) = n.filter (fun y => decide (x = y)) := fun n => by
    refine List.filter_congr fun y _ => ?_
    rw [Bool.eq_iff_iff, decide_eq_true_iff]
    constructor
    · intro h
      obtain ⟨h1, h2⟩ := SrtO.eqv_iff.mp h
      exact lex_total (O := itemOrd) _ _ h1 h2
    · rintro rfl
      exact SrtO.eqv_iff.mpr ⟨lex_irrefl (O := itemOrd) _, lex_irrefl (O := itemOrd) _⟩
  rw [e, e]
  have c : ∀ {n n' : List (List (Int ⊕ List Nat))}, n.Perm n' → n.filter (fun y => decide (x = y)) = n'.filter (fun y => decide (x = y)) := fun {n n'} q => by
    have r : ∀ n : List (List (Int ⊕ List Nat)), n.filter (fun y => decide (x = y)) = List.replicate (n.filter (fun y => decide (x = y))).length x := fun n => by
      refine List.eq_replicate_iff.mpr ⟨rfl, fun b hb => ?_⟩
      exact (of_decide_eq_true (List.mem_filter.mp hb).2).symm
    rw [r n, r n', (q.filter _).length_eq]
  exact c p
abbrev shp : Nat → Bool := fun i => i == 0
section
variable {prog : Program} {w : World} {A : Around} {E : Value → Shared → Prop} {s : Shared}
theorem sorted_ordA {l : Addr} {vs : List Value} {o : Obj} {n : Nat} {T : String} {ltv : Value → Value → Bool} {Q : Value → Shared → Prop} (O : SrtO.Swo ltv) (hT : T = "list" ∨ T = "tuple") (ho : s.heap.get? l = some o) (hc : o.cls = .type T) (hd : o.data = .seq vs.toArray n) (hz : vs.length ≤ sizeLine)
    (hS : 2 ≤ vs.length → ∀ (h₁ : Heap) (a : Addr), h₁.get? a = some (seqObj "list" vs.toArray 0) → (∀ b o, s.heap.get? b = some o → b ≠ a ∧ h₁.get? b = some o) → SrtO.SortableO prog w A.in1.in1 { s with heap := h₁ } a vs ltv)
    (h : ∀ out : List Value, SrtO.Srtd ltv out → SrtO.Stb ltv out vs → Q (.ref (s.heap.objs.size + 1)) { s with heap := sortedAll s.heap vs out.toArray }) :
    wpAny (model prog w) A (call (.builtin "sorted") [.ref l]) Q E s := by
  refine Calls.call_function_entry kind_sorted plain_sorted entry_sorted (args_sorted1 _) ?_
  unfold Builtin.«sorted»
  refine wpAny_bind (m := checkCount "sorted" 1 1 _) (wpAny_pure ?_)
  refine wpAny_bind (collect_any hT ho hc hd ?_ hz)
  refine wpAny_bind (wpAny_newList ?_ hz)
  have hsz : ((s.heap.push (seqObj "list" #[] 0)).update s.heap.objs.size (Obj.mapSeq (· ++ vs.toArray))).objs.size = s.heap.objs.size + 1 := by
    rw [Heap.size_update, size_push']
  have hoL : (((s.heap.push (seqObj "list" #[] 0)).update s.heap.objs.size (Obj.mapSeq (· ++ vs.toArray))).push (seqObj "list" vs.toArray 0)).get? (s.heap.objs.size + 1) = some (seqObj "list" vs.toArray 0) := by
    rw [← hsz]; exact Heap.get?_push_size _ rfl
  have keep : ∀ b o, s.heap.get? b = some o → b ≠ s.heap.objs.size + 1 ∧ (((s.heap.push (seqObj "list" #[] 0)).update s.heap.objs.size (Obj.mapSeq (· ++ vs.toArray))).push (seqObj "list" vs.toArray 0)).get? b = some o := fun b o q => by
    have hlt : b < s.heap.objs.size := Heap.lt_size q
    refine ⟨Nat.ne_of_lt (Nat.lt_succ_of_lt hlt), Heap.get?_push_of_some _ ?_⟩
    rw [Heap.get?_update_ne _ _ _ _ (Nat.ne_of_lt hlt)]
    exact Heap.get?_push_of_some _ q
  show wpAny _ _ _ _ _ { s with heap := ((s.heap.push (seqObj "list" #[] 0)).update s.heap.objs.size (Obj.mapSeq (· ++ vs.toArray))).push (seqObj "list" vs.toArray 0) }
  rw [hsz]
  refine wpAny_bind (wpAny_holding (wpAny_call_entry slot_list_sort ⟨_, hoL, rfl⟩ entry_list_sort (SrtO.list_sort_ord O hoL hz (fun h2 => hS h2 _ _ hoL keep) fun out hs hb => ⟨_, rfl, ?_⟩) (args_list_sort _)))
  exact wpAny_pure ⟨_, rfl, h out hs hb⟩
/-- the value is a tuple (text, ..) with this key -/
def TupK (h : Heap) (v : Value) (k : List (Int ⊕ List Nat)) : Prop := tupKey h shp v = some k ∧ ∃ f, TupOf h shp v f
theorem TupK.keeps {h h' : Heap} {v : Value} {k : List (Int ⊕ List Nat)} (x : TupK h v k) (kp : ∀ b o, h.get? b = some o → o.cls = .type "tuple" → h'.get? b = some o) : TupK h' v k := by
  obtain ⟨e, f, a, o, xs, n, rfl, ho, hc, hd, hf, q⟩ := x
  refine ⟨?_, f, a, o, xs, n, rfl, kp _ _ ho hc, hc, hd, hf, q⟩
  unfold tupKey at e ⊢
  simp only [ho, kp _ _ ho hc] at e ⊢
  exact e
theorem cmpT {k : Value → List (Int ⊕ List Nat)} {vs : List Value} (hp : ∀ v ∈ vs, TupK s.heap v (k v)) : SrtO.Cmp prog w A s (tuples' true) (fun p => p.1 ∈ vs) (SrtO.lt2 fun v u => ltI (k v) (k u)) := by
  intro p q hm hm'
  exact tup_ltAt (shape := shp) true A _ p.1 q.1 (k p.1) (k q.1) (hp _ hm).1 (hp _ hm').1 ⟨rfl, rfl⟩
theorem tupsOf {h : Heap} : ∀ {vs : List Value}, (∀ v ∈ vs, ∃ f, TupOf h shp v f) → ∃ fs, TupsOf h shp vs fs ∧ fs.length = vs.length
  | [], _ => ⟨[], .nil, rfl⟩
  | v :: vs, x => by
    obtain ⟨f, hf⟩ := x v List.mem_cons_self
    obtain ⟨fs, hfs, e⟩ := tupsOf fun u hu => x u (List.mem_cons_of_mem _ hu)
    exact ⟨f :: fs, .cons hf hfs, by simp [e]⟩
theorem sortableT {a : Addr} {k : Value → List (Int ⊕ List Nat)} {vs : List Value} (h0 : 0 < vs.length) (hp : ∀ v ∈ vs, TupK s.heap v (k v)) (ha : ∀ o, s.heap.get? a = some o → o.cls ≠ .type "tuple") : SrtO.SortableO prog w A s a vs fun v u => ltI (k v) (k u) := by
  intro h' keep
  have hp' : ∀ v ∈ vs, TupK h' v (k v) := fun v hm => (hp v hm).keeps fun b o e c => keep b o (fun z => by subst z; exact ha o e c) e
  obtain ⟨fs, h1, h2⟩ := tupsOf fun v hv => (hp' v hv).2
  refine ⟨tuples' true, fun Q E hq => tup_kind (by omega) h1 hq, cmpT hp'⟩
end
/-- the key of a row -/
def keyR (z : Str) (c g : Int) : List (Int ⊕ List Nat) := [.inr z.cps.toList, .inl c, .inl g]
/-- sorted(xs), xs a list or tuple of tuples (text, int, int): a new list of the same, sorted -/
def rSortT (K : PySem.W.Frag) : List V → Hp → VK → Prop := fun vs H Q => ∃ (a : Addr) (xs : List V) (k : V → List (Int ⊕ List Nat)), vs = [V.ref a] ∧ (SqL K H a xs ∨ SqT K H a xs) ∧ (∀ x ∈ xs, ∃ t z c g, x = V.ref t ∧ H t = some (.tup [.str z, .int c, .int g]) ∧ k x = keyR z c g) ∧
  ∀ ys p, ys.Pairwise (fun x y => ltI (k y) (k x) = false) → ys.Perm xs → H p = none → Q (.ref p) (upd H p (.lst ys))
section
variable {X : Cx}
theorem cr_sortT3 : CallR X (.builtin "sorted") (rSortT X.K) := by
  intro pins s σ H vs us Q I r h
  obtain ⟨a, xs, k, rfl, hs, hx, q⟩ := h
  obtain ⟨its, T, o1, n1, rv, hT, g1, g2, g3, hz⟩ : ∃ (its : List Value) (T : String) (o1 : Obj) (n1 : Nat), Vals xs its ∧ (T = "list" ∨ T = "tuple") ∧ s.heap.get? a = some o1 ∧ o1.cls = .type T ∧ o1.data = .seq its.toArray n1 ∧ xs.length ≤ sizeLine := by
    rcases hs with hl | hl
    · obtain ⟨vs, rv, pl, hZ⟩ := I.list hl
      obtain ⟨o, n, e1, e2, _, e3⟩ := pl
      exact ⟨vs, "list", o, n, rv, .inl rfl, e1, e2, e3, hZ⟩
    · obtain ⟨vs, rv, pl, hZ⟩ := I.tuple hl
      obtain ⟨o, e1, e2, n, e3⟩ := pl
      exact ⟨vs, "tuple", o, n, rv, .inr rfl, e1, e2, e3, hZ⟩
  rw [Vals.ref1 r]
  obtain ⟨e1, e2⟩ := refs_back rv fun x m => by
    obtain ⟨t, _, _, _, e, _⟩ := hx x m
    exact ⟨t, e⟩
  have kk : ∀ v ∈ its, TupK s.heap v (k (backV v)) := fun v hv => by
    obtain ⟨t, rfl⟩ := e2 v hv
    have hm : V.ref t ∈ xs := by rw [e1]; exact List.mem_map.mpr ⟨_, hv, rfl⟩
    obtain ⟨t', z, c, g, e, ht, ek⟩ := hx _ hm
    cases e
    obtain ⟨its2, rv2, pl2, _⟩ := I.tuple (SqT.of ht)
    obtain ⟨o, ho, hc, n, hd⟩ := pl2
    cases rv2 with
    | cons r1 rv2 =>
      cases rv2 with
      | cons r2 rv2 =>
        cases rv2 with
        | cons r3 rv2 =>
          cases rv2 with
          | nil =>
            obtain ⟨t1, rfl⟩ := r1
            obtain ⟨t2, rfl⟩ := r2
            obtain ⟨t3, rfl⟩ := r3
            refine ⟨?_, _, t, o, _, n, rfl, ho, hc, hd, rfl, fun z => absurd z (by decide), fun _ => ⟨z, t1, rfl⟩⟩
            rw [show k (backV (Value.ref t)) = keyR z c g from ek]
            unfold tupKey
            simp only [ho, hd]
            rfl
  refine sorted_ordA (ltv := fun v u => ltI (k (backV v)) (k (backV u))) (swo_I fun v => k (backV v)) hT g1 g2 g3 (by rw [← rv.length]; exact hz) (fun h2 h₁ a' ha kp => ?_) fun out h1 h2 => ?_
  · refine sortableT (s := { s with heap := h₁ }) (k := fun v => k (backV v)) (by omega) (fun v hm => (kk v hm).keeps fun b o e _ => (kp b o e).2) fun o e => ?_
    have e' : some o = some (seqObj "list" its.toArray 0) := e.symm.trans ha
    cases e'
    intro c
    exact absurd (Value.type.inj c) (by decide)
  · have h3 : ∀ u ∈ out, ∃ a, u = Value.ref a := fun u hu => e2 u (h2.perm.mem_iff.mp hu)
    obtain ⟨n, hn⟩ := sortedAll_at s.heap its out.toArray
    have hb : (out.map backV).Perm xs := by
      rw [e1]
      exact h2.perm.map backV
    have hdd : s.heap.objs.size ≤ s.heap.objs.size + 1 := Nat.le_succ _
    refine ⟨.ref (s.heap.objs.size + 1), upd H (s.heap.objs.size + 1) (.lst (out.map backV)), I.laid (t' := s.toks) (fun b o e => sortedAll_old e) hdd ⟨?_, out, n, vals_back h3, hn⟩, rfl, q _ _ (List.pairwise_map.mpr h1) hb (I.hok.fresh hdd)⟩
    rw [hb.length_eq]
    exact hz
end
end Sho
set_option Elab.async false
set_option linter.all false
set_option maxRecDepth 100000
set_option maxHeartbeats 2000000
set_option autoImplicit false
/-! Data of ints and texts in tuples and lists: equal to themselves, as deep comparison wants them. -/
namespace Shp
open PySem L2
/-- ints and texts, in tuples and lists at most n deep -/
def LeafD (d : PyData) : Prop := (∃ i, d = .int i) ∨ ∃ x : Str, d = .str x ∧ x.cps.all (· < 0x110000) = true
def PlainD : Nat → PyData → Prop
  | 0, d => LeafD d
  | n + 1, d => LeafD d ∨ (∃ ds, d = .tuple ds ∧ ∀ e ∈ ds, PlainD n e) ∨ ∃ ds, d = .list ds ∧ ∀ e ∈ ds, PlainD n e
theorem plain_int (i : Int) : ∀ n, PlainD n (.int i)
  | 0 => .inl ⟨i, rfl⟩
  | _ + 1 => .inl (.inl ⟨i, rfl⟩)
theorem plain_str {x : Str} (h : x.cps.all (· < 0x110000) = true) : ∀ n, PlainD n (.str x)
  | 0 => .inr ⟨x, rfl, h⟩
  | _ + 1 => .inl (.inr ⟨x, rfl, h⟩)
theorem plain_tup {n : Nat} {ds : List PyData} (h : ∀ e ∈ ds, PlainD n e) : PlainD (n + 1) (.tuple ds) := .inr (.inl ⟨ds, rfl, h⟩)
theorem plain_lst {n : Nat} {ds : List PyData} (h : ∀ e ∈ ds, PlainD n e) : PlainD (n + 1) (.list ds) := .inr (.inr ⟨ds, rfl, h⟩)
theorem plain_ints {n : Nat} (xs : List Int) : PlainD (n + 1) (.list (xs.map PyData.int)) := plain_lst fun e he => by
  obtain ⟨i, _, rfl⟩ := List.mem_map.mp he
  exact plain_int i n
theorem lay_all : ∀ {ds : List PyData}, (∀ d ∈ ds, PyData.canLay0 d = true) → PyData.canLayAll0 ds = true
  | [], _ => rfl
  | d :: ds, h => by
    show (PyData.canLay0 d && PyData.canLayAll0 ds) = true
    rw [h d List.mem_cons_self, lay_all fun e he => h e (List.mem_cons_of_mem _ he)]
    rfl
theorem dep_all {n : Nat} : ∀ {ds : List PyData}, (∀ d ∈ ds, PyData.depth d ≤ n) → PyData.depthAll ds ≤ n
  | [], _ => Nat.zero_le _
  | d :: ds, h => by
    show max (PyData.depth d) (PyData.depthAll ds) ≤ n
    have := h d List.mem_cons_self
    have := dep_all fun e he => h e (List.mem_cons_of_mem d he)
    omega
theorem eqv_all : ∀ {ds : List PyData}, (∀ d ∈ ds, PyData.eqv d d = true) → PyData.eqvAll ds ds = true
  | [], _ => rfl
  | d :: ds, h => by
    show (PyData.eqv d d && PyData.eqvAll ds ds) = true
    rw [h d List.mem_cons_self, eqv_all fun e he => h e (List.mem_cons_of_mem _ he)]
    rfl
theorem leaf_ok {d : PyData} (h : LeafD d) : PyData.canLay0 d = true ∧ PyData.depth d ≤ 0 ∧ PyData.eqv d d = true := by
  rcases h with ⟨i, rfl⟩ | ⟨x, rfl, hx⟩
  · exact ⟨rfl, Nat.le_refl _, by show (i == i) = true; simp⟩
  · exact ⟨hx, Nat.le_refl _, by show (x == x) = true; simp⟩
theorem plain_ok : ∀ {n : Nat} {d : PyData}, PlainD n d → PyData.canLay0 d = true ∧ PyData.depth d ≤ n ∧ PyData.eqv d d = true
  | 0, d, h => leaf_ok h
  | n + 1, d, h => by
    rcases h with h | ⟨ds, rfl, h⟩ | ⟨ds, rfl, h⟩
    · obtain ⟨a, b, c⟩ := leaf_ok h
      exact ⟨a, by omega, c⟩
    · refine ⟨lay_all fun e he => (plain_ok (h e he)).1, ?_, eqv_all fun e he => (plain_ok (h e he)).2.2⟩
      show PyData.depthAll ds + 1 ≤ n + 1
      have := dep_all fun e he => (plain_ok (h e he)).2.1
      omega
    · refine ⟨lay_all fun e he => (plain_ok (h e he)).1, ?_, eqv_all fun e he => (plain_ok (h e he)).2.2⟩
      show PyData.depthAll ds + 1 ≤ n + 1
      have := dep_all fun e he => (plain_ok (h e he)).2.1
      omega
theorem plain_shaped {n : Nat} {d : PyData} (h : PlainD n d) (hn : n ≤ 64 := by decide) : SeqAt.shaped d = true := by
  obtain ⟨a, b, _⟩ := plain_ok h
  unfold SeqAt.shaped
  rw [a, decide_eq_true (by omega : PyData.depth d ≤ 64)]
  rfl
theorem plain_refl {n : Nat} {d : PyData} (h : PlainD n d) : PyData.eqv d d = true := (plain_ok h).2.2
theorem nil_shaped : SeqAt.shaped (.list []) = true := rfl
theorem eqv_nil (ds : List PyData) : PyData.eqv (.list ds) (.list []) = ds.isEmpty := by
  cases ds <;> rfl
theorem dp_ints {K : PySem.W.Frag} {H : Hp} : ∀ xs : List Int, DpAll K H (xs.map V.int) (xs.map PyData.int)
  | [] => .nil
  | x :: xs => .cons (.int x) (dp_ints xs)
theorem dp_strs {K : PySem.W.Frag} {H : Hp} : ∀ xs : List Str, DpAll K H (xs.map V.str) (xs.map PyData.str)
  | [] => .nil
  | x :: xs => .cons (.str x) (dp_strs xs)
/-- items that are told one by one -/
theorem dp_of {α : Type} {K : PySem.W.Frag} {H : Hp} {R : V → α → Prop} {f : α → PyData} (each : ∀ v x, R v x → Dp K H v (f x)) : ∀ {ws : List V} {xs : List α}, PySem.Paired R ws xs → DpAll K H ws (xs.map f)
  | _, _, .nil => .nil
  | _, _, .cons h r => .cons (each _ _ h) (dp_of each r)
end Shp
set_option Elab.async false
set_option linter.all false
set_option maxRecDepth 100000
set_option maxHeartbeats 4000000
set_option autoImplicit false
/-! What two sorted lists of stays, or of keys, say. -/
namespace Cm
open PySem L2 Sho NdefX Shg Sh1
def keyS (x : Stay) : List (Int ⊕ List Nat) := keyR x.1 x.2.1 x.2.2
theorem keyS_inj {x y : Stay} (h : keyS x = keyS y) : x = y := by
  obtain ⟨x1, x2, x3⟩ := x
  obtain ⟨y1, y2, y3⟩ := y
  unfold keyS keyR at h
  obtain ⟨h1, h⟩ := List.cons.inj h
  obtain ⟨h2, h⟩ := List.cons.inj h
  obtain ⟨h3, _⟩ := List.cons.inj h
  have h1 := Array.toList_inj.mp (Sum.inr.inj h1)
  have h2 := Sum.inl.inj h2
  have h3 := Sum.inl.inj h3
  cases x1
  cases y1
  simp only at h1 h2 h3
  rw [h1, h2, h3]
theorem map_inj {α β : Type} {f : α → β} (hf : ∀ x y, f x = f y → x = y) : ∀ {l m : List α}, l.map f = m.map f → l = m
  | [], [], _ => rfl
  | [], _ :: _, h => by simp at h
  | _ :: _, [], h => by simp at h
  | x :: l, y :: m, h => by
    obtain ⟨h1, h2⟩ := List.cons.inj h
    rw [hf x y h1, map_inj hf h2]
/-- the key of a value that is a stay -/
def keyH (H : Hp) (v : V) : List (Int ⊕ List Nat) := keyS (unStay H v)
theorem keyH_all {H : Hp} {ws : List V} {xs : List Stay} (sv : StaysV H ws xs) : ∀ x ∈ ws, ∃ t z c g, x = V.ref t ∧ H t = some (.tup [.str z, .int c, .int g]) ∧ keyH H x = keyR z c g := fun x hx => by
  obtain ⟨t, rfl, ht⟩ := stays_sub sv x hx
  refine ⟨t, _, _, _, rfl, ht, rfl⟩
theorem perm_stays {H : Hp} {ws zs : List V} {xs : List Stay} (sv : StaysV H ws xs) (p : zs.Perm ws) : StaysV H zs (zs.map (unStay H)) ∧ (zs.map (unStay H)).Perm xs := by
  refine ⟨stays_all fun v hv => stays_sub sv v (p.mem_iff.mp hv), ?_⟩
  have := p.map (unStay H)
  rw [unStays sv] at this
  exact this
theorem two_sorted {H H1 : Hp} {a b : List V} {xs ys : List Stay} (ha : a.Pairwise fun x y => ltI (keyH H y) (keyH H x) = false) (hb : b.Pairwise fun x y => ltI (keyH H1 y) (keyH H1 x) = false) (pa : (a.map (unStay H)).Perm xs) (pb : (b.map (unStay H1)).Perm ys) (p : xs.Perm ys) : a.map (unStay H) = b.map (unStay H1) := by
  refine map_inj (f := keyS) (fun _ _ => keyS_inj) (sorted_one ?_ ?_ ((pa.trans (p.trans pb.symm)).map keyS))
  · rw [List.map_map]
    exact List.pairwise_map.mpr ha
  · rw [List.map_map]
    exact List.pairwise_map.mpr hb
/-- the ints of a tuple -/
def intsV (H : Hp) : V → List Int
  | .ref t => match H t with
    | some (.tup xs) => xs.map toI
    | _ => []
  | _ => []
theorem intsV_of {H : Hp} {t : Addr} {k : List Int} (h : H t = some (.tup (k.map V.int))) : intsV H (.ref t) = k := by
  unfold intsV
  simp only
  rw [h]
  exact toI_map k
abbrev KeyAt (H : Hp) (v : V) (k : List Int) : Prop := ∃ t, v = V.ref t ∧ H t = some (.tup (k.map V.int))
theorem keys_map {H : Hp} {us : List V} {ks : List (List Int)} (h : PySem.Paired (KeyAt H) us ks) : us.map (intsV H) = ks := by
  induction h with
  | nil => rfl
  | cons a _ ih =>
    obtain ⟨t, rfl, ht⟩ := a
    rw [List.map_cons, ih, intsV_of ht]
theorem keys_mem {H : Hp} {us : List V} {ks : List (List Int)} (h : PySem.Paired (KeyAt H) us ks) : ∀ v ∈ us, intsV H v ∈ ks ∧ KeyAt H v (intsV H v) := by
  induction h with
  | nil => intro v hv; cases hv
  | cons a _ ih =>
    intro v hv
    rcases List.mem_cons.mp hv with rfl | hv
    · obtain ⟨t, rfl, ht⟩ := a
      rw [intsV_of ht]
      exact ⟨List.mem_cons_self, t, rfl, ht⟩
    · exact ⟨List.mem_cons_of_mem _ (ih v hv).1, (ih v hv).2⟩
theorem keys_all {H : Hp} : ∀ {us : List V}, (∀ v ∈ us, KeyAt H v (intsV H v)) → PySem.Paired (KeyAt H) us (us.map (intsV H))
  | [], _ => .nil
  | v :: us, h => .cons (h v List.mem_cons_self) (keys_all fun u hu => h u (List.mem_cons_of_mem _ hu))
def intsD (k : List Int) : PyData := .tuple (k.map PyData.int)
theorem dp_keys {K : PySem.W.Frag} {H : Hp} {us : List V} {ks : List (List Int)} (h : PySem.Paired (KeyAt H) us ks) : DpAll K H us (ks.map intsD) :=
  Shp.dp_of (R := KeyAt H) (f := intsD) (fun v k ⟨t, e, ht⟩ => by rw [e]; exact .tup (SqT.of ht) (Shp.dp_ints k)) h
theorem plain_keys (ks : List (List Int)) : Shp.PlainD 2 (.list (ks.map intsD)) := Shp.plain_lst fun d hd => by
  obtain ⟨k, _, rfl⟩ := List.mem_map.mp hd
  exact Shp.plain_tup fun e he => by
    obtain ⟨i, _, rfl⟩ := List.mem_map.mp he
    exact Shp.plain_int i 0
theorem sorted_keys {H H1 : Hp} {us vs : List V} {ks : List (List Int)} {d : Nat} (h : PySem.Paired (KeyAt H) us ks) (hd : ∀ k ∈ ks, k.length = d) (s : ks.Pairwise fun a b => lexL b a = false) (p : vs.Perm us) (sv : vs.Pairwise fun x y => lexL (intsV H y) (intsV H x) = false) : vs.map (intsV H) = ks := by
  have pk : (vs.map (intsV H)).Perm ks := by
    have := p.map (intsV H)
    rw [keys_map h] at this
    exact this
  exact (lex_one (d := d) hd s (List.pairwise_map.mpr sv) pk.symm).symm
end Cm
set_option Elab.async false
set_option linter.all false
set_option maxRecDepth 100000
set_option maxHeartbeats 4000000
set_option autoImplicit false
/-! def f(a, .., **d) called with keywords; C.m(.., k = v), m a classmethod of that kind; x(*e), x a local name that holds a class. -/
namespace Sho
open PySem PySem.Spec PyProof.Rows L2 PySem.W
/-- a def called with positional values and the keywords ks -/
def FnKw (P : Program) (w : World) (K : PySem.W.Frag) (mg : Str → Option Value) (base : Heap) (CX : CXT) (k : Nat) (f : Addr) (ks : List Str) (sp : List V → List V → Hp → VK → XK → Prop) : Prop :=
  ∀ (A : Around) (outer : List Env) (s : Shared) (H : Hp) (us ws : List Value) (vs zs : List V) (Q : VK) (E : XK), Room k A → Env0 P w K mg base A outer s H → Vals vs us → Vals zs ws → sp vs zs H Q E →
    codeAny (model P w) A (.call (.ref f) ⟨us, ks.zip ws⟩) (CR CX outer P w H s Q E) s
section
variable {P : Program} {w : World} {K : PySem.W.Frag} {mg : Str → Option Value} {base : Heap} {A : Around} {E : Value → Shared → Prop}
theorem env0_new {outer : List Env} {s : Shared} {H : Hp} {u : HO} {h' : Heap} {d tk : Nat} (e0 : Env0 P w K mg base A outer s H) (kp : ∀ b x, s.heap.get? b = some x → h'.get? b = some x) (hd : s.heap.objs.size ≤ d) (hz : s.heap.objs.size ≤ h'.objs.size)
    (new : ObjOk P w (upd H d u) h' d u) : Env0 P w K mg base A outer { s with heap := h', toks := tk } (upd H d u) := by
  refine ⟨e0.frames, e0.mod, fun b x e => ⟨kp b x (e0.bs b x e).1, ?_⟩, Nat.le_trans e0.bsz hz, Heap.FunFrames.of_keeps (fun b x e _ => ⟨x, kp b x e, rfl⟩) e0.funs, fun b hb => ?_, e0.hok.laid kp hd new, e0.bare⟩
  · rw [upd_ne (Nat.ne_of_lt (Nat.lt_of_lt_of_le (Heap.lt_size (e0.bs b x e).1) hd))]
    exact (e0.bs b x e).2
  · obtain ⟨_, x, hx, _⟩ := e0.funs.mem hb
    rw [upd_ne (Nat.ne_of_lt (Nat.lt_of_lt_of_le (Heap.lt_size hx) hd))]
    exact e0.frf b hb
theorem nsSet_dict {prog : Program} {d : Addr} {s : Shared} {es : List DictEntry} {n : Nat} {k : Str} {v : Value} {Q : Unit → Shared → Prop} (D : s.heap.get? d = some (dictOf es n))
    (hs : ∀ e ∈ es, e.key.isStr k = false) (hr : ∀ e ∈ es, e.refKey = false)
    (h : ∀ h', Heap.SameBut d s.heap h' → h'.objs.size = s.heap.objs.size → h'.get? d = some (dictOf (es ++ [⟨PyData.keyHash w.params k, .str k s.toks, v⟩]) (n + 1)) → Q () { s with heap := h', toks := s.toks + 1 }) :
    wpAny (model prog w) A (nsSet d k v) Q E s := by
  have e1 : es.any (·.key.isStr k) = false := by
    cases q : es.any (·.key.isStr k) with
    | false => rfl
    | true => obtain ⟨e, he, z⟩ := List.any_eq_true.mp q; rw [hs e he] at z; cases z
  have e2 : es.any (·.refKey) = false := by
    cases q : es.any (·.refKey) with
    | false => rfl
    | true => obtain ⟨e, he, z⟩ := List.any_eq_true.mp q; rw [hr e he] at z; cases z
  have e : Obj.putName k (PyData.keyHash w.params k) (.str k s.toks) v (dictOf es n) = dictOf (es ++ [⟨PyData.keyHash w.params k, .str k s.toks, v⟩]) (n + 1) := by
    rw [putName_dict, putL_new hs]
    show dictOf _ (if es.any (·.key.isStr k) then n else n + 1) = _
    rw [e1, if_neg Bool.false_ne_true]
  have c : aRefKeyMayBeTheName k es.toArray = false := by
    rw [aRefKeyMayBeTheName_at, ← Array.any_toList, ← Array.any_toList]
    show (!es.any (·.key.isStr k) && es.any (·.refKey)) = false
    rw [e2, Bool.and_false]
  unfold nsSet
  refine wpAny_bind (wpAny_bind (wpAny_askSetting (wpAny_pure (wpAny_bind (wpAny_mkText (wpAny_bind (wpAny_loadPart D ?_)))))))
  dsimp only
  rw [c]
  refine wpAny_updatePart D (h _ (Heap.SameBut.update ..) (Heap.size_update ..) ?_)
  rw [← e]
  exact Heap.get?_update_self _ D (by have z := congrArg Obj.isFreed e; exact z)
theorem fill_dict {prog : Program} {d : Addr} {Q : PUnit → Shared → Prop} : ∀ (ex : List (Str × Value)) (s : Shared) (es : List DictEntry) (n : Nat), s.heap.get? d = some (dictOf es n) →
    (∀ e ∈ es, ∀ x ∈ ex, e.key.isStr x.1 = false) → (∀ e ∈ es, e.refKey = false) → (ex.map (·.1)).Nodup →
    (∀ h', Heap.SameBut d s.heap h' → h'.objs.size = s.heap.objs.size → h'.get? d = some (dictOf (es ++ kwEs w.params s.toks ex) (n + ex.length)) → Q ⟨⟩ { s with heap := h', toks := s.toks + ex.length }) →
    wpAny (model prog w) A (forIn ex PUnit.unit fun x _ => (nsSet d x.1 x.2 >>= fun _ => pure (ForInStep.yield PUnit.unit))) Q E s
  | [], s, es, n, D, _, _, _, h => by
    rw [List.forIn_nil]
    refine wpAny_pure (h s.heap ⟨rfl, fun _ _ => rfl⟩ rfl ?_)
    show s.heap.get? d = some (dictOf (es ++ []) n)
    rw [List.append_nil]
    exact D
  | x :: r, s, es, n, D, hs, hr, hn, h => by
    obtain ⟨hn1, hn2⟩ := List.nodup_cons.mp (show (x.1 :: r.map (·.1)).Nodup from hn)
    rw [List.forIn_cons]
    refine wpAny_bind (wpAny_bind (nsSet_dict D (fun e he => hs e he x (.head _)) hr fun h' sb hz D' => wpAny_pure ?_))
    show wpAny (model prog w) A (forIn r PUnit.unit fun x _ => (nsSet d x.1 x.2 >>= fun _ => pure (ForInStep.yield PUnit.unit))) Q E { s with heap := h', toks := s.toks + 1 }
    refine fill_dict r { s with heap := h', toks := s.toks + 1 } _ _ D' (fun e he y hy => ?_) (fun e he => ?_) hn2 fun h'' sb2 hz2 D2 => ?_
    · rcases List.mem_append.mp he with he | he
      · exact hs e he y (.tail _ hy)
      · obtain rfl := List.mem_singleton.mp he
        show (x.1 == y.1) = false
        exact beq_eq_false_iff_ne.mpr fun q => hn1 (by rw [q]; exact List.mem_map_of_mem hy)
    · rcases List.mem_append.mp he with he | he
      · exact hr e he
      · obtain rfl := List.mem_singleton.mp he
        rfl
    · have t1 : s.toks + 1 + r.length = s.toks + (r.length + 1) := by omega
      have t2 : n + 1 + r.length = n + (r.length + 1) := by omega
      show Q ⟨⟩ { s with heap := h'', toks := s.toks + 1 + r.length }
      rw [t1]
      refine h h'' ⟨sb2.1.trans sb.1, fun b hb => (sb2.2 b hb).trans (sb.2 b hb)⟩ (hz2.trans hz) ?_
      rw [t2, List.append_assoc] at D2
      exact D2
theorem pairs_kw {prog : Program} {Pm : Params} : ∀ (ks : List Str) (ws : List Value) (t : Tok), PySem.Pairs (mixKind prog w) (kwEs Pm t (ks.zip ws)) ((ks.zip ws).map fun p => ((Sum.inr p.1 : Key), p.2))
  | [], _, _ => .nil
  | _ :: _, [], _ => .nil
  | k :: ks, v :: ws, t => .cons (keyIs_str k t) rfl (pairs_kw ks ws (t + 1))
theorem keys_kw {prog : Program} (ex : List (Str × Value)) (t : Tok) : PySem.KeysOf (mixKind prog w) (kwEs w.params t ex).toArray := by
  intro e he
  obtain ⟨k, u, h1, h2⟩ := kwEs_key ex t e (by simpa using he)
  refine ⟨.inr k, ?_, ?_⟩
  · rw [h1]
    exact keyIs_str k u
  · rw [h2]
    rfl
theorem kv_zip : ∀ {ks : List Str} {zs : List V} {ws : List Value}, Vals zs ws → KV ((ks.zip zs).map fun p => ((Sum.inr p.1 : Key), p.2)) ((ks.zip ws).map fun p => ((Sum.inr p.1 : Key), p.2))
  | [], _, _, _ => .nil
  | _ :: _, _, _, .nil => .nil
  | _ :: ks, _, _, .cons r rs => .cons ⟨rfl, r⟩ (kv_zip (ks := ks) rs)
theorem zip_fst_sub {α β : Type} : ∀ (ks : List α) (ws : List β), ((ks.zip ws).map (·.1)).Sublist ks
  | [], _ => .slnil
  | k :: ks, [] => List.nil_sublist _
  | k :: ks, w :: ws => (zip_fst_sub ks ws).cons_cons k
theorem ok_kwdict {prog : Program} {H : Hp} {h' : Heap} {d : Addr} {ks : List Str} {zs : List V} {ws : List Value} {t n : Nat} (r : Vals zs ws) (hk : ks.Nodup) (hl : ks.length ≤ 100) (hb : sysModules < d) (D : h'.get? d = some (dictOf (kwEs w.params t (ks.zip ws)) n)) :
    ObjOk prog w H h' d (.dK ((ks.zip zs).map fun p => ((Sum.inr p.1 : Key), p.2))) := by
  refine ⟨?_, beq_eq_false_iff_ne.mpr (Ne.symm (Nat.ne_of_lt hb)), _, kv_zip r, _, _, n, D, ⟨rfl, rfl, rfl⟩, rfl, keys_kw _ _, ?_, ?_⟩
  · rw [List.length_map, List.length_zip, sizeLine_eq]
    omega
  · exact pairs_kw ks ws t
  · rw [List.map_map]
    have e : (ks.zip ws).map ((fun x : Key × Value => x.1) ∘ fun p : Str × Value => ((Sum.inr p.1 : Key), p.2)) = ((ks.zip ws).map (·.1)).map Sum.inr := by rw [List.map_map]; rfl
    have nd := hk.sublist (zip_fst_sub ks ws)
    rw [e]
    exact List.pairwise_map.mpr (List.Pairwise.imp (fun h z => h (Sum.inr.inj z)) nd)
end
open StX in
/-- def f(a, .., **d), called with keywords that are no parameters -/
theorem fn_kwd {CX : CXT} {P : Program} {w : World} {K : PySem.W.Frag} {mg : Str → Option Value} {base : Heap} {k : Nat} {f : Addr} {name qual : Str} {params : Arguments} {body : List Stmt} {scope : Scope} {dV kV doc pm cdv ct oc : Value} {an od : Option Addr}
    {osl : Array (Option Value)} {N ps ks : List Str} {sp : Sp} {pd : Str} (lk : K.lookup f = some ⟨oc, od, .func (PySem.W.fnOf name qual params body scope dV kV doc pm an cdv ct), osl⟩) (hcd : PySem.W.codeIn K cdv qual = true) (S : FnScope N (ps ++ [pd]) scope) (hCX : CXUp CX) (hk : ks.Nodup) (hkl : ks.length ≤ 100)
    (hb : ∀ us ws : List Value, us.length = ps.length → ws.length = ks.length → bindArgs (PySem.W.fnOf name qual params body scope dV kV doc pm an cdv ct) ⟨us, ks.zip ws⟩ =
      ((alloc ({ cls := .type "dict", data := .dict #[] } : Obj) : Sem Addr) >>= fun d => (forIn (ks.zip ws) PUnit.unit fun x _ => (nsSet d x.1 x.2 >>= fun _ => pure (ForInStep.yield PUnit.unit))) >>= fun _ => pure (ps.zip us ++ [(pd, Value.ref d)])))
    (hbody : ∀ (A : Around) (outer : List Env) (s : Shared) (H : Hp) (vs : List V) (Q : VK) (E : XK), Room k (A.deeper (envOfC qual scope s.heap.objs.size f cdv)) → sp vs H Q E →
      ∃ t, PSs (cxOf CX P w K mg base N qual scope f cdv A outer s H E) body t ∧ t { nx := fun _ H' => Q .non H', rt := Q } (start N vs) H) :
    FnKw P w K mg base CX (k + 1) f ks (fun vs zs H Q E => vs.length = ps.length ∧ zs.length = ks.length ∧ ∀ d, H d = none → sp (vs ++ [V.ref d]) (upd H d (.dK ((ks.zip zs).map fun p => ((Sum.inr p.1 : Key), p.2)))) Q E) := by
  intro A outer s H us ws vs zs Q E hr e0 r rz hsp
  obtain ⟨hl, hlz, hq⟩ := hsp
  have hn : H s.heap.objs.size = none := e0.hok.fresh (Nat.le_refl _)
  refine run_bnd lk hcd S hr e0 (G := fun xs H2 => ∃ d, H d = none ∧ xs = vs ++ [V.ref d] ∧ H2 = upd H d (.dK ((ks.zip zs).map fun p => ((Sum.inr p.1 : Key), p.2)))) (fun A' Ex Q' h => ?_) fun s2 H2 xs ⟨d, hd, ex, eH⟩ hr' => ?_
  · rw [hb us ws (by rw [← r.length]; exact hl) (by rw [← rz.length]; exact hlz)]
    refine wpAny_bind (wpAny_alloc ?_)
    have sz : (s.heap.push ({ cls := .type "dict", data := .dict #[] } : Obj)).objs.size = s.heap.objs.size + 1 := Heap.size_push _ _
    have nd : ((ks.zip ws).map (·.1)).Nodup := hk.sublist (zip_fst_sub ks ws)
    refine wpAny_bind (fill_dict (d := s.heap.objs.size) (ks.zip ws) { s with heap := s.heap.push ({ cls := .type "dict", data := .dict #[] } : Obj) } [] 0 (Heap.get?_push_size _ rfl) (fun e he => nomatch he) (fun e he => nomatch he) nd fun h' sb hz D => ?_)
    have kp : ∀ b o, s.heap.get? b = some o → h'.get? b = some o := fun b o q => (sb.2 b (Nat.ne_of_lt (Heap.lt_size q))).trans (Heap.get?_push_of_some _ q)
    refine wpAny_pure ?_
    have e2 := env0_new (tk := s.toks + (ks.zip ws).length) (u := .dK ((ks.zip zs).map fun p => ((Sum.inr p.1 : Key), p.2))) e0 kp (Nat.le_refl _) (by rw [hz, sz]; exact Nat.le_succ _) (ok_kwdict rz hk hkl (env0_big e0) (by simpa using D))
    have un : Un (frs outer) [] H (upd H s.heap.objs.size (.dK ((ks.zip zs).map fun p => ((Sum.inr p.1 : Key), p.2)))) s.heap h' := Un.laid kp (Nat.le_refl _) hn
    have z := h _ _ (vs ++ [V.ref s.heap.objs.size]) (us ++ [Value.ref s.heap.objs.size]) e2 un rfl (fun e s' => hCX outer s H _ _ E e s' un kp rfl) (r.append (.cons rfl .nil)) (by rw [List.length_append, List.length_append, hl] <;> rfl) ⟨_, hn, rfl, rfl⟩
    rw [List.zip_append (by rw [← r.length]; exact hl.symm)] at z
    exact z
  · subst ex eH
    exact hbody A outer s2 _ _ Q E hr' (hq d hd)
/-! ### calls -/
/-- e.m(.., k = v, ..), e the class at C, m a classmethod -/
def tCMethK (C : Addr) (sp : List V → List V → Hp → VK → XK → Prop) (E : XK) (ta : TE) (t tk : L2.TA) : TE := fun σ H Q => ta σ H fun x H1 => x = .ref C ∧ t σ H1 fun vs H2 => tk σ H2 fun zs H3 => sp (.ref C :: vs) zs H3 Q E
section
variable {X : Cx} {CX : CXT} {k : Nat} {C p g : Addr} {mc : Value} {ks : List Str} {sp : List V → List V → Hp → VK → XK → Prop} {E : XK} {o e : Expr} {es : List Expr} {kws : List Keyword} {f m : Str} {pos apos : Pos} {ta : TE} {t tk : L2.TA} {pl : Sem Bool}
theorem run_cmk {pins : List (Addr × Obj)} {σ : L2.St} {H : Hp} {s : Shared} {q : Addr} {Q : VK} {us ws : List Value} {vs zs : List V} (F : FnKw X.prog X.w X.K X.mg X.base CX k g ks sp) (hr : Room k X.A) (hx : Passes CX X E) (I : Inv X ((q, PySem.W.methodObj (.ref g) (.ref C)) :: pins) σ H s)
    (r : Vals vs us) (rz : Vals zs ws) (h : sp (.ref C :: vs) zs H Q E) : wpAny (model X.prog X.w) X.A (call (.ref q) us (ks.zip ws)) (EP X pins σ Q) X.xe s := by
  have z : wpAny (model X.prog X.w) X.A (call (.ref q) us (ks.zip ws)) (EP X ((q, PySem.W.methodObj (.ref g) (.ref C)) :: pins) σ Q) X.xe s := by
    refine wpAny_call (PySem.W.method_call (ClX.pin_at I) (codeAny_mono (F X.A X.stack s H (.ref C :: us) ws (.ref C :: vs) zs Q E hr I.env0 (.cons rfl r) rz h) fun r s' hq => ?_))
    cases r with
    | error e => exact hx _ σ H s e s' I hq
    | ok fl =>
      cases fl with
      | ret u => exact I.after hq
      | next => exact False.elim hq
      | brk => exact False.elim hq
      | cont => exact False.elim hq
  exact thn z fun _ _ y => ClX.unpinE y
theorem pe_cmethK (he : PE X o ta) (r : ClX.CRead X.K C mc) (c : ClX.CMet X.K C mc m p g) (F : FnKw X.prog X.w X.K X.mg X.base CX k g ks sp) (hr : Room k X.A) (hx : Passes CX X E) (ha : PA X (e :: es) t) (hkw : PK X kws tk)
    (hall : (backToKw pos (keywordEach kws X.env)).all (·.1.isSome) = true := by rfl) (hks : (backToKw pos (keywordEach kws X.env)).filterMap (·.1) = ks := by rfl)
    (hst : starEach (e :: es) X.env = (false, eval e X.env) :: starEach es X.env := by rfl) (hpl : ((backTo pos (starEach (e :: es) X.env)).any (·.1) || (backToKw pos (keywordEach kws X.env)).any (·.1.isNone)) = false := by rfl)
    (ht : eval (.Call (.Attribute o m apos) (e :: es) kws pos) X.env = (do
      let ov ← eval o X.env
      standAt apos.atName
      let (f, first) ← holding [ov] (getMethod ov m pl)
      callWith pos f first (backTo pos (starEach (e :: es) X.env)) (backToKw pos (keywordEach kws X.env))) := by rfl) :
    PE X (.Call (.Attribute o m apos) (e :: es) kws pos) (tCMethK C sp E ta t tk) := by
  refine ⟨fun pins s σ H Q I h => ?_⟩
  refine PySem.W.methodCall_KW (pl := pl) (thn (he.run pins s σ H _ I h) fun u s1 ⟨x, H1, I1, rx, ex, q⟩ => ?_) ht
  subst ex
  obtain rfl : u = Value.ref C := rx
  refine ClX.getmethcm_ok I1 r c fun s2 I2 => ?_
  refine PySem.W.callWith_of hpl (PySem.W.keeps_M c.fi) (evalArgs_kw2 hall (thn (ha.run pos _ s2 σ H1 _ I2 q) fun us s3 ⟨vs, H2, I3, rv, q2⟩ => thn (hkw.run pos _ s3 σ H2 _ I3 q2) fun ws s4 ⟨zs, H3, I4, rz, q3⟩ => ⟨⟨ClX.pin_at I4, I4.kIn⟩, ?_⟩) hst)
  rw [hks]
  exact run_cmk F hr hx I4 rv rz q3
end
/-- x(*e), x a local name that holds a class -/
def tMakeSV (K : PySem.W.Frag) (i : Nat) (C : Addr) (sp : Sp) (E : XK) (te : TE) : TE := fun σ H Q => σ[i]? = some (some (.ref C)) ∧ tMakeS K C sp E te σ H Q
section
variable {X : Cx} {CX : CXT} {k i : Nat} {f C : Addr} {sp : Sp} {E : XK}
theorem pe_makeSV {x : Str} {e : Expr} {te : TE} {p sp_ pos : Pos} (M : Mk X.K C f) (F : FnR X.prog X.w X.K X.mg X.base CX k f sp) (hr : Room (k + 1) X.A) (hN : X.N[i]? = some x) (hv : Vis X.env.scope x) (hx : Passes CX X E) (he : PE X e te) (hd : (x == ("__debug__" : Str)) = false := by decide) (hcd : (x == ("__classdict__" : Str)) = false := by decide)
    (hst : starEach [.Starred e sp_] X.env = [(true, eval e X.env)] := by rfl) : PE X (.Call (.Name x p) [.Starred e sp_] [] pos) (tMakeSV X.K i C sp E te) := by
  refine ⟨fun pins s σ H Q I h => ?_⟩
  obtain ⟨hs, h⟩ := h
  refine wpAny_Call_Name_kw (thn ((pe_var (pos := p) (i := i) hN hv hd hcd).run pins s σ H (fun v H1 => v = .ref C ∧ H1 = H) I ⟨.ref C, hs, rfl, rfl⟩) fun u s1 ⟨v, H1, I1, r1, ev, eH⟩ => ?_)
  subst ev
  rw [eH] at I1
  cases r1
  refine PySem.W.callWith_S (h₀ := X.base) I.ok.mod.kin M.kp (thn (he.run pins s1 σ H _ I1 h) fun v s1 ⟨y, H1, I1, ry, a, xs, ey, hxs, q⟩ => ?_) hst
  subst ey
  obtain rfl : v = Value.ref a := ry
  exact StX.star_any I1 hxs fun us s2 I2 rv => ⟨I2.kIn, StX.run_makeR M F hr hx I2 rv q⟩
end
end Sho
set_option Elab.async false
set_option linter.all false
set_option maxRecDepth 100000
set_option maxHeartbeats 4000000
set_option autoImplicit false
/-! Party.evening. -/
namespace Cm
open PySem L2 Sho NdefX Shg Sh1
section
variable {P : Program} {w : World} {K : PySem.W.Frag} {mg : Str → Option Value} {base : Heap}
abbrev NE : List Str := ["cls", "length", "comings", "stays", "name", "come"]
def eveOf (l : Int) (kvs : List (Str × Int)) : List Stay := kvs.map fun p => (p.1, p.2, p.2 + l)
def spEveB (C CI : Addr) : Sp := fun vs H Q E => ∃ (l : Int) (d : Addr) (kvs : List (Str × Int)), vs = [.ref C, .int l, .ref d] ∧ H d = some (.dK (kvs.map fun p => ((Sum.inr p.1 : Key), V.int p.2))) ∧ kvs.length ≤ 24 ∧ Short (eveOf l kvs) ∧ Making C CI H (eveOf l kvs) Q E
theorem scEve : FnScope NE ["cls", "length", "comings"] (defScope sPEvening) := ⟨rfl, rfl, rfl, by decide +kernel, rfl, by decide +kernel, by decide +kernel⟩
theorem eve_body {f C CI fI : Addr} (M : Mk K C fI) (GI : FnR P w K mg base (L2.CX P w) 5 fI (spPNew C CI)) {cdv : Value} {A : Around} {outer : List Env} {s : Shared} {H : Hp} {vs : List V} {Q : VK} {E : XK}
    (hr : Room 6 (A.deeper (PyProof.Rows.envOfC "Party.evening" (defScope sPEvening) s.heap.objs.size f cdv))) (h : spEveB C CI vs H Q E) :
    ∃ t, PSs (cxOf (L2.CX P w) P w K mg base NE "Party.evening" (defScope sPEvening) f cdv A outer s H E) (defBody sPEvening) t ∧ t { nx := fun _ H' => Q .non H', rt := Q } (start NE vs) H := by
  obtain ⟨l, d, kvs, rfl, hd, hl, hs, k⟩ := h
  have nd := scEve.nd
  have pass : Passes (L2.CX P w) (cxOf (L2.CX P w) P w K mg base NE "Party.evening" (defScope sPEvening) f cdv A outer s H E) E := passes_call (takes_of rfl rfl rfl rfl) fun _ _ _ _ z => z
  refine ⟨_, pss_cons (ps_lock (ps_setLc (i := 3) (own := [("name", 4), ("come", 5)]) (g := gTup K 2 (gCons (gName 4) (gCons (gName 5) gNil))) (tt := tYes) rfl nd rfl rfl (sw_true rfl rfl rfl (by decide +kernel))
      (pi_items (pv 2)) (blkOk_by (own := [("name", 4), ("come", 5)]) (N := NE) (sc := defScope sPEvening) (by decide +kernel))
      (fun _ _ _ _ _ => pg_tup rfl (pgs_cons (pg_name (i := 4) nd rfl (Or.inl rfl)) (pgs_cons (pg_name (i := 5) nd rfl (Or.inl rfl)) pgs_nil)))
      (fun _ _ _ _ _ => pts_nil) (fun _ _ _ _ _ => pe_tup (pa_cons (pv 4) (pa_cons (pv 5) (pa_cons (pe_op op_add (pv 5) (pv 1)) pa_nil))))))
    (pss_one (ps_ret (pe_makeSV (i := 0) M GI hr rfl (Or.inl rfl) pass (pv 3)))), ?_⟩
  refine ⟨d, _, hd, trivial, fun od => ?_⟩
  have nd1 : ∀ b, upd H d (.frz od (.dK (kvs.map fun p => ((Sum.inr p.1 : Key), V.int p.2)))) b = none → b ≠ d := fun b e z => by
    subst z
    rw [upd_same] at e
    cases e
  refine ⟨_, rfl, d, od, _, rfl, upd_same, fun D hD => ?_⟩
  have fz : (upd H d (.frz od (.dK (kvs.map fun p => ((Sum.inr p.1 : Key), V.int p.2))))) d = some (.frz od (.dK (kvs.map fun p => ((Sum.inr p.1 : Key), V.int p.2)))) := upd_same
  refine lc_rel walk_items (fun i y H => ∃ x, (eveOf l kvs)[i]? = some x ∧ StayV H y x) hD (by rw [List.length_map]; exact Nat.le_trans hl (by decide)) (fun H1 s1 => s1 _ _ fz) (fun i y H H' st r => ?_) (fun i v H1 H' hi s1 y R k1 => ?_) fun H1 ys s1 e1 e2 e3 => ?_
  · obtain ⟨x, e, t, e2, e3⟩ := r
    exact ⟨x, e, t, e2, st _ _ e3⟩
  · obtain ⟨T, x, y, rfl, hT, rfl, ex, ey⟩ := y
    have ex : ((kvs.map fun p => ((Sum.inr p.1 : Key), V.int p.2))[i]?).map (fun kv => kV kv.1) = some x := ex
    have ey : ((kvs.map fun p => ((Sum.inr p.1 : Key), V.int p.2))[i]?).map Prod.snd = some y := ey
    rw [List.getElem?_map] at ex ey
    obtain ⟨p, hp, rfl⟩ : ∃ p, kvs[i]? = some p ∧ x = .str p.1 := by
      cases e : kvs[i]? with
      | none => rw [e] at ex; cases ex
      | some p => rw [e] at ex; exact ⟨p, rfl, (Option.some.inj ex).symm⟩
    rw [hp] at ey
    cases ey
    refine ⟨T, _, rfl, SqT.of upd_same, rfl, _, _, rfl, _, _, rfl, rfl, rfl, _, rfl, _, rfl, _, rfl, _, rfl, _, _, rfl, rfl, by show 3 ≤ sizeLine; decide, fun q hq => ?_⟩
    refine k1 _ _ ((Shg.same_upd hT).trans (Shg.same_upd hq)) ⟨(p.1, p.2, p.2 + l), ?_, q, rfl, upd_same⟩
    unfold eveOf
    rw [List.getElem?_map, hp]
    rfl
  · have ll : (eveOf l kvs).length = kvs.length := List.length_map _
    rw [List.length_map] at e2
    have sv : StaysV H1 ys (eveOf l kvs) := stays_of (by rw [e2, ll]) e3
    have dD := nd1 D hD
    have eD : H1 d = some (.frz od (.dK (kvs.map fun p => ((Sum.inr p.1 : Key), V.int p.2)))) := s1 _ _ fz
    have st : ∀ b o, b ≠ d → H1 b = some o → (upd H1 d (.dK (kvs.map fun p => ((Sum.inr p.1 : Key), V.int p.2)))) b = some o := fun b o n e => by rw [upd_ne n]; exact e
    have s2 : Same H (upd H1 d (.dK (kvs.map fun p => ((Sum.inr p.1 : Key), V.int p.2)))) := fun b o e => by
      by_cases n : b = d
      · subst n
        rw [hd] at e
        rw [upd_same, ← e]
      · refine st b o n (s1 _ _ ?_)
        rw [upd_ne n]
        exact e
    refine ⟨eD, ?_⟩
    have k' := k.after s2
    refine ⟨rfl, .ref D, rfl, D, ys, rfl, .inr (SqL.of (st _ _ dD e1)), ?_⟩
    refine party_new (Shg.pair_mono (fun _ _ ⟨t, q, ht⟩ => ⟨t, q, st _ _ (fun z => ?_) ht⟩) sv) hs (by rw [e2]; exact Nat.le_trans hl (by decide)) k'.1 k'.2
    rw [z, eD] at ht
    cases ht
/-- the def, called with the keywords ann and bob -/
theorem fn_eve {f C CI fI : Addr} (F : FunS K "evening" "Party.evening" sPEvening f) (M : Mk K C fI) (GI : FnR P w K mg base (L2.CX P w) 5 fI (spPNew C CI)) :
    FnKw P w K mg base (L2.CX P w) 7 f ["ann", "bob"] (fun vs zs H Q E => vs.length = (["cls", "length"] : List Str).length ∧ zs.length = (["ann", "bob"] : List Str).length ∧ ∀ d, H d = none → spEveB C CI (vs ++ [V.ref d]) (upd H d (.dK (((["ann", "bob"] : List Str).zip zs).map fun p => ((Sum.inr p.1 : Key), p.2)))) Q E) := by
  obtain ⟨oc, od, doc, pm, an, cdv, ct, osl, lk, hcd⟩ := F.ex
  refine fn_kwd (ps := ["cls", "length"]) (pd := "comings") lk hcd scEve StX.cxUp (by decide) (by decide) (fun us ws h1 h2 => ?_) fun A outer s H vs Q E hr h => ?_
  · match us, ws, h1, h2 with
    | [a, b], [c, d], _, _ => rfl
  · exact eve_body M GI hr h
end
end Cm
set_option Elab.async false
set_option linter.all false
set_option maxRecDepth 100000
set_option maxHeartbeats 4000000
/-! all_lifting. -/
namespace Sh1
open PySem L2 Sho NdefX Shg
section
variable {P : Program} {w : World} {K : PySem.W.Frag} {mg : Str → Option Value} {base : Heap}
def spAll (C : Addr) (T : List (Addr × Str)) : Sp := fun vs H Q _ => ∃ (p : Addr) (xs : List Stay), vs = [.ref p] ∧ PartyAt C H p xs ∧ Short xs ∧ xs.length ≤ 100 ∧ LamX.Tabs T H ∧ ∀ H', Grows T H H' → Q (.int ((crossed (xs.map rw3)).length : Nat)) H'
theorem scAll : FnScope ["party"] ["party"] (defScope sAllLifting) := ⟨rfl, rfl, rfl, by decide +kernel, rfl, by decide +kernel, by decide +kernel⟩
theorem ok_all {f C fX : Addr} {fd fdX : FuncData} {T : List (Addr × Str)} (F : Fun K "all_lifting" "all_lifting" sAllLifting f fd) (B : Shg.Blt mg) (PC : PartyC K mg C) (GX : GFn P w K mg base 8 fX fdX ["self"] (spCross C T)) (mX : Meth K C "crossings" fX) (bX : Binds K fdX ["self"] []) :
    FnOk P w K mg base (L2.CX P w) 12 f fd ["party"] (spAll C T) := by
  refine F.okX scAll (fun vs H Q E h => ?_) (fun cdv A outer s H vs Q E hr h => ?_)
  · obtain ⟨p, xs, rfl, _⟩ := h
    rfl
  · obtain ⟨p, xs, rfl, PA, hs, hl, hT, k⟩ := h
    refine ⟨_, pss_one (ps_ret (pe_callB call_len_seq (by rfl) B.len PySem.boot_len (pa_cons (pe_listG (k := 8) (E := fun _ _ _ => False) (pgen_meth0 (pv 0) PC.cl mX GX (hr.mono (by decide)) bX .nil) passL (fun _ _ _ h => h.elim) (hr.mono (by decide)) (by rfl) B.list (by decide +kernel)) pa_nil))), ?_⟩
    obtain ⟨dx, a, ws, h1, h2, h3⟩ := id PA
    refine ⟨_, rfl, p, dx, _, rfl, h1, no_meth _ (by decide +kernel), p, xs, rfl, PA, hs, hl, hT, fun H' out G r pl hpl => ⟨pl, out, rfl, .inl (SqL.of upd_same), ?_⟩⟩
    rw [pair_len r]
    exact k _ (G.trans (Grows.upd hpl))
end
end Sh1
set_option Elab.async false
set_option linter.all false
set_option maxRecDepth 100000
set_option maxHeartbeats 2000000
/-! _law_same: of equal data, with lists and tuples. -/
namespace Smm
open PySem L2 Sho NdefX Shg Sh1
/-- x stands for d, at most n deep: ints, texts, tuples, lists -/
def Leaf (x : V) (d : PyData) : Prop := (∃ i, x = .int i ∧ d = .int i) ∨ ∃ z, x = .str z ∧ d = .str z
def Stands (H : Hp) : Nat → V → PyData → Prop
  | 0, x, d => Leaf x d
  | n + 1, x, d => Leaf x d ∨ (∃ (a : Addr) (xs : List V) (ds : List PyData), x = .ref a ∧ d = .tuple ds ∧ H a = some (.tup xs) ∧ xs.length ≤ 1000 ∧ PySem.Paired (fun y e => Stands H n y e) xs ds) ∨
      ∃ (a : Addr) (xs : List V) (ds : List PyData), x = .ref a ∧ d = .list ds ∧ H a = some (.lst xs) ∧ xs.length ≤ 1000 ∧ PySem.Paired (fun y e => Stands H n y e) xs ds
theorem Stands.same {H H' : Hp} (s : Same H H') : ∀ {n : Nat} {x : V} {d : PyData}, Stands H n x d → Stands H' n x d
  | 0, _, _, h => h
  | n + 1, x, d, h => by
    rcases h with h | ⟨a, xs, ds, e1, e2, e3, e4, e5⟩ | ⟨a, xs, ds, e1, e2, e3, e4, e5⟩
    · exact .inl h
    · exact .inr (.inl ⟨a, xs, ds, e1, e2, s _ _ e3, e4, Shg.pair_mono (fun _ _ h => Stands.same s h) e5⟩)
    · exact .inr (.inr ⟨a, xs, ds, e1, e2, s _ _ e3, e4, Shg.pair_mono (fun _ _ h => Stands.same s h) e5⟩)
section
variable {P : Program} {w : World} {K : PySem.W.Frag} {mg : Str → Option Value} {base : Heap}
def spSame (n : Nat) : Sp := fun vs H Q _ => ∃ (x y : V) (d : PyData), vs = [x, y] ∧ Stands H n x d ∧ Stands H n y d ∧ ∀ H', Same H H' → Q (.bl true) H'
theorem scSame : FnScope ["_law_result", "_law_expected", "_law_k"] ["_law_result", "_law_expected"] (defScope sSame) := ⟨rfl, rfl, rfl, by decide +kernel, rfl, by decide +kernel, by decide +kernel⟩
theorem kA {K : PySem.W.Frag} {t : String} (h1 : kitB t "tuple" = some false) (h2 : kitB t "list" = some false) : PySem.W.kitAny K (.type t) [.type "tuple", .type "list"] = some false :=
  kitAny_cons (b := false) h1 (fun _ => kitAny_cons (b := false) h2 (fun _ => rfl) fun z => nomatch z) fun z => nomatch z
theorem kT {K : PySem.W.Frag} : PySem.W.kitAny K (.type "tuple") [.type "tuple", .type "list"] = some true :=
  kitAny_cons (b := true) (show kitB "tuple" "tuple" = some true by decide +kernel) (fun z => nomatch z) fun _ => rfl
theorem kL {K : PySem.W.Frag} : PySem.W.kitAny K (.type "list") [.type "tuple", .type "list"] = some true :=
  kitAny_cons (b := false) (show kitB "list" "tuple" = some false by decide +kernel) (fun _ => kitAny_cons (b := true) (show kitB "list" "list" = some true by decide +kernel) (fun z => nomatch z) fun _ => rfl) fun z => nomatch z
/-- a leaf's class -/
theorem leaf_ty {K : PySem.W.Frag} {x : V} {d : PyData} (h : Leaf x d) : ∃ t : String, (∀ H, TyX K H x (.type t)) ∧ PySem.W.kitAny K (.type t) [.type "tuple", .type "list"] = some false ∧ kitB t "bool" = some false ∧ ∃ b, kitB t "int" = some b ∧ (b = true → ∃ i, d = .int i) ∧ (b = false → ∃ z, d = .str z) ∧ scal x x = true := by
  rcases h with ⟨i, rfl, rfl⟩ | ⟨z, rfl, rfl⟩
  · exact ⟨"int", fun _ => .base (.int i), kA (by decide +kernel) (by decide +kernel), by decide +kernel, true, by decide +kernel, fun _ => ⟨i, rfl⟩, (fun z => nomatch z), rfl⟩
  · exact ⟨"str", fun _ => .base (.str z), kA (by decide +kernel) (by decide +kernel), by decide +kernel, false, by decide +kernel, (fun z => nomatch z), fun _ => ⟨z, rfl⟩, rfl⟩
theorem leaf_eq {x y : V} {d : PyData} (h : Leaf x d) (k : Leaf y d) : x = y := by
  rcases h with ⟨i, rfl, rfl⟩ | ⟨z, rfl, rfl⟩ <;> rcases k with ⟨j, rfl, e⟩ | ⟨j, rfl, e⟩ <;> cases e <;> rfl
/-- a tuple or a list of items -/
def SeqO (b : Bool) (xs : List V) : HO := if b = true then .lst xs else .tup xs
abbrev tyB (b : Bool) : Value := if b = true then .type "list" else .type "tuple"
theorem stands_split {H : Hp} {n : Nat} {sp' : Sp} {x y : V} {d : PyData} (hn : n = 0 ∨ ∃ m, n = m + 1 ∧ sp' = spSame m) (hx : Stands H n x d) (hy : Stands H n y d) :
    (Leaf x d ∧ x = y) ∨ ∃ (q : Bool) (m : Nat) (a b : Addr) (xs ys : List V) (ds : List PyData), sp' = spSame m ∧ x = .ref a ∧ y = .ref b ∧ H a = some (SeqO q xs) ∧ H b = some (SeqO q ys) ∧ xs.length ≤ 1000 ∧
      PySem.Paired (fun y e => Stands H m y e) xs ds ∧ PySem.Paired (fun y e => Stands H m y e) ys ds := by
  have noleaf : ∀ {ds : List PyData} {y : V}, ¬ Leaf y (.tuple ds) ∧ ¬ Leaf y (.list ds) := fun {ds y} => by
    constructor
    · rintro (⟨i, _, z⟩ | ⟨i, _, z⟩) <;> cases z
    · rintro (⟨i, _, z⟩ | ⟨i, _, z⟩) <;> cases z
  rcases hn with rfl | ⟨m, rfl, e⟩
  · exact .inl ⟨hx, leaf_eq hx hy⟩
  · rcases hx with hx | ⟨a, xs, ds, rfl, rfl, h1, h2, h3⟩ | ⟨a, xs, ds, rfl, rfl, h1, h2, h3⟩
    · rcases hy with hy | ⟨b, ys, es, rfl, rfl, _⟩ | ⟨b, ys, es, rfl, rfl, _⟩
      · exact .inl ⟨hx, leaf_eq hx hy⟩
      · exact absurd hx noleaf.1
      · exact absurd hx noleaf.2
    · rcases hy with hy | ⟨b, ys, es, rfl, e2, g1, g2, g3⟩ | ⟨b, ys, es, rfl, e2, g1, g2, g3⟩
      · exact absurd hy noleaf.1
      · cases e2
        exact .inr ⟨false, m, a, b, xs, ys, ds, e, rfl, rfl, h1, g1, h2, h3, g3⟩
      · cases e2
    · rcases hy with hy | ⟨b, ys, es, rfl, e2, g1, g2, g3⟩ | ⟨b, ys, es, rfl, e2, g1, g2, g3⟩
      · exact absurd hy noleaf.2
      · cases e2
      · cases e2
        exact .inr ⟨true, m, a, b, xs, ys, ds, e, rfl, rfl, h1, g1, h2, h3, g3⟩
theorem seq_ty {H : Hp} {q : Bool} {a : Addr} {xs : List V} (h : H a = some (SeqO q xs)) : TyX K H (.ref a) (tyB q) := by
  cases q with
  | false => exact .base (.tup (show H a = some (.tup xs) from h))
  | true => exact .base (.lst (show H a = some (.lst xs) from h))
theorem seq_ka (q : Bool) : PySem.W.kitAny K (tyB q) [.type "tuple", .type "list"] = some true := by
  cases q with
  | false => exact kT
  | true => exact kL
theorem seq_kl (q : Bool) : ∃ t : String, tyB q = .type t ∧ kitB t "list" = some q := by
  cases q with
  | false => exact ⟨"tuple", rfl, by decide +kernel⟩
  | true => exact ⟨"list", rfl, by decide +kernel⟩
theorem seq_sq {H : Hp} {q : Bool} {a : Addr} {xs : List V} (h : H a = some (SeqO q xs)) : SqL K H a xs ∨ SqT K H a xs := by
  cases q with
  | false => exact .inr (SqT.of h)
  | true => exact .inl (SqL.of h)
theorem seq_ix {H : Hp} {q : Bool} {a : Addr} {xs : List V} {i : Nat} {j : Int} {v : V} {Q : VK} (h : H a = some (SeqO q xs)) (ej : j = (i : Int)) (hi : xs[i]? = some v) (k : Q v H) : rIx K (.ref a) (.int j) H Q := by
  subst ej
  cases q with
  | false => exact .inr (.inl ⟨a, xs, _, v, rfl, rfl, SqT.of h, atI_nat hi, k⟩)
  | true => exact .inl ⟨a, xs, _, v, rfl, rfl, SqL.of h, atI_nat hi, k⟩
theorem same_step {k n : Nat} {sp' : Sp} {f : Addr} {fd : FuncData} (F : Fun K "_law_same" "_law_same" sSame f fd) (B : Shg.Blt mg) (mF : mg "_law_same" = some (.ref f)) (bF : Binds K fd ["_law_result", "_law_expected"] [])
    (ih : FnOk P w K mg base CX0 k f fd ["_law_result", "_law_expected"] sp') (hn : n = 0 ∨ ∃ m, n = m + 1 ∧ sp' = spSame m) : FnOk P w K mg base CX0 (k + 1) f fd ["_law_result", "_law_expected"] (spSame n) := by
  refine F.ok scSame (fun vs H Q E h => ?_) (fun cdv A outer s H vs Q E hr h => ?_)
  · obtain ⟨x, y, d, rfl, _⟩ := h
    rfl
  · obtain ⟨x, y, d, rfl, hx, hy, kk⟩ := h
    have nd := scSame.nd
    refine ⟨_, (pss_cons (ps_if (pt_val (pe_callB call_isiT (by rfl) B.isi (by decide +kernel) (pa_cons (pv 1) (pa_cons (pe_tup (pa_cons (pe_bltn (v := .ty "tuple") (by rfl) B.tuple (by decide +kernel) rfl) (pa_cons (pe_bltn (v := .ty "list") (by rfl) B.list (by decide +kernel) rfl) pa_nil))) pa_nil)))) (pss_cons (ps_if (PW.pt (pw_or (pt_not (pt_val (pe_callB call_isiT (by rfl) B.isi (by decide +kernel) (pa_cons (pv 0) (pa_cons (pe_tup (pa_cons (pe_bltn (v := .ty "tuple") (by rfl) B.tuple (by decide +kernel) rfl) (pa_cons (pe_bltn (v := .ty "list") (by rfl) B.list (by decide +kernel) rfl) pa_nil))) pa_nil))))) (pw_or1 (pt_cmpR op_ne (pe_callB call_isi (by rfl) B.isi (by decide +kernel) (pa_cons (pv 0) (pa_cons (pe_bltn (v := .ty "list") (by rfl) B.list (by decide +kernel) rfl) pa_nil))) (pe_callB call_isi (by rfl) B.isi (by decide +kernel) (pa_cons (pv 1) (pa_cons (pe_bltn (v := .ty "list") (by rfl) B.list (by decide +kernel) rfl) pa_nil))) (nomark _))))) (pss_one (ps_ret pe_bl)) pss_nil)
      (pss_cons (ps_if (pt_cmpR op_ne (pe_callB call_len_seq (by rfl) B.len PySem.boot_len (pa_cons (pv 0) pa_nil)) (pe_callB call_len_seq (by rfl) B.len PySem.boot_len (pa_cons (pv 1) pa_nil)) (nomark _)) (pss_one (ps_ret pe_bl)) pss_nil)
      (pss_one (ps_ret (pe_cmpR (op_eqD (hr.mono (Nat.zero_le _)).units) (pe_lc (own := [("_law_k", 2)]) (g := gName 2) (tt := tNot (tB (tCall sp' [] E0 (tCons (tOp (rIx K) (tVar 0) (tVar 2)) (tCons (tOp (rIx K) (tVar 1) (tVar 2)) tNil))))) rfl nd
            (pi_range1 (by rfl) B.range (pa_cons (pe_callB call_len_seq (by rfl) B.len PySem.boot_len (pa_cons (pv 1) pa_nil)) pa_nil)) (blkOk_by (own := [("_law_k", 2)]) (N := ["_law_result", "_law_expected", "_law_k"]) (sc := defScope sSame) (by decide +kernel))
            (fun _ _ _ _ _ => (pg_name (i := 2) nd rfl (Or.inl rfl)))
            (fun _ _ _ _ _ => pts_one (pt_not (pt_val (pe_call ih hr rfl mF F.kp bF .nil pass0 (pa_cons (pe_ix ix_seq (pv 0) (pv 2) (fun _ _ => rfl)) (pa_cons (pe_ix ix_seq (pv 1) (pv 2) (fun _ _ => rfl)) pa_nil))))))
            (fun _ _ _ _ _ => pv 2)) (pe_lst pa_nil) (nomark _)))))) pss_nil)
      (pss_cons (ps_if (pt_cmpR op_ne (pe_callB call_isi (by rfl) B.isi (by decide +kernel) (pa_cons (pv 0) (pa_cons (pe_bltn (v := .ty "bool") (by rfl) B.bool (by decide +kernel) rfl) pa_nil))) (pe_callB call_isi (by rfl) B.isi (by decide +kernel) (pa_cons (pv 1) (pa_cons (pe_bltn (v := .ty "bool") (by rfl) B.bool (by decide +kernel) rfl) pa_nil))) (nomark _)) (pss_one (ps_ret pe_bl)) pss_nil)
      (pss_one (ps_ret (pe_and (pe_cmpR op_eq (pe_callB call_isi (by rfl) B.isi (by decide +kernel) (pa_cons (pv 0) (pa_cons (pe_bltn (v := .ty "int") (by rfl) B.int (by decide +kernel) rfl) pa_nil))) (pe_callB call_isi (by rfl) B.isi (by decide +kernel) (pa_cons (pv 1) (pa_cons (pe_bltn (v := .ty "int") (by rfl) B.int (by decide +kernel) rfl) pa_nil))) (nomark _)) (pe_one (pe_cmpR op_eq (pv 0) (pv 1) (nomark _)))))))), ?_⟩
    rcases stands_split hn hx hy with ⟨hl, e⟩ | ⟨q, m, a, b, xs, ys, ds, e, rfl, rfl, h1, h2, h3, h4, h5⟩
    · subst e
      obtain ⟨t, ty, ka, kb, bi, ki, ki1, ki2, hsc⟩ := leaf_ty (K := K) hl
      refine ⟨_, rfl, by decide, fun tp htp => ?_⟩
      have s1 : Same H (upd H tp (.tup [.ty "tuple", .ty "list"])) := Shg.same_upd htp
      refine ⟨x, tp, _, .type t, [.type "tuple", .type "list"], false, rfl, upd_same, .cons (.ty _) (.cons (.ty _) .nil), ty _, ka, _, rfl, iteF ?_⟩
      refine ⟨_, rfl, x, _, .type t, .type "bool", false, rfl, .ty _, ty _, kb, _, rfl, x, _, .type t, .type "bool", false, rfl, .ty _, ty _, kb, rfl, _, rfl, iteF ?_⟩
      refine ⟨_, rfl, x, _, .type t, .type "int", bi, rfl, .ty _, ty _, ki, _, rfl, x, _, .type t, .type "int", bi, rfl, .ty _, ty _, ki, rfl, true, by rw [decide_eq_true rfl], iteT ⟨_, rfl, _, rfl, hsc, ?_⟩⟩
      rw [decide_eq_true rfl]
      exact kk _ s1
    · subst e
      have lx := Shg.pair_len h4
      have ly := Shg.pair_len h5
      refine ⟨_, rfl, by decide, fun tp htp => ?_⟩
      have s1 := Shg.same_upd (o := .tup [.ty "tuple", .ty "list"]) htp
      refine ⟨.ref b, tp, _, tyB q, [.type "tuple", .type "list"], true, rfl, upd_same, .cons (.ty _) (.cons (.ty _) .nil), seq_ty (s1 _ _ h2), seq_ka q, _, rfl, iteT ?_⟩
      refine ⟨_, rfl, by decide, fun tq htq => ?_⟩
      have s2 := s1.trans (Shg.same_upd (o := .tup [.ty "tuple", .ty "list"]) htq)
      refine ⟨.ref a, tq, _, tyB q, [.type "tuple", .type "list"], true, rfl, upd_same, .cons (.ty _) (.cons (.ty _) .nil), seq_ty (s2 _ _ h1), seq_ka q, _, rfl, iteF ?_⟩
      obtain ⟨ts, et, kl⟩ := seq_kl q
      refine ⟨_, rfl, .ref a, _, tyB q, .type "list", q, rfl, .ty _, seq_ty (s2 _ _ h1), by rw [et]; exact kit_ty kl, _, rfl, .ref b, _, tyB q, .type "list", q, rfl, .ty _, seq_ty (s2 _ _ h2), by rw [et]; exact kit_ty kl, by cases q <;> rfl, false, by rw [decide_eq_true rfl]; rfl, iteF ?_⟩
      generalize upd (upd H tp (.tup [.ty "tuple", .ty "list"])) tq (.tup [.ty "tuple", .ty "list"]) = H2 at s2
      refine ⟨_, rfl, a, xs, rfl, seq_sq (s2 _ _ h1), _, rfl, b, ys, rfl, seq_sq (s2 _ _ h2), rfl, false, ?_, iteF ?_⟩
      · have e : (xs.length : Int) = (ys.length : Int) := by rw [lx, ly]
        rw [e, decide_eq_true rfl]
        rfl
      · have hlen : (ys.length : Int).toNat = ys.length := by simp
        have l1000 : ys.length ≤ 1000 := by omega
        refine ⟨_, rfl, b, ys, rfl, seq_sq (s2 _ _ h2), (ys.length : Nat), rfl, by omega, by omega, fun D hD => ?_⟩
        refine lc_gather walk_range (fun _ => none) hD (by rw [hlen]; exact Nat.le_trans l1000 (by decide)) (fun _ _ => trivial) (fun i v H3 H4 hi s3 yv R k1 => ?_) fun H3 s3 e3 => ?_
        · obtain ⟨rfl, rfl⟩ := yv
          rw [hlen] at hi
          obtain ⟨y', hy'⟩ : ∃ y', ys[i]? = some y' := ⟨_, List.getElem?_eq_getElem hi⟩
          obtain ⟨x', hx'⟩ : ∃ x', xs[i]? = some x' := ⟨_, List.getElem?_eq_getElem (by omega)⟩
          obtain ⟨e1, he1, st1⟩ := Shg.pair_get h4 hx'
          obtain ⟨e2, he2, st2⟩ := Shg.pair_get h5 hy'
          rw [he1] at he2
          cases he2
          have s23 := s2.trans s3
          have zi : (0 : Int) + (i : Nat) = (i : Nat) := by omega
          refine ⟨rfl, _, rfl, _, rfl, seq_ix (s23 _ _ h1) zi hx' ⟨_, rfl, _, rfl, seq_ix (s23 _ _ h2) zi hy' ?_⟩⟩
          exact ⟨x', y', e1, rfl, st1.same s23, st2.same s23, fun H5 s5 => ⟨_, rfl, iteF (k1 _ s5)⟩⟩
        · have g0 : gather (fun _ => none) ((ys.length : Int).toNat) = [] := by
            unfold gather
            simp
          rw [g0] at e3
          refine ⟨by decide, fun L hL => ?_⟩
          have s4 := Shg.same_upd (o := .lst []) hL
          exact ⟨.list [], .list [], .lst (SqL.of (s4 _ _ e3)) .nil, .lst (SqL.of upd_same) .nil, rfl, rfl, kk _ ((s2.trans s3).trans s4)⟩
theorem ok_same {f : Addr} {fd : FuncData} (F : Fun K "_law_same" "_law_same" sSame f fd) (B : Shg.Blt mg) (mF : mg "_law_same" = some (.ref f)) (bF : Binds K fd ["_law_result", "_law_expected"] []) : ∀ n, FnOk P w K mg base CX0 (n + 1) f fd ["_law_result", "_law_expected"] (spSame n)
  | 0 => same_step (sp' := fun _ _ _ _ => False) F B mF bF ⟨fun _ _ _ _ h => False.elim h, fun _ _ _ _ _ _ _ _ _ _ _ _ _ h => False.elim h⟩ (.inl rfl)
  | n + 1 => same_step F B mF bF (ok_same F B mF bF n) (.inr ⟨n, rfl, rfl⟩)
end
end Smm
set_option Elab.async false
set_option linter.all false
set_option maxRecDepth 100000
set_option maxHeartbeats 8000000
set_option autoImplicit false
/-! The law of one guest less. -/
namespace Cm
open PySem L2 Sho NdefX Shg Sh1
open Kb (rows_ok)
abbrev N03 : List Str := ["_law_script", "_law_state", "_law_turn", "_law_rows_here", "_law_party_here", "_law_before", "_law_row", "_law_after", "_law_expected", "_law_other", "_law_calm", "_law_keys", "_law_name", "_law_come", "_law_go", "_law_more", "_law_a", "_law_b", "_law_length", "_law_same_here"]
section
variable {P : Program} {w : World} {K : PySem.W.Frag} {mg : Str → Option Value} {base : Heap}
def spLaw03 (K : PySem.W.Frag) (T : List (Addr × Str)) : Sp := fun vs H Q _ => ∃ (a : Addr) (ns : List Int), vs = [.ref a] ∧ SqL K H a (ns.map V.int) ∧ ns.length ≤ 63 ∧ LamX.Tabs T H ∧ ∀ H', Q (.bl true) H'
theorem scLaw03 : FnScope N03 ["_law_script"] (defScope sLaw) := ⟨rfl, rfl, rfl, by decide +kernel, rfl, by decide +kernel, by decide +kernel⟩
abbrev spEve (C CI : Addr) : List V → List V → Hp → VK → XK → Prop := fun vs zs H Q E => vs.length = (["cls", "length"] : List Str).length ∧ zs.length = (["ann", "bob"] : List Str).length ∧ ∀ d, H d = none → spEveB C CI (vs ++ [V.ref d]) (upd H d (.dK (((["ann", "bob"] : List Str).zip zs).map fun p => ((Sum.inr p.1 : Key), p.2)))) Q E
theorem and_yes3 {A B : TT} {σ : L2.St} {H : Hp} {Q : Bool → Hp → Prop} (hA : ∀ R : Bool → Hp → Prop, R true H → A σ H R) (hB : B σ H Q) : tAnd A B σ H Q := hA _ (iteT hB)
theorem and_not3 {A B : TT} {σ : L2.St} {H : Hp} {Q : Bool → Hp → Prop} (hA : ∀ R : Bool → Hp → Prop, R false H → A σ H R) (hQ : Q false H) : tAnd A B σ H Q := hA _ (iteF hQ)
theorem or_no3 {A B : TT} {σ : L2.St} {H : Hp} {Q : Bool → Hp → Prop} (P1 P2 : Hp → Prop) (hA : ∀ R : Bool → Hp → Prop, (∀ H', P1 H' → R false H') → A σ H R) (hB : ∀ H1, P1 H1 → ∀ R : Bool → Hp → Prop, (∀ H', P2 H' → R false H') → B σ H1 R) (hQ : ∀ H', P2 H' → Q false H') : tOr A B σ H Q := by
  refine hA _ fun H1 p1 => ?_
  exact hB H1 p1 _ hQ
theorem valV_cnt {xs : List Stay} (nd : (xs.map fun x => x.1).Nodup) {x : Stay} (hx : x ∈ xs) : valV (cntK xs) (Sum.inr x.1) = some (.int (liftN xs x : Nat)) := by
  have gen : ∀ l : List Stay, (l.map fun x => x.1).Nodup → x ∈ l → valV (l.map fun y => ((Sum.inr y.1 : Key), V.int (liftN xs y : Nat))) (Sum.inr x.1) = some (.int (liftN xs x : Nat)) := by
    intro l
    induction l with
    | nil => intro _ h; cases h
    | cons y l ih =>
      intro nd h
      rw [List.map_cons, List.nodup_cons] at nd
      rcases List.mem_cons.mp h with rfl | h
      · exact valV_pos rfl
      · rw [List.map_cons, valV_neg fun z => nd.1 (List.mem_map.mpr ⟨x, h, (Sum.inr.inj z).symm⟩)]
        exact ih nd.2 h
  exact gen xs nd hx
/-- what the law expects of those who stay -/
def expOf (xs : List Stay) (x : Stay) : List Stay → List (Str × Nat × Nat)
  | [] => []
  | z :: l => if z = x ∨ liftN xs z = liftN (without xs x) z then expOf xs x l else (z.1, liftN xs z, liftN (without xs x) z) :: expOf xs x l
theorem exp_snoc (xs : List Stay) (x z : Stay) : ∀ l : List Stay, expOf xs x (l ++ [z]) = expOf xs x l ++ (if z = x ∨ liftN xs z = liftN (without xs x) z then [] else [(z.1, liftN xs z, liftN (without xs x) z)])
  | [] => by
    show (if z = x ∨ liftN xs z = liftN (without xs x) z then _ else _) = _
    by_cases h : z = x ∨ liftN xs z = liftN (without xs x) z
    · rw [if_pos h, if_pos h]
      rfl
    · rw [if_neg h, if_neg h]
      rfl
  | y :: l => by
    show (if y = x ∨ liftN xs y = liftN (without xs x) y then expOf xs x (l ++ [z]) else _ :: expOf xs x (l ++ [z])) = (if y = x ∨ liftN xs y = liftN (without xs x) y then _ else _) ++ _
    rw [exp_snoc xs x z l]
    by_cases h : y = x ∨ liftN xs y = liftN (without xs x) y
    · rw [if_pos h, if_pos h]
    · rw [if_neg h, if_neg h]
      rfl
theorem exp_len (xs : List Stay) (x : Stay) : ∀ l : List Stay, (expOf xs x l).length ≤ l.length
  | [] => Nat.le_refl _
  | y :: l => by
    unfold expOf
    have := exp_len xs x l
    by_cases e : y = x ∨ liftN xs y = liftN (without xs x) y
    · rw [if_pos e]
      simp only [List.length_cons]
      omega
    · rw [if_neg e]
      simp only [List.length_cons]
      omega
theorem exp_chg {xs : List Stay} (nd : (xs.map fun x => x.1).Nodup) (x : Stay) : expOf xs x xs = chgOf xs (without xs x) (without xs x) := by
  have gen : ∀ l : List Stay, (∀ y ∈ l, y ∈ xs) → expOf xs x l = chgOf xs (without xs x) (l.filter fun y => !decide (y = x)) := by
    intro l
    induction l with
    | nil => intro _; rfl
    | cons y l ih =>
      intro h
      have ih := ih fun z hz => h z (List.mem_cons_of_mem _ hz)
      by_cases e : y = x
      · rw [List.filter_cons_of_neg (by rw [decide_eq_true e]; decide)]
        unfold expOf
        rw [if_pos (.inl e), ih]
      · rw [List.filter_cons_of_pos (by rw [decide_eq_false e]; decide)]
        unfold expOf chgOf
        rw [ih]
        have le := liftN_less nd x (y := y) (List.mem_filter.mpr ⟨h y List.mem_cons_self, by rw [decide_eq_false e]; decide⟩)
        by_cases q : liftN xs y = liftN (without xs x) y
        · rw [if_pos (.inr q), if_neg (by omega)]
        · rw [if_neg fun z => z.elim e q, if_pos (by omega)]
  exact gen xs fun y h => h
/-- the list of what is expected -/
def EAt (H : Hp) : List V → List (Str × Nat × Nat) → Prop := PySem.Paired fun v (c : Str × Nat × Nat) => ∃ t t2, v = V.ref t ∧ H t = some (.tup [.str c.1, .ref t2]) ∧ H t2 = some (.tup [.int (c.2.1 : Nat), .int (c.2.2 : Nat)])
theorem EAt.tups {H H' : Hp} (e : ∀ b xs, H b = some (.tup xs) → H' b = some (.tup xs)) {vs : List V} {cs : List (Str × Nat × Nat)} (h : EAt H vs cs) : EAt H' vs cs := Shg.pair_mono (fun _ _ ⟨t, t2, q, e1, e2⟩ => ⟨t, t2, q, e _ _ e1, e _ _ e2⟩) h
theorem EAt.snoc {H : Hp} : ∀ {vs : List V} {cs : List (Str × Nat × Nat)} {c : Str × Nat × Nat} {t t2 : Addr}, EAt H vs cs → H t = some (.tup [.str c.1, .ref t2]) → H t2 = some (.tup [.int (c.2.1 : Nat), .int (c.2.2 : Nat)]) → EAt H (vs ++ [.ref t]) (cs ++ [c])
  | _, _, _, t, t2, .nil, h, h2 => .cons ⟨t, t2, rfl, h, h2⟩ .nil
  | _, _, _, _, _, .cons a r, h, h2 => .cons a (EAt.snoc r h h2)
theorem EAt.of_items {H : Hp} {ts : List Addr} {kvs : List (Key × V)} (h : PySem.Paired (fun (t : Addr) (q : Key × V) => H t = some (.tup [kV q.1, q.2])) ts kvs) : ∀ {cs : List (Str × Nat × Nat)}, ChAt H kvs cs → EAt H (ts.map V.ref) cs := by
  induction h with
  | nil =>
    intro cs ch
    cases ch
    exact .nil
  | @cons t q ts kvs a _ ih =>
    intro cs ch
    cases ch with
    | cons c r =>
      obtain ⟨e1, t2, e2, e3⟩ := c
      refine .cons ⟨t, t2, rfl, ?_, e3⟩ (ih r)
      rw [a, e1, e2]
      rfl
def chD (c : Str × Nat × Nat) : PyData := .tuple [.str c.1, .tuple [.int (c.2.1 : Nat), .int (c.2.2 : Nat)]]
theorem EAt.stands {H : Hp} {vs : List V} {cs : List (Str × Nat × Nat)} (h : EAt H vs cs) {b : Addr} (e : H b = some (.lst vs)) (l : cs.length ≤ 1000) : Smm.Stands H 3 (.ref b) (.list (cs.map chD)) := by
  refine .inr (.inr ⟨b, vs, _, rfl, rfl, e, by rw [Shg.pair_len h]; exact l, ?_⟩)
  clear e l
  unfold EAt at h
  induction h with
  | nil => exact .nil
  | cons a _ ih =>
    obtain ⟨t, t2, rfl, e1, e2⟩ := a
    exact .cons (.inr (.inl ⟨t, _, _, rfl, rfl, e1, (by show 2 ≤ 1000; decide), .cons (.inl (.inr ⟨_, rfl, rfl⟩)) (.cons (.inr (.inl ⟨t2, _, _, rfl, rfl, e2, (by show 2 ≤ 1000; decide), .cons (.inl ⟨_, rfl, rfl⟩) (.cons (.inl ⟨_, rfl, rfl⟩) .nil)⟩)) .nil)⟩)) ih
section
variable {K : PySem.W.Frag} {T : List (Addr × Str)} {C l a : Addr} {ns : List Int} {R : Addr} {ws : List V} {xs : List Stay} {p Bf : Addr} {H H' : Hp}
/-- what stands through a turn -/
structure Z3 (K : PySem.W.Frag) (T : List (Addr × Str)) (C l a : Addr) (ns : List Int) (R : Addr) (ws : List V) (xs : List Stay) (p Bf : Addr) (H : Hp) : Prop where
  d : Dw.St K T l a ns H
  r : H R = some (.lst ws)
  nR : R ≠ l
  s : StaysV H ws xs
  p : PartyAt C H p xs
  eB : H Bf = some (.dK (cntK xs))
theorem Z3.grows (k : Z3 K T C l a ns R ws xs p Bf H) (g : Grows T H H') : Z3 K T C l a ns R ws xs p Bf H' :=
  ⟨k.d.grows g, g.ext _ _ k.r (fun _ z => nomatch z), k.nR, Shg.pair_mono (fun _ _ ⟨t, q, ht⟩ => ⟨t, q, g.ext _ _ ht fun _ z => nomatch z⟩) k.s, party_same g.ext k.p, g.ext _ _ k.eB fun _ z => nomatch z⟩
theorem Z3.same (k : Z3 K T C l a ns R ws xs p Bf H) (s : Same H H') : Z3 K T C l a ns R ws xs p Bf H' := k.grows (Sh1.Grows.of s)
theorem party_draw {zs : List V} {ys : List Stay} {q : Addr} (hl : H l = some (.lst zs)) (b : But l H H') (h : PartyAt C H q ys) : PartyAt C H' q ys := by
  obtain ⟨dx, c, us, h1, h2, h3⟩ := h
  exact ⟨dx, c, us, b _ _ h1 (Dw.ne_at hl h1 fun z => nomatch z), b _ _ h2 (Dw.ne_at hl h2 fun z => nomatch z), stays_but hl b h3⟩
theorem Z3.draw (k : Z3 K T C l a ns R ws xs p Bf H) (b : But l H H') (d : Dw.St K T l a ns H') : Z3 K T C l a ns R ws xs p Bf H' := by
  obtain ⟨zs, hl⟩ := k.d.at
  exact ⟨d, b _ _ k.r k.nR, k.nR, stays_but hl b k.s, party_draw hl b k.p, b _ _ k.eB (Dw.ne_at hl k.eB fun z => nomatch z)⟩
end
/-- the defs that the law calls -/
structure Defs03 (P : Program) (w : World) (K : PySem.W.Frag) (mg : Str → Option Value) (base : Heap) (T : List (Addr × Str)) (C CI : Addr) : Prop where
  B : Shg.Blt mg
  PC : PartyC K mg C
  ab : mg "abs" = none
  start : ∃ f fd, FnOk P w K mg base CX0 1 f fd ["_law_script"] (spStart K) ∧ mg "_law_start" = some (.ref f) ∧ PySem.W.keepIn K (.ref f) = true ∧ Binds K fd ["_law_script"] []
  drawn : ∃ f fd, FnOk P w K mg base CX0 1 f fd ["_law_state", "_law_count"] (spDrawn K) ∧ mg "_law_drawn" = some (.ref f) ∧ PySem.W.keepIn K (.ref f) = true ∧ Binds K fd ["_law_state", "_law_count"] []
  rows : ∃ f fd, FnOk P w K mg base CX0 2 f fd ["_law_state", "_law_most", "_law_high"] (spRows K) ∧ mg "_law_rows" = some (.ref f) ∧ PySem.W.keepIn K (.ref f) = true ∧ Binds K fd ["_law_state", "_law_most", "_law_high"] []
  party : ∃ f fd, FnOk P w K mg base (L2.CX P w) 8 f fd ["_law_rows_here"] (spParty K C) ∧ mg "_law_party" = some (.ref f) ∧ PySem.W.keepIn K (.ref f) = true ∧ Binds K fd ["_law_rows_here"] []
  counts : ∃ f fd, FnOk P w K mg base CX0 2 f fd ["_law_rows_here"] (spCounts K) ∧ mg "_law_counts" = some (.ref f) ∧ PySem.W.keepIn K (.ref f) = true ∧ Binds K fd ["_law_rows_here"] []
  mixed : ∃ f fd, FnOk P w K mg base CX0 2 f fd ["_law_state", "_law_rows_here"] (spMixed K T) ∧ mg "_law_mixed" = some (.ref f) ∧ PySem.W.keepIn K (.ref f) = true ∧ Binds K fd ["_law_state", "_law_rows_here"] []
  same : ∃ f fd, (∀ n, FnOk P w K mg base CX0 (n + 1) f fd ["_law_result", "_law_expected"] (Smm.spSame n)) ∧ mg "_law_same" = some (.ref f) ∧ PySem.W.keepIn K (.ref f) = true ∧ Binds K fd ["_law_result", "_law_expected"] []
  change : ∃ f fd, FnOk P w K mg base (L2.CX P w) 9 f fd ["party", "name"] (spChange C T) ∧ mg "change_without" = some (.ref f) ∧ PySem.W.keepIn K (.ref f) = true ∧ Binds K fd ["party", "name"] []
  calm : ∃ f fd, FnOk P w K mg base (L2.CX P w) 7 f fd ["party"] (spCalm C T) ∧ mg "calmest_order" = some (.ref f) ∧ PySem.W.keepIn K (.ref f) = true ∧ Binds K fd ["party"] []
  all : ∃ f fd, FnOk P w K mg base (L2.CX P w) 12 f fd ["party"] (spAll C T) ∧ mg "all_lifting" = some (.ref f) ∧ PySem.W.keepIn K (.ref f) = true ∧ Binds K fd ["party"] []
  stays : ∃ f fd p, FnOk P w K mg base CX0 1 f fd ["self"] (getSp C "_stays") ∧ PropOf K C "stays" p f ∧ Binds K fd ["self"] []
  eve : ∃ p f, ClX.CRead K C (.type "type") ∧ ClX.CMet K C (.type "type") "evening" p f ∧ FnKw P w K mg base (L2.CX P w) 7 f ["ann", "bob"] (spEve C CI)
theorem ok_law03 {f C CI : Addr} {fd : FuncData} {T : List (Addr × Str)} (F : Fun K "law" "law" sLaw f fd) (D : Defs03 P w K mg base T C CI) :
    FnOk P w K mg base (L2.CX P w) 13 f fd ["_law_script"] (spLaw03 K T) := by
  obtain ⟨B, PC, ab, ⟨f1, fd1, G1, m1, k1, b1⟩, ⟨f2, fd2, G2, m2, k2, b2⟩, ⟨f3, fd3, G3, m3, k3, b3⟩, ⟨fP, fdP, GP, mP, kP, bP⟩, ⟨fC, fdC, GC, mC, kC, bC⟩, ⟨fM, fdM, GM, mM, kM, bM⟩, ⟨fS, fdS, GS, mS, kS, bS⟩, ⟨fH, fdH, GH, mH, kH, bH⟩, ⟨fL, fdL, GL, mL, kL, bL⟩, ⟨fA, fdA, GA, mA, kA, bA⟩, ⟨fSt, fdSt, pSt, GSt, hSt, bSt⟩, ⟨pE, fE, CR, CM, GE⟩⟩ := D
  refine F.okX scLaw03 (fun vs H Q E h => ?_) (fun cdv A outer s H vs Q E hr h => ?_)
  · obtain ⟨a, ns, rfl, _⟩ := h
    rfl
  obtain ⟨a, ns, rfl, ha, hl, hT, kk⟩ := h
  have nd := scLaw03.nd
  have pass : Passes (L2.CX P w) (cxOf (L2.CX P w) P w K mg base N03 "law" (defScope sLaw) f cdv A outer s H E) E := passes_call (takes_of rfl rfl rfl rfl) fun _ _ _ _ z => z
  refine ⟨_, (pss_cons (ps_set (i := 1) nd rfl (Or.inl rfl) (pe_call G1 (hr.mono (by decide)) rfl m1 k1 b1 .nil pass0 (pa_cons (pv 0) pa_nil)))
      (pss_cons (ps_for (passes_of rfl) rfl (pi_range1 (by rfl) B.range (pa_cons pe_int pa_nil)) (pg_name (i := 2) nd rfl (Or.inl rfl)) (pss_cons (ps_set (i := 3) nd rfl (Or.inr rfl) (pe_call G3 (hr.mono (by decide)) rfl m3 k3 b3 .nil pass0 (pa_cons (pv 1) (pa_cons pe_int (pa_cons (pe_ix ix_list (pe_lst (pa_cons pe_int (pa_cons pe_int (pa_cons pe_int pa_nil)))) (pe_call G2 (hr.mono (by decide)) rfl m2 k2 b2 .nil pass0 (pa_cons (pv 1) (pa_cons pe_int pa_nil))) (fun _ _ => rfl)) pa_nil)))))
      (pss_cons (ps_par (i := 4) (j := 5) rfl nd rfl rfl (by decide) rfl rfl (pa_cons (pe_call GP (hr.mono (by decide)) rfl mP kP bP .nil pass (pa_cons (pv 3) pa_nil)) (pa_cons (pe_call GC (hr.mono (by decide)) rfl mC kC bC .nil pass0 (pa_cons (pv 3) pa_nil)) pa_nil)) (by rfl))
      (pss_cons (ps_for (passes_of rfl) rfl (pi_list (pv 3)) (pg_name (i := 6) nd rfl (Or.inr rfl)) (pss_cons (ps_set (i := 7) nd rfl (Or.inl rfl) (pe_call GC (hr.mono (by decide)) rfl mC kC bC .nil pass0 (pa_cons (pe_lc (own := [("_law_other", 9)]) (g := gName 9) (tt := tTest (tOp (rNeD K) (tVar 9) (tVar 6))) (te := tVar 9) rfl nd (pi_list (pv 3)) (blkOk_by (own := [("_law_other", 9)]) (N := N03) (sc := defScope sLaw) (by decide +kernel))
        (fun _ _ _ _ _ => (pg_name (i := 9) nd rfl (Or.inl rfl))) (fun _ _ _ _ _ => pts_one (pt_cmpR (op_neD hr.units) (pv 9) (pv 6) (nomark _))) (fun _ _ _ _ _ => (pv 9))) pa_nil)))
      (pss_cons (ps_set (i := 8) nd rfl (Or.inl rfl) (pe_lst pa_nil))
      (pss_cons (ps_for (passes_of rfl) rfl (pi_list (pv 3)) (pg_name (i := 9) nd rfl (Or.inl rfl)) (pss_one (ps_if (PW.pt (pw_and (pt_cmpR (op_neD hr.units) (pv 9) (pv 6) (nomark _)) (pw_and1 (pt_cmpR op_ne (pe_dget (Pq.units1 hr) (pv 5) (pe_ix ix_tup (pv 9) pe_int (fun _ _ => rfl)) (fun _ _ => rfl)) (pe_dget (Pq.units1 hr) (pv 7) (pe_ix ix_tup (pv 9) pe_int (fun _ _ => rfl)) (fun _ _ => rfl)) (nomark _))))) (pss_one (ps_expr (pe_bm PySem.F.plainAttrs_list PySem.F.slot_list_append PySem.F.type_list_append mt_append (pv 8) (pa_cons (pe_tup (pa_cons (pe_ix ix_tup (pv 9) pe_int (fun _ _ => rfl)) (pa_cons (pe_tup (pa_cons (pe_dget (Pq.units1 hr) (pv 5) (pe_ix ix_tup (pv 9) pe_int (fun _ _ => rfl)) (fun _ _ => rfl)) (pa_cons (pe_dget (Pq.units1 hr) (pv 7) (pe_ix ix_tup (pv 9) pe_int (fun _ _ => rfl)) (fun _ _ => rfl)) pa_nil))) pa_nil))) pa_nil)))) pss_nil)))
      (pss_one (ps_if (pt_not (pt_val (pe_call (GS 3) (hr.mono (by decide)) rfl mS kS bS .nil pass0 (pa_cons (LiI.pe_listItems rfl (pe_call GH (hr.mono (by decide)) rfl mH kH bH .nil pass (pa_cons (pv 4) (pa_cons (pe_ix ix_tup (pv 6) pe_int (fun _ _ => rfl)) pa_nil))) (by rfl) B.list (by decide +kernel)) (pa_cons (pv 8) pa_nil))))) (pss_one (ps_ret pe_bl)) pss_nil))))))
      (pss_cons (ps_set (i := 10) nd rfl (Or.inl rfl) (pe_call GL (hr.mono (by decide)) rfl mL kL bL .nil pass (pa_cons (pv 4) pa_nil)))
      (pss_cons (ps_setLc (i := 11) (own := [("_law_name", 12), ("_law_come", 13), ("_law_go", 14)]) (g := gTup K 3 (gCons (gName 12) (gCons (gName 13) (gCons (gName 14) gNil)))) (tt := tYes) (te := tTup (tCons (tVar 13) (tCons (tOp (rI0 fun i j => .int (i - j)) (tC (.int 0)) (tVar 14)) (tCons (tBM K "list" (rIndexD K) (tVar 3) (tCons (tTup (tCons (tVar 12) (tCons (tVar 13) (tCons (tVar 14) tNil)))) tNil)) tNil)))) rfl nd rfl rfl (sw_true rfl rfl rfl (by decide +kernel))
        (pi_tup (pe_prop (pv 10) PC.cl hSt GSt (hr.mono (by decide)) bSt .nil pass0 rfl)) (blkOk_by (own := [("_law_name", 12), ("_law_come", 13), ("_law_go", 14)]) (N := N03) (sc := defScope sLaw) (by decide +kernel))
        (fun _ _ _ _ _ => (pg_tup rfl (pgs_cons (pg_name (i := 12) nd rfl (Or.inl rfl)) (pgs_cons (pg_name (i := 13) nd rfl (Or.inl rfl)) (pgs_cons (pg_name (i := 14) nd rfl (Or.inl rfl)) pgs_nil)))))
        (fun _ _ _ _ _ => pts_nil) (fun _ _ _ _ _ => (pe_tup (pa_cons (pv 13) (pa_cons (pe_op op_sub pe_int (pv 14)) (pa_cons (pe_bm PySem.F.plainAttrs_list PySem.F.slot_list_index PySem.F.type_list_index (mt_indexD (units65 hr)) (pv 3) (pa_cons (pe_tup (pa_cons (pv 12) (pa_cons (pv 13) (pa_cons (pv 14) pa_nil)))) pa_nil)) pa_nil))))))
      (pss_cons (ps_if (PW.pt (pw_or (pt_cmpR (op_neD hr.units) (pe_callB cr_sortT3 (by rfl) B.sorted (by decide +kernel) (pa_cons (pe_prop (pv 10) PC.cl hSt GSt (hr.mono (by decide)) bSt .nil pass0 rfl) pa_nil)) (pe_callB cr_sortT3 (by rfl) B.sorted (by decide +kernel) (pa_cons (pv 3) pa_nil)) (nomark _)) (pw_or1 (pt_cmpR (op_neD hr.units) (pv 11) (pe_callB cr_sortLx (by rfl) B.sorted (by decide +kernel) (pa_cons (pv 11) pa_nil)) (nomark _))))) (pss_one (ps_ret pe_bl)) pss_nil)
      (pss_cons (ps_for (passes_of rfl) rfl (pi_range1 (by rfl) B.range (pa_cons pe_int pa_nil)) (pg_name (i := 15) nd rfl (Or.inl rfl)) (pss_one (ps_if (pt_cmpR op_lt (pe_call GA (hr.mono (by decide)) rfl mA kA bA .nil pass (pa_cons (pe_call GP (hr.mono (by decide)) rfl mP kP bP .nil pass (pa_cons (pe_call GM (hr.mono (by decide)) rfl mM kM bM .nil pass0 (pa_cons (pv 1) (pa_cons (pv 3) pa_nil))) pa_nil)) pa_nil)) (pe_call GA (hr.mono (by decide)) rfl mA kA bA .nil pass (pa_cons (pv 10) pa_nil)) (nomark _)) (pss_one (ps_ret pe_bl)) pss_nil)))
      (pss_cons (ps_par3 (i := 16) (j := 17) (l := 18) rfl nd rfl rfl rfl (by decide) (by decide) (by decide) rfl rfl rfl (pa_cons (pe_call G2 (hr.mono (by decide)) rfl m2 k2 b2 .nil pass0 (pa_cons (pv 1) (pa_cons pe_int pa_nil))) (pa_cons (pe_call G2 (hr.mono (by decide)) rfl m2 k2 b2 .nil pass0 (pa_cons (pv 1) (pa_cons pe_int pa_nil))) (pa_cons (pe_op op_add pe_int (pe_call G2 (hr.mono (by decide)) rfl m2 k2 b2 .nil pass0 (pa_cons (pv 1) (pa_cons pe_int pa_nil)))) pa_nil))) rfl)
      (pss_cons (ps_set (i := 19) nd rfl (Or.inl rfl) (pe_cmethK (pe_glob (v := .ref C) (by rfl) PC.gm rfl) CR CM GE (hr.mono (by decide)) pass (pa_cons (pv 18) pa_nil) (pk_cons (pv 16) (pk_cons (pv 17) pk_nil))))
      (pss_cons (ps_if (pt_cmpR (op_neD hr.units) (pe_prop (pv 19) PC.cl hSt GSt (hr.mono (by decide)) bSt .nil pass0 rfl) (pe_tup (pa_cons (pe_tup (pa_cons pe_str (pa_cons (pv 16) (pa_cons (pe_op op_add (pv 16) (pv 18)) pa_nil)))) (pa_cons (pe_tup (pa_cons pe_str (pa_cons (pv 17) (pa_cons (pe_op op_add (pv 17) (pv 18)) pa_nil)))) pa_nil))) (nomark _)) (pss_one (ps_ret pe_bl)) pss_nil)
      (pss_one (ps_if (pt_cmpR op_ne (pe_call GA (hr.mono (by decide)) rfl mA kA bA .nil pass (pa_cons (pv 19) pa_nil)) (pe_callTy call_int1 (by rfl) B.int (by decide +kernel) (pa_cons (pe_chain op_lt op_lt pe_int (pe_callB call_abs (by rfl) ab (by decide +kernel) (pa_cons (pe_op op_sub (pv 16) (pv 17)) pa_nil)) (pv 18)) pa_nil)) (nomark _)) (pss_one (ps_ret pe_bl)) pss_nil)))))))))))))
      (pss_one (ps_ret pe_bl)))), ?_⟩
  refine ⟨_, rfl, a, ns, rfl, ha, hl, fun H1 l s1 hl1 D1 => ?_⟩
  refine ⟨_, rfl, by decide, by decide, for_it walk_range (fun i σ H2 => ∃ o2 o3 o4 o5 o6 o7 o8 o9 o10 o11 o15 o16 o17 o18 o19, σ = [some (.ref a), some (.ref l), o2, o3, o4, o5, o6, o7, o8, o9, o10, o11, none, none, none, o15, o16, o17, o18, o19] ∧ Dw.St K T l a ns H2)
    ⟨none, none, none, none, none, none, none, none, none, none, none, none, none, none, none, rfl, D1, LamX.Tabs.ext hT s1⟩ (fun _ _ _ _ _ => trivial) ?_ ?_⟩
  rotate_left
  · rintro σ H2 ⟨_, _, _, _, _, _, _, _, _, _, _, _, _, _, _, rfl, S2⟩
    exact kk _
  clear D1 s1 hl1 hT
  rintro i v σ H3 H2 hi ⟨o2, o3, o4, o5, o6, o7, o8, o9, o10, o11, o15, o16, o17, o18, o19, rfl, S2⟩ ⟨rfl, ev⟩
  -- the rows
  refine Shg.name_at (Shg.asg_rel (fun v H' => ∃ (R : Addr) (ws : List V) (xs : List Stay) (hig : Int), v = .ref R ∧ Dw.St K T l a ns H' ∧ H' R = some (.lst ws) ∧ R ≠ l ∧ StaysV H' ws xs ∧ Rows hig xs ∧ xs.length ≤ 12 ∧ hig ≤ 100) (fun R0 h0 => ?_) fun vr Hr hr2 => ?_)
  · refine ⟨_, rfl, by show 3 ≤ sizeLine; decide, fun p hp => ?_⟩
    have S5 := S2.same (Shg.same_upd (o := .lst [.int 4, .int 12, .int 40]) hp)
    refine ⟨_, rfl, l, a, ns, 3, rfl, S5.d, by decide, by decide, fun r H5 r0 r1 b5 d5 => ?_⟩
    obtain ⟨z, hz, ez⟩ := Dw.at_mem (xs := [V.int 4, .int 12, .int 40]) r0 r1
    have S6 := S5.draw b5 d5
    obtain ⟨hig, rfl, m0, m1⟩ : ∃ hi : Int, z = .int hi ∧ 0 < hi ∧ hi ≤ 40 := by
      simp only [List.mem_cons, List.not_mem_nil, or_false] at hz
      rcases hz with rfl | rfl | rfl
      · exact ⟨_, rfl, by decide, by decide⟩
      · exact ⟨_, rfl, by decide, by decide⟩
      · exact ⟨_, rfl, by decide, by decide⟩
    refine ⟨p, _, r, _, rfl, rfl, SqL.of (b5 _ _ upd_same (S2.ne hp)), ez, l, a, ns, 12, hig, rfl, S6.d, by decide, by decide, m0, by omega, fun H6 R ws xs b6 d6 nR hR sv lx rw6 => ?_⟩
    exact h0 _ _ ⟨R, ws, xs, hig, rfl, S6.draw b6 d6, hR, S6.ne nR, sv, rw6, by omega, by omega⟩
  obtain ⟨R, ws, xs, hig, rfl, S7, eR, nR, sv, rws, lx, hg⟩ := hr2
  obtain ⟨vld, sht⟩ := rows_ok rws (by omega) (by omega)
  have lw := Shg.pair_len sv
  have hv : ∀ x ∈ xs, x.2.1 < x.2.2 := fun x hx => (rws.tm x hx).2.2.1
  have ndn := rws.nd
  have nds : xs.Nodup := (List.pairwise_map.mp ndn).imp fun h z => h (by rw [z])
  refine Shg.name_at ?_
  refine ⟨_, rfl, R, ws, xs, rfl, SqL.of eR, sv, sht, vld, fun p H8 s8 _ P8 => ?_⟩
  have sv8 : StaysV H8 ws xs := Shg.pair_mono (fun _ _ ⟨t, q, ht⟩ => ⟨t, q, s8 _ _ ht⟩) sv
  refine ⟨_, rfl, R, ws, xs, rfl, SqL.of (s8 _ _ eR), sv8, by omega, hv, ndn, fun Bf H9 s9 eB => ?_⟩
  have U0 : Z3 K T C l a ns R ws xs p Bf H9 := ⟨(S7.same s8).same s9, s9 _ _ (s8 _ _ eR), nR, Shg.pair_mono (fun _ _ ⟨t, q, ht⟩ => ⟨t, q, s9 _ _ ht⟩) sv8, PartyAt.same s9 P8, eB⟩
  clear S7 eR sv sv8 s8 s9 P8 eB
  refine ⟨_, _, rfl, Shg.nx_of ?_⟩
  -- each guest left out
  refine ⟨_, rfl, R, rfl, ⟨_, SqL.of U0.r⟩, for_it (walk_list (K := K) (a := R) (xs := ws)) (fun j σ H' => ∃ o6 o7 o8 o9, σ = [some (.ref a), some (.ref l), some v, some (.ref R), some (.ref p), some (.ref Bf), o6, o7, o8, o9, o10, o11, none, none, none, o15, o16, o17, o18, o19] ∧ Z3 K T C l a ns R ws xs p Bf H')
    ⟨_, _, _, _, rfl, U0⟩ (fun j σ H' _ z => by obtain ⟨_, _, _, _, _, z⟩ := z; exact SqL.of z.r) ?_ ?_⟩
  · clear U0
    rintro j y σ HK HL hj ⟨o6, o7, o8, o9, rfl, U⟩ ⟨rfl, ey⟩
    obtain ⟨x, hx, t, rfl, ht⟩ := Shg.pair_get U.s ey
    have hxm : x ∈ xs := List.mem_of_getElem? hx
    have dpx : ∀ {t : Addr} {y : Stay} {H1 : Hp}, H1 t = some (.tup [.str y.1, .int y.2.1, .int y.2.2]) → Dp K H1 (.ref t) (stayD y) := fun {t y H1} e => .tup (SqT.of e) (.cons (.str _) (.cons (.int _) (.cons (.int _) .nil)))
    have shp : ∀ y ∈ xs, SeqAt.shaped (stayD y) = true := fun y hy => shaped_stay (sht y hy).2
    have sbw := without_sub xs x
    have ndw : ((without xs x).map fun y => y.1).Nodup := ndn.sublist (sbw.map _)
    refine Shg.name_at ?_
    -- what the others lift without x
    refine Shg.asg_rel (fun v H' => ∃ Af, v = .ref Af ∧ Same HL H' ∧ H' Af = some (.dK (cntK (without xs x)))) (fun R0 h0 => ?_) fun vA HA hA => ?_
    · refine ⟨_, rfl, R, rfl, ⟨_, SqL.of U.r⟩, fun D0 hD0 => ?_⟩
      refine lc_gather (walk_list (K := K) (a := R) (xs := ws)) (fun i => ((ws.zip xs)[i]?).bind fun q => if (!decide (q.2 = x)) = true then some q.1 else none) hD0 (by rw [lw]; exact Nat.le_trans lx (by decide)) (fun HA sA => SqL.of (sA _ _ U.r)) (fun i v HA H' hi sA yy Rr k1 => ?_) fun HA sA eA => ?_
      · obtain ⟨rfl, e2⟩ := yy
        obtain ⟨y, hy, t', rfl, ht'⟩ := Shg.pair_get U.s e2
        have k2 := k1 _ (Same.refl _)
        have ez : (ws.zip xs)[i]? = some (.ref t', y) := by
          rw [List.getElem?_zip_eq_some]
          exact ⟨e2, hy⟩
        rw [ez] at k2
        refine ⟨rfl, _, rfl, _, rfl, stayD y, stayD x, dpx (sA _ _ ht'), dpx (sA _ _ ht), shp y (List.mem_of_getElem? hy), shp x hxm, _, rfl, ?_⟩
        rw [eqv_stay]
        by_cases e : y = x
        · have : decide (y = x) = true := decide_eq_true e
          rw [this]
          refine iteF ?_
          simp only [Option.bind_some, this] at k2
          exact k2
        · have : decide (y = x) = false := decide_eq_false e
          rw [this]
          refine iteT ⟨_, rfl, ?_⟩
          simp only [Option.bind_some, this] at k2
          exact k2
      · rw [show ws.length = (ws.zip xs).length from by rw [List.length_zip]; omega, gather_list (ws.zip xs) fun q => if (!decide (q.2 = x)) = true then some q.1 else none] at eA
        have svF := paired_filter (fun y : Stay => !decide (y = x)) (Shg.pair_mono (fun _ _ ⟨t, q, ht⟩ => ⟨t, q, sA _ _ ht⟩) U.s : StaysV HA ws xs)
        exact ⟨D0, _, without xs x, rfl, SqL.of eA, svF, Nat.le_trans sbw.length_le (by omega), fun z hz => hv z (sbw.mem hz), ndw, fun Af H' s' eAf => h0 _ _ ⟨Af, rfl, sA.trans s', eAf⟩⟩
    obtain ⟨Af, rfl, sA, eAf⟩ := hA
    have U1 := U.same sA
    have ht1 := sA _ _ ht
    clear U ht sA
    refine Shg.name_at ?_
    refine ⟨Nat.zero_le _, fun Xp hX => Shg.name_of ?_⟩
    have sX := Shg.same_upd (o := .lst []) hX
    have U2 := U1.same sX
    have eX : (upd HA Xp (.lst [])) Xp = some (.lst []) := upd_same
    generalize upd HA Xp (.lst []) = HX at *
    -- the others, one by one
    refine ⟨_, rfl, R, rfl, ⟨_, SqL.of U2.r⟩, for_it (walk_list (K := K) (a := R) (xs := ws)) (fun m σ H' => ∃ o9 es, σ = [some (.ref a), some (.ref l), some v, some (.ref R), some (.ref p), some (.ref Bf), some (.ref t), some (.ref Af), some (.ref Xp), o9, o10, o11, none, none, none, o15, o16, o17, o18, o19] ∧ Same HA H' ∧ H' Xp = some (.lst es) ∧ EAt H' es (expOf xs x (xs.take m)))
      ⟨_, [], rfl, sX, eX, .nil⟩ (fun j σ H' _ z => by obtain ⟨_, _, _, z, _⟩ := z; exact SqL.of (z _ _ U1.r)) ?_ ?_⟩
    · clear U2 eX
      rintro m y2 σ HM HN hm ⟨o9, es, rfl, sS, eX, ea⟩ ⟨rfl, ey2⟩
      have U := U1.same sS
      have eA := sS _ _ eAf
      have et := sS _ _ ht1
      obtain ⟨z, hz, u, rfl, hu⟩ := Shg.pair_get U.s ey2
      have hzm : z ∈ xs := List.mem_of_getElem? hz
      have tk : xs.take (m + 1) = xs.take m ++ [z] := by rw [List.take_add_one, hz]; rfl
      refine Shg.name_at ?_
      have neT : ∀ Rf : Bool → Hp → Prop, Rf (!decide (z = x)) HN → tTest (tOp (rNeD K) (tVar 9) (tVar 6)) [some (.ref a), some (.ref l), some v, some (.ref R), some (.ref p), some (.ref Bf), some (.ref t), some (.ref Af), some (.ref Xp), some (.ref u), o10, o11, none, none, none, o15, o16, o17, o18, o19] HN Rf := fun Rf h => by
        refine ⟨_, rfl, _, rfl, stayD z, stayD x, dpx hu, dpx et, shp z hzm, shp x hxm, _, rfl, ?_⟩
        rw [eqv_stay]
        exact h
      have nmu : ∀ {H' : Hp}, H' u = some (.tup [.str z.1, .int z.2.1, .int z.2.2]) → ∀ Q : VK, Q (.str z.1) H' → rIxT K (.ref u) (.int (0 : Int)) H' Q := fun {H'} e Q h => ⟨u, _, 0, .str z.1, rfl, rfl, SqT.of e, atI_nat (j := 0) rfl, h⟩
      have dB : ∀ {H' : Hp}, H' Bf = some (.dK (cntK xs)) → DGet H' Bf (.str z.1) (some (.int (liftN xs z : Nat))) := fun {H'} e => by
        rw [← valV_cnt ndn hzm]
        exact DGet.k (k := Sum.inr z.1) e
      by_cases e0 : z = x
      · refine and_not3 (fun Rf h => neT Rf ?_) (iteF ?_)
        · rw [decide_eq_true e0]
          exact h
        · refine ⟨_, es, rfl, sS, eX, ?_⟩
          rw [tk, exp_snoc, if_pos (.inl e0), List.append_nil]
          exact ea
      have hzw : z ∈ without xs x := List.mem_filter.mpr ⟨hzm, by rw [decide_eq_false e0]; rfl⟩
      have dA : ∀ {H' : Hp}, H' Af = some (.dK (cntK (without xs x))) → DGet H' Af (.str z.1) (some (.int (liftN (without xs x) z : Nat))) := fun {H'} e => by
        rw [← valV_cnt ndw hzw]
        exact DGet.k (k := Sum.inr z.1) e
      refine and_yes3 (fun Rf h => neT Rf ?_) ?_
      · rw [decide_eq_false e0]
        exact h
      refine ⟨_, rfl, _, rfl, u, _, 0, .str z.1, rfl, rfl, SqT.of hu, atI_nat (j := 0) rfl, Bf, _, rfl, dB U.eB, _, rfl, _, rfl, u, _, 0, .str z.1, rfl, rfl, SqT.of hu, atI_nat (j := 0) rfl, Af, _, rfl, dA eA, rfl, _, rfl, ?_⟩
      by_cases e1 : liftN xs z = liftN (without xs x) z
      · rw [e1, decide_eq_true rfl]
        refine iteF ?_
        refine ⟨_, es, rfl, sS, eX, ?_⟩
        rw [tk, exp_snoc, if_pos (.inr e1), List.append_nil]
        exact ea
      · rw [decide_eq_false (fun q => e1 (by have := V.int.inj q; omega))]
        refine iteT ?_
        refine ⟨_, rfl, .inl ⟨rfl, _, SqL.of eX⟩, _, rfl, u, _, 0, .str z.1, rfl, rfl, SqT.of hu, atI_nat (j := 0) rfl, _, rfl, _, rfl, u, _, 0, .str z.1, rfl, rfl, SqT.of hu, atI_nat (j := 0) rfl, Bf, _, rfl, dB U.eB, _, rfl, _, rfl, u, _, 0, .str z.1, rfl, rfl, SqT.of hu, atI_nat (j := 0) rfl, Af, _, rfl, dA eA, by show 2 ≤ sizeLine; decide, fun c2 hc2 => ⟨by show 2 ≤ sizeLine; decide, fun c1 hc1 => ?_⟩⟩
        have sC := (Shg.same_upd (o := .tup [.int (liftN xs z : Nat), .int (liftN (without xs x) z : Nat)]) hc2).trans (Shg.same_upd (o := .tup [.str z.1, .ref c2]) hc1)
        have e2 := (Shg.same_upd (o := .tup [.str z.1, .ref c2]) hc1) _ _ (upd_same (H := HN) (a := c2) (o := .tup [.int (liftN xs z : Nat), .int (liftN (without xs x) z : Nat)]))
        have e3 : (upd (upd HN c2 (.tup [.int (liftN xs z : Nat), .int (liftN (without xs x) z : Nat)])) c1 (.tup [.str z.1, .ref c2])) c1 = some (.tup [.str z.1, .ref c2]) := upd_same
        have eXC := sC _ _ eX
        have eaC := ea.tups fun b us q => sC _ _ q
        have sSC := sS.trans sC
        have le := exp_len xs x (xs.take m)
        have l2 := Shg.pair_len ea
        rw [List.length_take] at le
        refine ⟨Xp, es, _, rfl, rfl, eXC, by rw [sizeLine_eq]; omega, ?_⟩
        generalize upd (upd HN c2 (.tup [.int (liftN xs z : Nat), .int (liftN (without xs x) z : Nat)])) c1 (.tup [.str z.1, .ref c2]) = HC at *
        have tups : ∀ b us, HC b = some (.tup us) → (upd HC Xp (.lst (es ++ [.ref c1]))) b = some (.tup us) := fun b us q => by
          rw [upd_ne fun w => by rw [w, eXC] at q; cases q]
          exact q
        refine ⟨_, _, rfl, fun b o q => ?_, upd_same, ?_⟩
        · rw [upd_ne fun w => by rw [w, hX] at q; cases q]
          exact sSC _ _ q
        · rw [tk, exp_snoc, if_neg fun q => q.elim e0 e1]
          exact EAt.snoc (c := (z.1, liftN xs z, liftN (without xs x) z)) (eaC.tups tups) (tups _ _ e3) (tups _ _ e2)
    rintro σ HM ⟨o9, es, rfl, sS, eX, ea⟩
    have U := U1.same sS
    have et := sS _ _ ht1
    rw [lw, List.take_length, exp_chg ndn x] at ea
    -- the same as the program says
    have fewC : (chgOf xs (without xs x) (without xs x)).length ≤ 1000 := Nat.le_trans (chg_len _ _ _) (by have := sbw.length_le; omega)
    refine Shg.nx_of ?_
    refine Shg.if_rel1 (fun H' => Grows T HM H') (fun R0 h0 => ?_) fun HN gN => ⟨_, _, _, _, rfl, U.grows gN⟩
    refine ⟨_, rfl, _, rfl, t, _, 0, .str x.1, rfl, rfl, SqT.of et, atI_nat (j := 0) rfl, p, x, xs, rfl, U.p, sht, vld, hxm, U.d.t, fun D' H' kvs g eD ch => ⟨D', kvs, rfl, eD, fun H2 q ts s2 nq nts nin eq pts => ?_⟩⟩
    have g2 := g.trans (Sh1.Grows.of s2)
    have eX2 := g2.ext _ _ eX fun _ z => nomatch z
    have ea2 := ea.tups fun b us q => g2.ext _ _ q fun _ z => nomatch z
    have chQ : EAt H2 (ts.map V.ref) (chgOf xs (without xs x) (without xs x)) := EAt.of_items pts (ch.mono (LamX.ExtN.of s2))
    refine ⟨_, rfl, .ref q, .ref Xp, _, rfl, chQ.stands eq fewC, ea2.stands eX2 fewC, fun H3 s3 => ⟨_, rfl, h0 _ (g2.trans (Sh1.Grows.of s3))⟩⟩
  rintro σ HK ⟨o6, o7, o8, o9, rfl, U⟩
  refine Shg.nx_of ?_
  -- the calmest order
  refine Shg.asg_rel (fun v H' => ∃ q ys, v = .ref q ∧ Z3 K T C l a ns R ws xs p Bf H' ∧ PartyAt C H' q ys ∧ SortedBy (xs.map calmK) xs ys) (fun R0 h0 => ?_) fun vq HQ hQ => ?_
  · exact ⟨_, rfl, p, xs, rfl, U.p, sht, vld, U.d.t, fun q H' ys g PQ so => h0 _ _ ⟨q, ys, rfl, U.grows g, PQ, so⟩⟩
  obtain ⟨q, ys, rfl, U1, PQ, so⟩ := hQ
  clear U
  have pmy := (calm_facts so).1
  have hvy := valid_perm pmy vld
  have hsy : Short ys := fun z hz => sht z (pmy.mem_iff.mp hz)
  refine Shg.name_at ?_
  -- its keys
  refine Shg.asg_rel (fun v H' => ∃ Ky us, v = .ref Ky ∧ Same HQ H' ∧ H' Ky = some (.lst us) ∧ PySem.Paired (fun v (k : List Int) => ∃ t, v = V.ref t ∧ H' t = some (.tup (k.map V.int))) us (ys.map (keyC xs))) (fun R0 h0 => ?_) fun vK HK2 hK2 => ?_
  · obtain ⟨dq, bq, wq, q1, q2, q3⟩ := id PQ
    have lq := Shg.pair_len q3
    refine ⟨_, rfl, q, dq, _, rfl, q1, q, dq, _, .ref bq, rfl, q1, lk_stays _, bq, rfl, ⟨_, SqT.of q2⟩, fun D0 hD0 => ?_⟩
    refine lc_rel walk_tup (fun i y H => ∃ x, ys[i]? = some x ∧ ∃ t, y = .ref t ∧ H t = some (.tup ((keyC xs x).map V.int))) hD0 (by rw [lq, pmy.length_eq]; exact Nat.le_trans lx (by decide)) (fun HA sA => SqT.of (sA _ _ q2)) (fun i y H H' st r => ?_) (fun i v HA H' hi sA yy Rr k1 => ?_) fun HA us sA e1 e2 e3 => ?_
    · obtain ⟨x, e, t, e2, e3⟩ := r
      exact ⟨x, e, t, e2, st _ _ e3⟩
    · obtain ⟨rfl, e2⟩ := yy
      obtain ⟨y, hy, t, rfl, ht⟩ := Shg.pair_get q3 e2
      have hym : y ∈ xs := pmy.mem_iff.mp (List.mem_of_getElem? hy)
      have hjl : xs.idxOf y < xs.length := List.idxOf_lt_length_iff.mpr hym
      have ndx2 : ∀ (m : Nat) (z' : PyData), m < xs.idxOf y → (xs.map stayD)[m]? = some z' → PyData.eqv z' (stayD y) = false := fun m z' hm hz => by
        rw [List.getElem?_map] at hz
        obtain ⟨w0, hw0, rfl⟩ := Option.map_eq_some_iff.mp hz
        rw [eqv_stay]
        refine decide_eq_false fun e => ?_
        have := List.idxOf_lt_length_iff.mpr hym
        have h1 : xs[m]? = xs[xs.idxOf y]? := by rw [hw0, e, List.getElem?_eq_getElem this, List.getElem_idxOf]
        have h2 := (List.getElem?_inj (by omega) nds).mp h1
        omega
      refine ⟨t, _, rfl, SqT.of (sA _ _ ht), rfl, _, _, rfl, _, _, rfl, _, _, rfl, rfl, rfl, _, rfl, _, rfl, _, _, rfl, rfl, _, rfl, .inl ⟨rfl, _, SqL.of (sA _ _ U1.r)⟩, _, rfl, _, rfl, _, rfl, by show 3 ≤ sizeLine; decide, fun c hc => ?_⟩
      have sC := Shg.same_upd (o := .tup [.str y.1, .int y.2.1, .int y.2.2]) hc
      have svC : StaysV (upd _ c (.tup [.str y.1, .int y.2.1, .int y.2.2])) ws xs := Shg.pair_mono (fun _ _ ⟨t, q, ht⟩ => ⟨t, q, sC _ _ (sA _ _ ht)⟩) U1.s
      refine ⟨R, .ref c, stayD y, xs.map stayD, xs.idxOf y, stayD y, rfl, rfl, .lst (SqL.of (sC _ _ (sA _ _ U1.r))) (dp_stays svC), .tup (SqT.of upd_same) (.cons (.str _) (.cons (.int _) (.cons (.int _) .nil))), shaped_lst sht, shaped_stay (sht y hym).2, ?_, ?_, ndx2, by show 3 ≤ sizeLine; decide, fun c2 hc2 => k1 _ _ (sC.trans (Shg.same_upd hc2)) ⟨y, hy, c2, rfl, upd_same⟩⟩
      · rw [List.getElem?_map, List.getElem?_eq_getElem hjl, List.getElem_idxOf]
        rfl
      · rw [eqv_stay, decide_eq_true rfl]
    · refine h0 _ _ ⟨D0, us, rfl, sA, e1, pair_of (by rw [e2, lq, List.length_map]) fun i v k hv hk => ?_⟩
      rw [List.getElem?_map] at hk
      obtain ⟨x, hx, rfl⟩ := Option.map_eq_some_iff.mp hk
      obtain ⟨x', hx', r⟩ := e3 i v hv
      rw [hx] at hx'
      cases hx'
      exact r
  obtain ⟨Ky, us, rfl, sK, eK, hus⟩ := hK2
  have U2 := U1.same sK
  have PQ2 := PartyAt.same sK PQ
  clear U1 PQ
  refine Shg.name_at ?_
  -- sorted as told
  refine Shg.if_rel (fun H' => Same HK2 H') (fun R0 h0 => or_no3 (fun H' => Same HK2 H') (fun H' => Same HK2 H') (fun Rf h => ?_) (fun H5 s5 Rf h => ?_) fun H' s => h0 _ s) fun HS sS => ?_
  · obtain ⟨dq, bq, wq, q1, q2, q3⟩ := id PQ2
    refine ⟨_, rfl, q, dq, _, rfl, q1, q, dq, _, .ref bq, rfl, q1, lk_stays _, bq, wq, keyH HK2, rfl, .inr (SqT.of q2), keyH_all q3, fun z1 p1 w1 pm1 n1 => ?_⟩
    have s1 := Shg.same_upd (o := .lst z1) n1
    have svr : StaysV (upd HK2 p1 (.lst z1)) ws xs := Shg.pair_mono (fun _ _ ⟨t, q, ht⟩ => ⟨t, q, s1 _ _ ht⟩) U2.s
    refine ⟨_, rfl, R, ws, keyH (upd HK2 p1 (.lst z1)), rfl, .inl (SqL.of (s1 _ _ U2.r)), keyH_all svr, fun z2 p2 w2 pm2 n2 => ?_⟩
    have s2 := Shg.same_upd (o := .lst z2) n2
    obtain ⟨v1, m1⟩ := perm_stays q3 pm1
    obtain ⟨v2, m2⟩ := perm_stays svr pm2
    have eq := two_sorted w1 w2 m1 m2 pmy
    have v1' : StaysV (upd (upd HK2 p1 (.lst z1)) p2 (.lst z2)) z1 (z1.map (unStay HK2)) := Shg.pair_mono (fun _ _ ⟨t, q, ht⟩ => ⟨t, q, s2 _ _ (s1 _ _ ht)⟩) v1
    have v2' : StaysV (upd (upd HK2 p1 (.lst z1)) p2 (.lst z2)) z2 (z2.map (unStay (upd HK2 p1 (.lst z1)))) := Shg.pair_mono (fun _ _ ⟨t, q, ht⟩ => ⟨t, q, s2 _ _ ht⟩) v2
    rw [← eq] at v2'
    have shz : Short (z1.map (unStay HK2)) := fun z hz => hsy z (m1.mem_iff.mp hz)
    refine ⟨.list ((z1.map (unStay HK2)).map stayD), .list ((z1.map (unStay HK2)).map stayD), .lst (SqL.of (s2 _ _ upd_same)) (dp_stays v1'), .lst (SqL.of upd_same) (dp_stays v2'), shaped_lst shz, shaped_lst shz, _, rfl, ?_⟩
    rw [show PyData.eqv (.list ((z1.map (unStay HK2)).map stayD)) (.list ((z1.map (unStay HK2)).map stayD)) = true from (eqv_stays _ _).trans (decide_eq_true rfl)]
    exact h _ (s1.trans s2)
  · have eK5 := s5 _ _ eK
    have hus5 : PySem.Paired (KeyAt H5) us (ys.map (keyC xs)) := Shg.pair_mono (fun _ _ ⟨t, e, ht⟩ => ⟨t, e, s5 _ _ ht⟩) hus
    have len3 : ∀ k ∈ ys.map (keyC xs), k.length = 3 := fun k hk => by
      obtain ⟨z, _, rfl⟩ := List.mem_map.mp hk
      rfl
    refine ⟨_, rfl, _, rfl, Ky, us, intsV H5, 3, rfl, SqL.of eK5, by decide, fun x hx => ?_, fun z3 p3 w3 pm3 n3 => ?_⟩
    · obtain ⟨m, t, e, ht⟩ := keys_mem hus5 x hx
      exact ⟨t, e, ht, len3 _ m⟩
    · have s3 := Shg.same_upd (o := .lst z3) n3
      have eq := sorted_keys (H1 := H5) hus5 len3 (keys_sorted nds so) pm3 w3
      have a1 : PySem.Paired (KeyAt (upd H5 p3 (.lst z3))) us (ys.map (keyC xs)) := Shg.pair_mono (fun _ _ ⟨t, e, ht⟩ => ⟨t, e, s3 _ _ ht⟩) hus5
      have a2 : PySem.Paired (KeyAt (upd H5 p3 (.lst z3))) z3 (ys.map (keyC xs)) := by
        rw [← eq]
        exact Shg.pair_mono (fun _ _ ⟨t, e, ht⟩ => ⟨t, e, s3 _ _ ht⟩) (keys_all fun v hv => (keys_mem hus5 v (pm3.mem_iff.mp hv)).2)
      refine ⟨.list ((ys.map (keyC xs)).map intsD), .list ((ys.map (keyC xs)).map intsD), .lst (SqL.of (s3 _ _ eK5)) (dp_keys a1), .lst (SqL.of upd_same) (dp_keys a2), Shp.plain_shaped (plain_keys _), Shp.plain_shaped (plain_keys _), _, rfl, ?_⟩
      rw [Shp.plain_refl (plain_keys _)]
      exact h _ (s5.trans s3)
  have U3 := U2.same sS
  have PQ3 := PartyAt.same sS PQ2
  clear U2 PQ2 eK hus
  -- no other order lifts less
  refine ⟨_, rfl, by decide, by decide, for_it walk_range (fun i σ H' => ∃ o15, σ = [some (.ref a), some (.ref l), some v, some (.ref R), some (.ref p), some (.ref Bf), o6, o7, o8, o9, some (.ref q), some (.ref Ky), none, none, none, o15, o16, o17, o18, o19] ∧ Z3 K T C l a ns R ws xs p Bf H' ∧ PartyAt C H' q ys) ⟨_, rfl, U3, PQ3⟩ (fun _ _ _ _ _ => trivial) ?_ ?_⟩
  · clear U3 PQ3
    rintro i3 v3 σ H5 H6 hi3 ⟨o15, rfl, U, PQ⟩ ⟨rfl, ev3⟩
    refine Shg.name_at ?_
    refine Shg.if_rel1 (fun H' => Z3 K T C l a ns R ws xs p Bf H' ∧ PartyAt C H' q ys) (fun R0 h0 => ?_) fun H7 hh => Shg.nx_of ⟨_, rfl, hh.1, hh.2⟩
    refine ⟨_, rfl, _, rfl, l, a, ns, R, ws, xs, rfl, U.d, U.r, U.nR, U.s, by omega, fun M us2 zs H2 b2' S2' hM eM svM pm => ?_⟩
    obtain ⟨zl, hzl⟩ := U.d.at
    have U2' := U.draw b2' S2'
    have PQ2' := party_draw hzl b2' PQ
    have shz : Short zs := fun z hz => sht z (pm.mem_iff.mp hz)
    refine ⟨M, us2, zs, rfl, SqL.of eM, svM, shz, valid_perm pm vld, fun p2 H3' s3 _ P3 => ?_⟩
    refine ⟨p2, zs, rfl, P3, shz, by rw [pm.length_eq]; omega, (U2'.same s3).d.t, fun H4 g4 => ?_⟩
    refine ⟨_, rfl, q, ys, rfl, party_same ((Sh1.Grows.of s3).trans g4).ext PQ2', hsy, by rw [pmy.length_eq]; omega, ((U2'.same s3).grows g4).d.t, fun H5' g5 => ⟨_, _, rfl, rfl, _, rfl, ?_⟩⟩
    have least := calm_min ndn so pm
    rw [decide_eq_false (by omega)]
    exact h0 _ ⟨((U2'.same s3).grows g4).grows g5, party_same (((Sh1.Grows.of s3).trans g4).trans g5).ext PQ2'⟩
  rintro σ HM ⟨o15, rfl, U4, PQ4⟩
  refine Shg.nx_of ?_
  -- two guests who stay equally long
  have S4 := U4.d
  clear U4 PQ4
  refine ⟨_, rfl, l, a, ns, 9, rfl, S4.d, by decide, by decide, fun va Ha a0 a1 ba da => ?_⟩
  have Sa := S4.draw ba da
  refine ⟨_, rfl, l, a, ns, 9, rfl, Sa.d, by decide, by decide, fun vb Hb b0 b1' bb db => ?_⟩
  have Sb := Sa.draw bb db
  refine ⟨_, rfl, l, a, ns, 9, rfl, Sb.d, by decide, by decide, fun vl Hl l0 l1 bl dl => ⟨_, _, rfl, rfl, _, _, _, rfl, Shg.nx_of ?_⟩⟩
  have Sl := Sb.draw bl dl
  have vE : Valid (eveOf (1 + vl) [("ann", va), ("bob", vb)]) := by
    refine ⟨by show 2 ≤ 24; decide, by show (["ann", "bob"] : List Str).Nodup; decide +kernel, fun z hz => ?_⟩
    have nA : okName "ann" = true := by decide +kernel
    have nB : okName "bob" = true := by decide +kernel
    have ok : ∀ {n : Str} {c : Int}, okName n = true → 0 ≤ c → c < 9 → okStay n c (c + (1 + vl)) = true := fun {n c} hn c0 c1 => by
      unfold okStay okTick
      rw [hn, decide_eq_true c0, decide_eq_true (by omega : c ≤ 1000000000), decide_eq_true (by omega : 0 ≤ c + (1 + vl)), decide_eq_true (by omega : c + (1 + vl) ≤ 1000000000), decide_eq_true (by omega : c < c + (1 + vl))]
      rfl
    rcases List.mem_cons.mp hz with rfl | hz
    · exact ok nA a0 a1
    · rw [List.mem_singleton.mp hz]
      exact ok nB b0 b1'
  have shE : Short (eveOf (1 + vl) [("ann", va), ("bob", vb)]) := fun z hz => by
    rcases List.mem_cons.mp hz with rfl | hz
    · exact ⟨by show Str.length "ann" ≤ 100000; decide +kernel, by show (Str.cps "ann").all (· < 0x110000) = true; decide +kernel⟩
    · rw [List.mem_singleton.mp hz]
      exact ⟨by show Str.length "bob" ≤ 100000; decide +kernel, by show (Str.cps "bob").all (· < 0x110000) = true; decide +kernel⟩
  refine Shg.asg_rel (fun v H' => ∃ e, v = .ref e ∧ Same Hl H' ∧ PartyAt C H' e (eveOf (1 + vl) [("ann", va), ("bob", vb)])) (fun R0 h0 => ?_) fun vE2 HE hE => ?_
  · refine ⟨rfl, _, rfl, _, rfl, _, rfl, rfl, rfl, fun d hd => ⟨1 + vl, d, [("ann", va), ("bob", vb)], rfl, upd_same, by show 2 ≤ 24; decide, shE, fun _ e H' s' he PE => ?_, fun i hi => ?_⟩⟩
    · exact h0 _ _ ⟨e, rfl, (Shg.same_upd hd).trans s', PE⟩
    · rw [valid_iff.mpr vE] at hi
      cases hi
  obtain ⟨e, rfl, sE, PE⟩ := hE
  have SE := Sl.same sE
  clear S4 Sa Sb Sl ba da bb db bl dl sE
  refine Shg.name_at ?_
  refine Shg.if_rel (fun H' => Same HE H') (fun R0 h0 => ?_) fun HF sF => ?_
  · obtain ⟨de, be, we, p1, p2, p3⟩ := id PE
    refine ⟨_, rfl, e, de, _, rfl, p1, e, de, _, .ref be, rfl, p1, lk_stays _, ?_⟩
    refine ⟨_, rfl, _, rfl, _, rfl, _, _, rfl, rfl, by show 3 ≤ sizeLine; decide, fun t1 h1 => ⟨_, rfl, _, rfl, _, rfl, _, _, rfl, rfl, by show 3 ≤ sizeLine; decide, fun t2 h2 => ⟨by show 2 ≤ sizeLine; decide, fun t3 h3 => ?_⟩⟩⟩
    have s1 := Shg.same_upd (o := .tup [.str "ann", .int va, .int (va + (1 + vl))]) h1
    have s2 := Shg.same_upd (o := .tup [.str "bob", .int vb, .int (vb + (1 + vl))]) h2
    have s3 := Shg.same_upd (o := .tup [.ref t1, .ref t2]) h3
    have e1 := s3 _ _ (s2 _ _ (upd_same (H := HE) (a := t1) (o := .tup [.str "ann", .int va, .int (va + (1 + vl))])))
    have e2 := s3 _ _ (upd_same (H := upd HE t1 (.tup [.str "ann", .int va, .int (va + (1 + vl))])) (a := t2) (o := .tup [.str "bob", .int vb, .int (vb + (1 + vl))]))
    have sA := s1.trans (s2.trans s3)
    have p3' : StaysV _ we (eveOf (1 + vl) [("ann", va), ("bob", vb)]) := Shg.pair_mono (fun _ _ ⟨t, q, ht⟩ => ⟨t, q, sA _ _ ht⟩) p3
    refine ⟨.tuple ((eveOf (1 + vl) [("ann", va), ("bob", vb)]).map stayD), .tuple ((eveOf (1 + vl) [("ann", va), ("bob", vb)]).map stayD), .tup (SqT.of (sA _ _ p2)) (dp_stays p3'), .tup (SqT.of upd_same) (.cons (.tup (SqT.of e1) (.cons (.str _) (.cons (.int _) (.cons (.int _) .nil)))) (.cons (.tup (SqT.of e2) (.cons (.str _) (.cons (.int _) (.cons (.int _) .nil)))) .nil)), shaped_tup shE, shaped_tup shE, _, rfl, ?_⟩
    rw [show PyData.eqv (.tuple ((eveOf (1 + vl) [("ann", va), ("bob", vb)]).map stayD)) (.tuple ((eveOf (1 + vl) [("ann", va), ("bob", vb)]).map stayD)) = true from (eqv_stays _ _).trans (decide_eq_true rfl)]
    exact h0 _ sA
  have PF := PartyAt.same sF PE
  have SF := SE.same sF
  clear PE SE
  refine Shg.if_rel1 (fun H' => Grows T HF H') (fun R0 h0 => ?_) fun HG gG => ⟨_, _, _, _, _, _, _, _, _, _, _, _, _, _, _, rfl, SF.grows gG⟩
  refine ⟨_, rfl, e, _, rfl, PF, shE, by show 2 ≤ 100; decide, SF.t, fun H7 g7 => ?_⟩
  have cnt : (crossed ((eveOf (1 + vl) [("ann", va), ("bob", vb)]).map rw3)).length = if (va < vb ∧ vb < va + (1 + vl)) ∨ (vb < va ∧ va < vb + (1 + vl)) then 1 else 0 := eve_count (a := va) (b := vb) (l := 1 + vl) (by omega) (n := "ann") (m := "bob") (by decide +kernel)
  refine ⟨_, rfl, _, rfl, _, _, rfl, rfl, _, rfl, _, _, rfl, rfl, _, rfl, ?_⟩
  rw [cnt]
  have fin : ∀ (n : Nat) (i : Int), (n : Int) = i → R0 (!decide (V.int (n : Int) = V.int i)) H7 := fun n i e => by
    rw [e, decide_eq_true rfl]
    exact h0 _ g7
  by_cases h1 : (0 : Int) < (if va - vb < 0 then -(va - vb) else va - vb)
  · rw [decide_eq_true h1]
    refine iteT ⟨_, rfl, _, _, rfl, rfl, .inr ⟨_, rfl, rfl, _, rfl, ?_⟩⟩
    refine fin _ _ ?_
    by_cases h2 : (if va - vb < 0 then -(va - vb) else va - vb) < 1 + vl
    · rw [decide_eq_true h2]
      have c : (va < vb ∧ vb < va + (1 + vl)) ∨ (vb < va ∧ va < vb + (1 + vl)) := by split at h2 <;> split at h1 <;> omega
      rw [if_pos c]
      rfl
    · rw [decide_eq_false h2]
      have c : ¬ ((va < vb ∧ vb < va + (1 + vl)) ∨ (vb < va ∧ va < vb + (1 + vl))) := by split at h2 <;> split at h1 <;> omega
      rw [if_neg c]
      rfl
  · rw [decide_eq_false h1]
    refine iteF (.inr ⟨_, rfl, rfl, _, rfl, ?_⟩)
    refine fin _ _ ?_
    have c : ¬ ((va < vb ∧ vb < va + (1 + vl)) ∨ (vb < va ∧ va < vb + (1 + vl))) := by split at h1 <;> omega
    rw [if_neg c]
    rfl
end
end Cm
set_option Elab.async false
set_option linter.all false
set_option maxRecDepth 100000
set_option maxHeartbeats 2000000
namespace Sh1
open PySem L2 Sho NdefX He Shh
section
variable {K : Shh.Fr}
def opB (K : Shh.Fr) (C : Addr) (op rop : Str) (T : String) : Bool := dunB K C op && (eqO (PySem.W.findIn K (.ref C) rop) (some none) && ((PySem.W.findIn K (.type T) op).isSome && ((PySem.W.findIn K (.type T) rop).isSome && decide (PySem.W.subIn K (.type T) (.ref C) = some false))))
theorem opB_ok {C : Addr} {op rop : Str} {T : String} (c : opB K C op rop T = true) : OpC K C op rop T (ma K C op) := by
  obtain ⟨c1, c⟩ := ba c
  obtain ⟨c2, c⟩ := ba c
  obtain ⟨c3, c⟩ := ba c
  obtain ⟨c4, c5⟩ := ba c
  have d := dunB_ok c1
  exact ⟨d.at_, d.isF, ⟨none, eqO_ok c2, .inl rfl⟩, Option.isSome_iff_exists.mp c3, Option.isSome_iff_exists.mp c4, of_decide_eq_true c5⟩
end
end Sh1
set_option Elab.async false
set_option linter.all false
set_option maxRecDepth 100000
set_option maxHeartbeats 4000000
/-! The head's facts of k03. -/
namespace Cm
open PySem L2 Sho NdefX He Shh Shg Sh1 Shd
abbrev dm (C m qual : Str) (st : Stmt) : Dn := ⟨fun K => ma K (ga K C) m, m, qual, st, fun _ => []⟩
abbrev dp (C m qual : Str) (st : Stmt) : Dn := ⟨fun K => getA K (ga K C) m, m, qual, st, fun _ => []⟩
abbrev dnE (x : Str) (qual : Str) (st : Stmt) : Dn := ⟨fun K => eInit K x, "__init__", qual, st, fun K => [(("__class__" : Str), cellA K (eInit K x))]⟩
theorem sblt {mg : Str → Option Value} (k : ∀ x, x ∈ bltNames → mg x = none) : Sh1.Blt mg := ⟨k _ (by simp), k _ (by simp), k _ (by simp), k _ (by simp), k _ (by simp), k _ (by simp), k _ (by simp), k _ (by simp), k _ (by simp), k _ (by simp), k _ (by simp)⟩
theorem ernO_ok {K : Shh.Fr} {mg : Str → Option Value} {x : Str} (gm : mg x = some (.ref (ga K x))) (c : ernB K x = true) : ErrO K mg x (ga K x) := by
  obtain ⟨c1, c⟩ := ba c
  obtain ⟨c2, c⟩ := ba c
  obtain ⟨c3, c⟩ := ba c
  obtain ⟨c4, c5⟩ := ba c
  exact ⟨c1, gm, c2, of_decide_eq_true c3, of_decide_eq_true c4, of_decide_eq_true c5⟩
theorem all_of {α : Type} (P : α → Prop) : ∀ {l : List α}, (∀ i : Nat, ∀ a, l[i]? = some a → P a) → ∀ x ∈ l, P x := fun h x hx => by
  obtain ⟨i, hi⟩ := List.getElem?_of_mem hx
  exact h i x hi
theorem errC_InvalidStay {K : Shh.Fr} {mg : Str → Option Value} {P : Program} (E : ErrF "/claim/cut.py" K "InvalidStay" "index") (D : FunF K "__init__" "InvalidStay.__init__" sInvInit [(("__class__" : Str), cellA K (eInit K "InvalidStay"))] (eInit K "InvalidStay")) (hf : P.main.file = "/claim/cut.py") (sup : mg "super" = none)
    (h2 : (P.main.scope.names.lookup ("super" : Str)).isSome = false) (gm : mg "InvalidStay" = some (.ref (ga K "InvalidStay"))) : ErrC P K mg "InvalidStay" "index" nfInv (ga K "InvalidStay") :=
  ⟨⟨_, _, _, err_txt E D hf sup ⟨_, rfl, rfl⟩ h2 (by decide +kernel) (by decide +kernel) (by decide +kernel), E.ini, E.ity⟩, E.sup, E.xf, E.no, gm, E.exm⟩
theorem errC_UnknownGuest {K : Shh.Fr} {mg : Str → Option Value} {P : Program} (E : ErrF "/claim/cut.py" K "UnknownGuest" "name") (D : FunF K "__init__" "UnknownGuest.__init__" sUnkInit [(("__class__" : Str), cellA K (eInit K "UnknownGuest"))] (eInit K "UnknownGuest")) (hf : P.main.file = "/claim/cut.py") (sup : mg "super" = none)
    (h2 : (P.main.scope.names.lookup ("super" : Str)).isSome = false) (gm : mg "UnknownGuest" = some (.ref (ga K "UnknownGuest"))) : ErrC P K mg "UnknownGuest" "name" nfUnk (ga K "UnknownGuest") :=
  ⟨⟨_, _, _, err_txt E D hf sup ⟨_, rfl, rfl⟩ h2 (by decide +kernel) (by decide +kernel) (by decide +kernel), E.ini, E.ity⟩, E.sup, E.xf, E.no, gm, E.exm⟩
theorem funS03 {K : Shh.Fr} {x qual : Str} {st : Stmt} {f : Addr} (F : FunF K x qual st [] f) : FunS K x qual st f := by
  obtain ⟨oc, od, doc, pm, an, ct, osl, lk, hcd⟩ := F.ex
  exact ⟨oc, od, doc, pm, an, _, ct, osl, lk, hcd⟩
abbrev dr (C m qual : Str) (st : Stmt) : Dn := ⟨fun K => He5.wf K (ga K C) "classmethod" m, m, qual, st, fun _ => []⟩
abbrev glo03 : List Str := "is_name" :: "is_within" :: "is_tick" :: "is_stay" :: "lifted_from" :: "_check_stays" :: "all_lifting" :: "change_without" :: "_law_start" :: "_law_drawn" :: "_law_same" :: "_law_rows" :: "_law_party" :: "_law_played" :: "_law_counts" :: "_law_mixed" :: "InvalidStay" :: "UnknownGuest" :: "Party" :: "bottom_up" :: "calmest_order" :: "law" :: []
abbrev keep03 : List Str := ["is_name", "is_within", "is_tick", "is_stay", "lifted_from", "_check_stays", "all_lifting", "change_without", "_law_start", "_law_drawn", "_law_same", "_law_rows", "_law_party", "_law_played", "_law_counts", "_law_mixed", "bottom_up", "calmest_order", "law"]
def fn03 : List Dn := [Shd.dn "is_name" sIsName, Shd.dn "is_within" sIsWithin, Shd.dn "is_tick" sIsTick, Shd.dn "is_stay" sIsStay, Shd.dn "lifted_from" sLiftedFrom, Shd.dn "_check_stays" sCheck, Shd.dn "all_lifting" sAllLifting, Shd.dn "change_without" sChange, Shd.dn "_law_start" sStart, Shd.dn "_law_drawn" sDrawn, Shd.dn "_law_same" sSame, Shd.dn "_law_rows" sRows, Shd.dn "_law_party" sLawParty, Shd.dn "_law_played" sLawPlayed, Shd.dn "_law_counts" sLawCounts, Shd.dn "_law_mixed" sLawMixed, dnE "InvalidStay" "InvalidStay.__init__" sInvInit, dnE "UnknownGuest" "UnknownGuest.__init__" sUnkInit, dm "Party" "__init__" "Party.__init__" sPInit, dm "Party" "__add__" "Party.__add__" sPAdd, dm "Party" "__sub__" "Party.__sub__" sPSub, dm "Party" "__call__" "Party.__call__" sPCall, dm "Party" "_stay_of" "Party._stay_of" sPStayOf, dp "Party" "names" "Party.names" sPNames, dp "Party" "stays" "Party.stays" sPStays, dr "Party" "evening" "Party.evening" sPEvening, Shd.dn "bottom_up" sBottomUp, dm "Party" "crossings" "Party.crossings" sPCross, Shd.dn "calmest_order" sCalmest, Shd.dn "law" sLaw]
def fa03 : List (Shh.Fr → Bool) := [fun K => gloB K glo03, fun K => freeB K bltNames, fun K => keepB K keep03, fun K => decide (Shd.tabA K "bottom_up" ≠ tabOf K (codeA K (ma K (ga K "Party") "crossings"))), fun K => decide (Shd.tabA K "bottom_up" ≠ Shd.tabA K "calmest_order"), fun K => decide (tabOf K (codeA K (ma K (ga K "Party") "crossings")) ≠ Shd.tabA K "calmest_order"), fun K => (Fa.int "LONGEST_NAME" 8).ok K, fun K => (Fa.int "LAST_TICK" 1000000000).ok K, fun K => errB "/claim/cut.py" K "InvalidStay" "index", fun K => errB "/claim/cut.py" K "UnknownGuest" "name", fun K => partyB K (ga K "Party"), fun K => dunB K (ga K "Party") "__init__", fun K => dunB K (ga K "Party") "__add__", fun K => dunB K (ga K "Party") "__sub__", fun K => dunB K (ga K "Party") "__call__", fun K => (Fa.meth "Party" "_stay_of").ok K, fun K => propB K (ga K "Party") "names", fun K => PySem.W.keepIn K (.ref (getA K (ga K "Party") "names")), fun K => propB K (ga K "Party") "stays", fun K => PySem.W.keepIn K (.ref (getA K (ga K "Party") "stays")), fun K => (Fa.meth "Party" "crossings").ok K, fun K => opB K (ga K "Party") "__sub__" "__rsub__" "str", fun K => freeB K ["abs"], fun K => He5.wrapB K (ga K "Party") "classmethod" "classmethod.__get__" "evening" && PySem.W.fnIn K (He5.wf K (ga K "Party") "classmethod" "evening"), fun K => PySem.W.readsIn K (ga K "Party") (.type "type") && eqO (PySem.W.specialIn K (.ref (ga K "Party")) "__getattribute__") (some (some (.builtin "type.__getattribute__")))]
def tf03 : List (Shh.Fr → Addr) := [fun K => ga K "bottom_up", fun K => ma K (ga K "Party") "crossings", fun K => ga K "calmest_order"]
abbrev T03 (K : Shh.Fr) : List (Addr × Str) := [(Shd.tabA K "bottom_up", qBot), (tabOf K (codeA K (ma K (ga K "Party") "crossings")), qCross), (Shd.tabA K "calmest_order", qCalm)]
abbrev cs03 (K : Shh.Fr) : List (Addr × Addr) := [(codeA K (ga K "bottom_up"), Shd.tabA K "bottom_up"), (codeA K (ma K (ga K "Party") "crossings"), tabOf K (codeA K (ma K (ga K "Party") "crossings"))), (codeA K (ga K "calmest_order"), Shd.tabA K "calmest_order")]
theorem facts03 {P : Program} {w : World} {K : Shh.Fr} {h : Heap} {mg : Str → Option Value} (X : K.In h) (G : h.Ns mainGlobals mg) (c : SaysS fa03 fn03 tf03 h K) (hf : P.main.file = "/claim/cut.py") (hs : (P.main.scope.names.lookup ("super" : Str)).isSome = false) :
    ∃ fd : FuncData, (∀ (s : Shared) (v : Value), BindsTo s fd ⟨[v], []⟩ [("_law_script", v)]) ∧ ∀ base : Heap, (∀ p ∈ cs03 K, LamX.TabB base mg p.1 p.2) → FnOk P w K mg base (L2.CX P w) 13 (ga K "law") fd ["_law_script"] (spLaw03 K (T03 K)) := by
  have B := Shd.blt_ok X G (c.fact 1)
  have B1 : Sh1.Blt mg := sblt fun x hx => freeB_ok X G (c.fact 1) hx
  have g : ∀ x, x ∈ glo03 → mg x = some (.ref (ga K x)) := fun x hx => gloB_ok X G (c.fact 0) hx
  have kp : ∀ x, x ∈ keep03 → PySem.W.keepIn K (.ref (ga K x)) = true := fun x hx => keepB_ok (c.fact 2) hx
  obtain ⟨tg8, g8⟩ := int_ok X G (x := "LONGEST_NAME") (i := 8) (c.fact 6)
  obtain ⟨tg9, g9⟩ := int_ok X G (x := "LAST_TICK") (i := 1000000000) (c.fact 7)
  have ECI : ErrC P K mg "InvalidStay" "index" nfInv (ga K "InvalidStay") := errC_InvalidStay (errB_ok (K := K) (file := "/claim/cut.py") (x := "InvalidStay") (fld := "index") (c.fact 8)) (c.def_ 16 (d := dnE "InvalidStay" "InvalidStay.__init__" sInvInit)) hf B.sup hs (g "InvalidStay" (by simp))
  have ECU : ErrC P K mg "UnknownGuest" "name" nfUnk (ga K "UnknownGuest") := errC_UnknownGuest (errB_ok (K := K) (file := "/claim/cut.py") (x := "UnknownGuest") (fld := "name") (c.fact 9)) (c.def_ 17 (d := dnE "UnknownGuest" "UnknownGuest.__init__" sUnkInit)) hf B.sup hs (g "UnknownGuest" (by simp))
  have PF := partyB_ok (K := K) (g "Party" (by simp)) (c.fact 10)
  have dPI : DunF K (ga K "Party") "__init__" := dunB_ok (c.fact 11)
  have DPI := c.def_ 18 (d := dm "Party" "__init__" "Party.__init__" sPInit)
  have dPA : DunF K (ga K "Party") "__add__" := dunB_ok (c.fact 12)
  have DPA := c.def_ 19 (d := dm "Party" "__add__" "Party.__add__" sPAdd)
  obtain ⟨fdPA, FPA, bPA, _⟩ := FunF.funW DPA dPA.kp
  have bPA := bPA ["self", "other"] (fun _ _ _ _ _ _ us hl => match us, hl with | [_, _], _ => rfl)
  have dPS : DunF K (ga K "Party") "__sub__" := dunB_ok (c.fact 13)
  have DPS := c.def_ 20 (d := dm "Party" "__sub__" "Party.__sub__" sPSub)
  obtain ⟨fdPS, FPS, bPS, _⟩ := FunF.funW DPS dPS.kp
  have bPS := bPS ["self", "name"] (fun _ _ _ _ _ _ us hl => match us, hl with | [_, _], _ => rfl)
  have dPC : DunF K (ga K "Party") "__call__" := dunB_ok (c.fact 14)
  have DPC := c.def_ 21 (d := dm "Party" "__call__" "Party.__call__" sPCall)
  obtain ⟨fdPC, FPC, bPC, _⟩ := FunF.funW DPC dPC.kp
  have bPC := bPC ["self", "name"] (fun _ _ _ _ _ _ us hl => match us, hl with | [_, _], _ => rfl)
  have MSO : Meth K (ga K "Party") "_stay_of" (ma K (ga K "Party") "_stay_of") := meth_ok (c.fact 15)
  obtain ⟨fdSO, FSO, bSO, _⟩ := FunF.funW (c.def_ 22 (d := dm "Party" "_stay_of" "Party._stay_of" sPStayOf)) MSO.kp
  have bSO := bSO ["self", "name"] (fun _ _ _ _ _ _ us hl => match us, hl with | [_, _], _ => rfl)
  have PNM : PropOf K (ga K "Party") "names" (ma K (ga K "Party") "names") (getA K (ga K "Party") "names") := propB_ok (c.fact 16)
  have PNMk : PySem.W.keepIn K (.ref (getA K (ga K "Party") "names")) = true := c.fact 17
  obtain ⟨fdNM, FNM, bNM, _⟩ := FunF.funW (c.def_ 23 (d := dp "Party" "names" "Party.names" sPNames)) PNMk
  have bNM := bNM ["self"] (fun _ _ _ _ _ _ us hl => match us, hl with | [_], _ => rfl)
  have PST : PropOf K (ga K "Party") "stays" (ma K (ga K "Party") "stays") (getA K (ga K "Party") "stays") := propB_ok (c.fact 18)
  have PSTk : PySem.W.keepIn K (.ref (getA K (ga K "Party") "stays")) = true := c.fact 19
  obtain ⟨fdST, FST, bST, _⟩ := FunF.funW (c.def_ 24 (d := dp "Party" "stays" "Party.stays" sPStays)) PSTk
  have bST := bST ["self"] (fun _ _ _ _ _ _ us hl => match us, hl with | [_], _ => rfl)
  have MX : Meth K (ga K "Party") "crossings" (ma K (ga K "Party") "crossings") := meth_ok (c.fact 20)
  have OS := opB_ok (K := K) (C := ga K "Party") (op := "__sub__") (rop := "__rsub__") (T := "str") (c.fact 21)
  have mAbs : mg "abs" = none := freeB_ok X G (c.fact 22) (by simp)
  have CM : ClX.CMet K (ga K "Party") (.type "type") "evening" (ma K (ga K "Party") "evening") (He5.wf K (ga K "Party") "classmethod" "evening") := by
    obtain ⟨r1, r2⟩ := ba (c.fact 23)
    exact He5.cmet_of r1 r2
  have CR : ClX.CRead K (ga K "Party") (.type "type") := by
    obtain ⟨r1, r2⟩ := ba (c.fact 24)
    exact ⟨r1, eqO_ok r2⟩
  have DEV := c.def_ 25 (d := dr "Party" "evening" "Party.evening" sPEvening)
  obtain ⟨fd_0, F_0, b_0, _⟩ := FunF.funW (c.def_ 0 (d := Shd.dn "is_name" sIsName)) (kp "is_name" (by simp))
  have b_0 := b_0 ["word"] (fun _ _ _ _ _ _ us hl => match us, hl with | [_], _ => rfl)
  have m_0 := g "is_name" (by simp)
  have k_0 := kp "is_name" (by simp)
  obtain ⟨fd_1, F_1, b_1, _⟩ := FunF.funW (c.def_ 1 (d := Shd.dn "is_within" sIsWithin)) (kp "is_within" (by simp))
  have b_1 := b_1 ["number", "low", "high"] (fun _ _ _ _ _ _ us hl => match us, hl with | [_, _, _], _ => rfl)
  have m_1 := g "is_within" (by simp)
  have k_1 := kp "is_within" (by simp)
  obtain ⟨fd_2, F_2, b_2, _⟩ := FunF.funW (c.def_ 2 (d := Shd.dn "is_tick" sIsTick)) (kp "is_tick" (by simp))
  have b_2 := b_2 ["number"] (fun _ _ _ _ _ _ us hl => match us, hl with | [_], _ => rfl)
  have m_2 := g "is_tick" (by simp)
  have k_2 := kp "is_tick" (by simp)
  obtain ⟨fd_3, F_3, b_3, _⟩ := FunF.funW (c.def_ 3 (d := Shd.dn "is_stay" sIsStay)) (kp "is_stay" (by simp))
  have b_3 := b_3 ["name", "come", "go"] (fun _ _ _ _ _ _ us hl => match us, hl with | [_, _, _], _ => rfl)
  have m_3 := g "is_stay" (by simp)
  have k_3 := kp "is_stay" (by simp)
  obtain ⟨fd_4, F_4, b_4, _⟩ := FunF.funW (c.def_ 4 (d := Shd.dn "lifted_from" sLiftedFrom)) (kp "lifted_from" (by simp))
  have b_4 := b_4 ["stays", "taker"] (fun _ _ _ _ _ _ us hl => match us, hl with | [_, _], _ => rfl)
  have m_4 := g "lifted_from" (by simp)
  have k_4 := kp "lifted_from" (by simp)
  obtain ⟨fd_5, F_5, b_5, _⟩ := FunF.funW (c.def_ 5 (d := Shd.dn "_check_stays" sCheck)) (kp "_check_stays" (by simp))
  have b_5 := b_5 ["stays", "most"] (fun _ _ _ _ _ _ us hl => match us, hl with | [_, _], _ => rfl)
  have m_5 := g "_check_stays" (by simp)
  have k_5 := kp "_check_stays" (by simp)
  obtain ⟨fd_6, F_6, b_6, _⟩ := FunF.funW (c.def_ 6 (d := Shd.dn "all_lifting" sAllLifting)) (kp "all_lifting" (by simp))
  have b_6 := b_6 ["party"] (fun _ _ _ _ _ _ us hl => match us, hl with | [_], _ => rfl)
  have m_6 := g "all_lifting" (by simp)
  have k_6 := kp "all_lifting" (by simp)
  obtain ⟨fd_7, F_7, b_7, _⟩ := FunF.funW (c.def_ 7 (d := Shd.dn "change_without" sChange)) (kp "change_without" (by simp))
  have b_7 := b_7 ["party", "name"] (fun _ _ _ _ _ _ us hl => match us, hl with | [_, _], _ => rfl)
  have m_7 := g "change_without" (by simp)
  have k_7 := kp "change_without" (by simp)
  obtain ⟨fd_8, F_8, b_8, _⟩ := FunF.funW (c.def_ 8 (d := Shd.dn "_law_start" sStart)) (kp "_law_start" (by simp))
  have b_8 := b_8 ["_law_script"] (fun _ _ _ _ _ _ us hl => match us, hl with | [_], _ => rfl)
  have m_8 := g "_law_start" (by simp)
  have k_8 := kp "_law_start" (by simp)
  obtain ⟨fd_9, F_9, b_9, _⟩ := FunF.funW (c.def_ 9 (d := Shd.dn "_law_drawn" sDrawn)) (kp "_law_drawn" (by simp))
  have b_9 := b_9 ["_law_state", "_law_count"] (fun _ _ _ _ _ _ us hl => match us, hl with | [_, _], _ => rfl)
  have m_9 := g "_law_drawn" (by simp)
  have k_9 := kp "_law_drawn" (by simp)
  obtain ⟨fd_10, F_10, b_10, _⟩ := FunF.funW (c.def_ 10 (d := Shd.dn "_law_same" sSame)) (kp "_law_same" (by simp))
  have b_10 := b_10 ["_law_result", "_law_expected"] (fun _ _ _ _ _ _ us hl => match us, hl with | [_, _], _ => rfl)
  have m_10 := g "_law_same" (by simp)
  have k_10 := kp "_law_same" (by simp)
  obtain ⟨fd_11, F_11, b_11, _⟩ := FunF.funW (c.def_ 11 (d := Shd.dn "_law_rows" sRows)) (kp "_law_rows" (by simp))
  have b_11 := b_11 ["_law_state", "_law_most", "_law_high"] (fun _ _ _ _ _ _ us hl => match us, hl with | [_, _, _], _ => rfl)
  have m_11 := g "_law_rows" (by simp)
  have k_11 := kp "_law_rows" (by simp)
  obtain ⟨fd_12, F_12, b_12, _⟩ := FunF.funW (c.def_ 12 (d := Shd.dn "_law_party" sLawParty)) (kp "_law_party" (by simp))
  have b_12 := b_12 ["_law_rows_here"] (fun _ _ _ _ _ _ us hl => match us, hl with | [_], _ => rfl)
  have m_12 := g "_law_party" (by simp)
  have k_12 := kp "_law_party" (by simp)
  obtain ⟨fd_13, F_13, b_13, _⟩ := FunF.funW (c.def_ 13 (d := Shd.dn "_law_played" sLawPlayed)) (kp "_law_played" (by simp))
  have b_13 := b_13 ["_law_rows_here"] (fun _ _ _ _ _ _ us hl => match us, hl with | [_], _ => rfl)
  have m_13 := g "_law_played" (by simp)
  have k_13 := kp "_law_played" (by simp)
  obtain ⟨fd_14, F_14, b_14, _⟩ := FunF.funW (c.def_ 14 (d := Shd.dn "_law_counts" sLawCounts)) (kp "_law_counts" (by simp))
  have b_14 := b_14 ["_law_rows_here"] (fun _ _ _ _ _ _ us hl => match us, hl with | [_], _ => rfl)
  have m_14 := g "_law_counts" (by simp)
  have k_14 := kp "_law_counts" (by simp)
  obtain ⟨fd_15, F_15, b_15, _⟩ := FunF.funW (c.def_ 15 (d := Shd.dn "_law_mixed" sLawMixed)) (kp "_law_mixed" (by simp))
  have b_15 := b_15 ["_law_state", "_law_rows_here"] (fun _ _ _ _ _ _ us hl => match us, hl with | [_, _], _ => rfl)
  have m_15 := g "_law_mixed" (by simp)
  have k_15 := kp "_law_mixed" (by simp)
  have ne01 : Shd.tabA K "bottom_up" ≠ tabOf K (codeA K (ma K (ga K "Party") "crossings")) := of_decide_eq_true (c.fact 3)
  have ne02 : Shd.tabA K "bottom_up" ≠ Shd.tabA K "calmest_order" := of_decide_eq_true (c.fact 4)
  have ne12 : tabOf K (codeA K (ma K (ga K "Party") "crossings")) ≠ Shd.tabA K "calmest_order" := of_decide_eq_true (c.fact 5)
  obtain ⟨fdT0, FT0, bT0, _⟩ := FunF.funL9 (c.def_ 26 (d := Shd.dn "bottom_up" sBottomUp))
  have bT0 := bT0 ["stays"] (fun _ _ _ _ _ _ us hl => match us, hl with | [_], _ => rfl)
  have mT0 := g "bottom_up" (by simp)
  have kT0 := kp "bottom_up" (by simp)
  obtain ⟨fdT1, FT1, bT1, _⟩ := FunF.funL9 (c.def_ 27 (d := dm "Party" "crossings" "Party.crossings" sPCross))
  have bT1 := bT1 ["self"] (fun _ _ _ _ _ _ us hl => match us, hl with | [_], _ => rfl)
  obtain ⟨fdT2, FT2, bT2, _⟩ := FunF.funL9 (c.def_ 28 (d := Shd.dn "calmest_order" sCalmest))
  have bT2 := bT2 ["party"] (fun _ _ _ _ _ _ us hl => match us, hl with | [_], _ => rfl)
  have mT2 := g "calmest_order" (by simp)
  have kT2 := kp "calmest_order" (by simp)
  obtain ⟨fdL, FL, _, bL⟩ := FunF.funW (c.def_ 29 (d := Shd.dn "law" sLaw)) (kp "law" (by simp))
  refine ⟨fdL, fun s v => bL ["_law_script"] (fun _ _ _ _ _ _ us hl => match us, hl with | [_], _ => rfl) s [v] rfl, fun base hT => ?_⟩
  have TT0 : LamX.TabB base mg (codeA K (ga K "bottom_up")) (Shd.tabA K "bottom_up") := hT (codeA K (ga K "bottom_up"), Shd.tabA K "bottom_up") (by simp)
  have hT0 : (Shd.tabA K "bottom_up", qBot) ∈ T03 K := by simp
  have uT0 : ∀ p ∈ T03 K, p.1 = Shd.tabA K "bottom_up" → p.2 = qBot := fun p hp e => by
    rcases List.mem_cons.mp hp with rfl | hp
    · rfl
    rcases List.mem_cons.mp hp with rfl | hp
    · exact absurd e.symm ne01
    rcases List.mem_cons.mp hp with rfl | hp
    · exact absurd e.symm ne02
    cases hp
  have TT1 : LamX.TabB base mg (codeA K (ma K (ga K "Party") "crossings")) (tabOf K (codeA K (ma K (ga K "Party") "crossings"))) := hT (codeA K (ma K (ga K "Party") "crossings"), tabOf K (codeA K (ma K (ga K "Party") "crossings"))) (by simp)
  have hT1 : (tabOf K (codeA K (ma K (ga K "Party") "crossings")), qCross) ∈ T03 K := by simp
  have uT1 : ∀ p ∈ T03 K, p.1 = tabOf K (codeA K (ma K (ga K "Party") "crossings")) → p.2 = qCross := fun p hp e => by
    rcases List.mem_cons.mp hp with rfl | hp
    · exact absurd e ne01
    rcases List.mem_cons.mp hp with rfl | hp
    · rfl
    rcases List.mem_cons.mp hp with rfl | hp
    · exact absurd e.symm ne12
    cases hp
  have TT2 : LamX.TabB base mg (codeA K (ga K "calmest_order")) (Shd.tabA K "calmest_order") := hT (codeA K (ga K "calmest_order"), Shd.tabA K "calmest_order") (by simp)
  have hT2 : (Shd.tabA K "calmest_order", qCalm) ∈ T03 K := by simp
  have uT2 : ∀ p ∈ T03 K, p.1 = Shd.tabA K "calmest_order" → p.2 = qCalm := fun p hp e => by
    rcases List.mem_cons.mp hp with rfl | hp
    · exact absurd e ne02
    rcases List.mem_cons.mp hp with rfl | hp
    · exact absurd e ne12
    rcases List.mem_cons.mp hp with rfl | hp
    · rfl
    cases hp
  have M : Mk K (ga K "Party") (ma K (ga K "Party") "__init__") := dPI.mkr PF.makes PF.kp
  have G_0 : FnOk P w K mg base CX0 1 _ _ _ _ := ok_isName F_0 B1 g8
  have G_1 : FnOk P w K mg base CX0 1 _ _ _ _ := Sh1.ok_isWithin F_1 B1
  have G_2 : FnOk P w K mg base CX0 2 _ _ _ _ := ok_isTick F_2 g9 G_1 m_1 k_1 b_1
  have G_3 : FnOk P w K mg base CX0 3 _ _ _ _ := ok_isStay F_3 G_0 m_0 k_0 b_0 G_2 m_2 k_2 b_2
  have G_5 : FnOk P w K mg base (L2.CX P w) 4 _ _ _ _ := ok_check F_5 B1 ECI G_3 m_3 k_3 b_3
  have GI : FnR P w K mg base (L2.CX P w) 5 _ (spPNew (ga K "Party") (ga K "InvalidStay")) := ok_pinit (funS03 DPI) PF.pc G_5 m_5 k_5 b_5
  have GEV := fn_eve (funS03 DEV) M GI
  have GB : FnOk P w K mg base CX0 5 _ _ _ _ := ok_bottom (T := T03 K) FT0 B TT0 hT0 uT0
  have G_4 : FnOk P w K mg base CX0 6 _ _ _ _ := ok_lifted (T := T03 K) F_4 GB mT0 kT0 bT0
  have GX : GFn P w K mg base 8 _ _ _ _ := ok_cross (T := T03 K) FT1 B PF.pc TT1 hT1 uT1 GB mT0 kT0 bT0 G_4 m_4 k_4 b_4
  have G_6 : FnOk P w K mg base (L2.CX P w) 12 _ _ _ _ := ok_all (T := T03 K) F_6 B PF.pc GX MX bT1
  have GNM : FnOk P w K mg base CX0 1 _ _ _ _ := ok_pnames FNM B1 PF.pc
  have GST : FnOk P w K mg base CX0 1 _ _ _ _ := ok_pstays FST PF.pc
  have GSO : FnOk P w K mg base (L2.CX P w) 3 _ _ _ _ := ok_stayOf FSO PF.pc ECU
  have GSub : FnOk P w K mg base (L2.CX P w) 7 _ _ _ _ := ok_psub FPS PF.pc GSO MSO bSO M GI
  have GC : FnOk P w K mg base (L2.CX P w) 8 _ _ _ _ := ok_callP (T := T03 K) FPC B PF.pc GSO MSO bSO G_4 m_4 k_4 b_4
  have G_7 : FnOk P w K mg base (L2.CX P w) 9 _ _ _ _ := ok_changeX (T := T03 K) F_7 B PF.pc PF.self OS GSub bPS GC dPC.callO bPC GNM PNM bNM
  have GCalm : FnOk P w K mg base (L2.CX P w) 7 _ _ _ _ := ok_calm (T := T03 K) FT2 B PF.pc TT2 hT2 uT2 M GI GST PST bST
  have GA : FnOk P w K mg base (L2.CX P w) 7 _ _ _ _ := ok_padd FPA PF.pc M GI
  have G_9 : FnOk P w K mg base CX0 1 _ _ _ _ := ok_drawn F_9 B1
  have G_8 : FnOk P w K mg base CX0 1 _ _ _ _ := ok_start F_8
  have G_10 := fun n => Smm.ok_same (P := P) (w := w) (base := base) F_10 B m_10 b_10 n
  have G_11 : FnOk P w K mg base CX0 2 _ _ _ _ := ok_rows F_11 B1 G_9 m_9 k_9 b_9
  have G_12 : FnOk P w K mg base (L2.CX P w) 8 _ _ _ _ := ok_party F_12 PF.pc M GI PF.self dPA.at_ dPA.isF GA bPA
  have G_13 : FnOk P w K mg base CX0 1 _ _ _ _ := Pq.ok_played F_13 B
  have G_14 : FnOk P w K mg base CX0 2 _ _ _ _ := ok_counts F_14 B G_13 m_13 k_13 b_13
  have G_15 : FnOk P w K mg base CX0 2 _ _ _ _ := ok_mixed (T := T03 K) F_15 B G_9 m_9 k_9 b_9
  exact ok_law03 (C := (ga K "Party")) (CI := ga K "InvalidStay") FL ⟨B, PF.pc, mAbs, ⟨_, _, G_8, m_8, k_8, b_8⟩, ⟨_, _, G_9, m_9, k_9, b_9⟩, ⟨_, _, G_11, m_11, k_11, b_11⟩, ⟨_, _, G_12, m_12, k_12, b_12⟩, ⟨_, _, G_14, m_14, k_14, b_14⟩, ⟨_, _, G_15, m_15, k_15, b_15⟩, ⟨_, _, G_10, m_10, k_10, b_10⟩, ⟨_, _, G_7, m_7, k_7, b_7⟩, ⟨_, _, GCalm, mT2, kT2, bT2⟩, ⟨_, _, G_6, m_6, k_6, b_6⟩, ⟨_, _, _, GST, PST, bST⟩, ⟨_, _, CR, CM, GEV⟩⟩
end Cm
set_option Elab.async false
set_option linter.all false
set_option maxRecDepth 100000
set_option maxHeartbeats 0
namespace Cm
open PySem PySem.Spec PyProof.Rows L2 Sho He Shh Shd
abbrev R03 : PySem.W.OpenRow := PySem.W.OpenLaw.row PySem.Challenge.rw_shoepile_k03_one_guest_less
abbrev hk03 : PySem.W.Hook := hookS 6 fa03 fn03 tf03
def ob03 (s : PySem.W.SharedT) : Shh.AlS := obsS 6 fa03 fn03 tf03 (HandSHeadRun.getT s)
theorem ob03_eq (s : PySem.W.SharedT) : ob03 s = hk03.obs s.abs := obsS_eq (HandSHeadRun.getT_eq s)
def looseA : List Str := ["_wall", "PartyError", "InvalidStay", "UnknownGuest", "LAST_TICK", "LONGEST_NAME", "is_name", "is_within", "is_tick", "is_stay", "bottom_up", "lifted_from"]
def looseB : List Str := ["_check_stays", "Party", "all_lifting", "change_without", "calmest_order", "_law_start", "_law_drawn", "_law_same", "_law_rows", "_law_party", "_law_played", "_law_counts", "_law_mixed"]
def loose03 : List Str := looseA ++ looseB
theorem run03 (w : World) : HandSHeadRun.RunEq R03 (PySem.W.view R03.prog [29]) hk03 ob03 20000 loose03 w := by
  intro os
  kernel_rfl
theorem at03 {w : World} {K : Shh.Fr} {h : Heap} {mg : Str → Option Value} {fa : Addr} (KX : K.In h) (G : h.Ns mainGlobals mg) (c : SaysS fa03 fn03 tf03 h K) (hmg : mg "law" = some (.ref fa)) :
    LamX.LawAtS PySem.Challenge.rw_shoepile_k03_one_guest_less w K (L2.CX PySem.Challenge.rw_shoepile_k03_one_guest_less.prog w) 13 63 "_law_script" mg fa h := by
  obtain ⟨fd, hb, hF⟩ := facts03 (P := PySem.Challenge.rw_shoepile_k03_one_guest_less.prog) (w := w) KX G c rfl (by decide +kernel)
  have e : fa = ga K "law" := by
    have q := hmg.symm.trans (gloB_ok KX G (xs := glo03) (c.fact 0) (x := "law") (by simp))
    injection q with q
    injection q
  subst e
  have t0 : (fun K => ga K "bottom_up") ∈ tf03 := List.mem_cons_self
  have t1 : (fun K => ma K (ga K "Party") "crossings") ∈ tf03 := List.mem_cons_of_mem _ (List.mem_cons_self)
  have t2 : (fun K => ga K "calmest_order") ∈ tf03 := List.mem_cons_of_mem _ (List.mem_cons_of_mem _ (List.mem_cons_self))
  refine ⟨fd, cs03 K, spLaw03 K (T03 K), ?_, ?_, ?_, hb, fun H a ns hl _ ht hS => ?_, fun base _ _ hT => hF base hT⟩
  · exact fun p hp => by
      rcases List.mem_cons.mp hp with rfl | hp
      · exact c.empty _ t0
      rcases List.mem_cons.mp hp with rfl | hp
      · exact c.empty _ t1
      rcases List.mem_cons.mp hp with rfl | hp
      · exact c.empty _ t2
      cases hp
  · exact fun p hp => by
      rcases List.mem_cons.mp hp with rfl | hp
      · exact c.out _ t0
      rcases List.mem_cons.mp hp with rfl | hp
      · exact c.out _ t1
      rcases List.mem_cons.mp hp with rfl | hp
      · exact c.out _ t2
      cases hp
  · exact fun p hp => by
      rcases List.mem_cons.mp hp with rfl | hp
      · exact PySem.W.codeHd_of_K KX (c.hd _ t0)
      rcases List.mem_cons.mp hp with rfl | hp
      · exact PySem.W.codeHd_of_K KX (c.hd _ t1)
      rcases List.mem_cons.mp hp with rfl | hp
      · exact PySem.W.codeHd_of_K KX (c.hd _ t2)
      cases hp
  · refine ⟨a, ns, rfl, hS, hl, ?_, fun _ => rfl⟩
    exact fun p hp => by
      rcases List.mem_cons.mp hp with rfl | hp
      · exact LamX.TabS.nil (ht _ List.mem_cons_self)
      rcases List.mem_cons.mp hp with rfl | hp
      · exact LamX.TabS.nil (ht _ (List.mem_cons_of_mem _ List.mem_cons_self))
      rcases List.mem_cons.mp hp with rfl | hp
      · exact LamX.TabS.nil (ht _ (List.mem_cons_of_mem _ (List.mem_cons_of_mem _ List.mem_cons_self)))
      cases hp
end Cm
open PySem PySem.W PySem.Calls PyProof.Rows
theorem PySem.Challenge.cw_shoepile_k03_one_guest_less_holds : PySem.Challenge.rw_shoepile_k03_one_guest_less.Holds := by
  w_on; o_law
  refine HandSHeadRun.head_any (r := OpenLaw.row PySem.Challenge.rw_shoepile_k03_one_guest_less) (q := view (OpenLaw.row PySem.Challenge.rw_shoepile_k03_one_guest_less).prog [29]) (H := Cm.hk03) (ob := Cm.ob03) (M := 20000) (loose := Cm.loose03) (d := HandSHeadRun.topDef (OpenLaw.row PySem.Challenge.rw_shoepile_k03_one_guest_less).prog 29) (kwd := []) Cm.ob03_eq
    (by kernel_rfl) (fun s => by kernel_rfl) Cm.run03 (by kernel_rfl) (by kernel_rfl) (by kernel_rfl) (by rfl) (by first | assumption | decide +kernel) (by decide +kernel) ⟨rfl, rfl, rfl, rfl, rfl, by decide +kernel⟩ ?hw ?hc
  case hw => w_witness2
  case hc =>
    refine LamX.walk_ofTsE (l := PySem.Challenge.rw_shoepile_k03_one_guest_less) (n := 63) (k := 13) (x := "_law_script") (CX := fun w => L2.CX PySem.Challenge.rw_shoepile_k03_one_guest_less.prog w) rfl (by decide) (by kernel_rfl) ⟨rfl, by decide, by decide⟩ ?F ?hCX
    case hCX =>
      rintro w H s e s' ⟨a, B, H', cls, d, _, _, _, _, _, _, _, z⟩
      exact z
    case F =>
      intro w mg fa h Y G hmg0
      obtain ⟨K, KX, c⟩ := Y
      have hmg : mg ("law" : PySem.Str) = some (.ref fa) := by
        have e : (HandSHeadRun.topDef (OpenLaw.row PySem.Challenge.rw_shoepile_k03_one_guest_less).prog 29).name = ("law" : PySem.Str) := by kernel_rfl
        rw [← e]
        exact hmg0
      exact ⟨K, KX, Cm.at03 KX G c hmg⟩
