import PyProof.Rows.All
import Wide.All
import OpenK.AllK
import Wide.FinOn
import KE.KStateDown
import HandS.ForExc
import HandS.Defaults
import HandS.Head0
import HandS.Head1
import HandS.Head2
import HandS.HeadHook1
import HandS.HeadHook2
import HandS.HeadHook3
import HandS.HeadHook4
import HandS.HeadNt
import HandS.HeadWalk
import HandS.EndTab
import HandS.Star
import HandS.Property
import HandS.ExcField
import KE.KExcLine
import KE.KSuper
import HandS.ForMost
import HandS.FStr
import HandS.ExcInit
import HandS.ExcOwn
import HandS.Nested
import HandS.MakeKwOnly
import HandS.More
import HandS.Lambda
import HandS.TryMany
import HandS.Walk
import HandS.TupAny
import HandS.IsInst
import HandS.ClsMeth
import HandS.DeepEq
import HandS.Words
import KE.GoesMore
import PyProof.EnumMake
import PyProof.EnumFor
import PyProof.Draws
import HandS.Small
import HandS.Iter
import HandS.DictComp
import HandS.DictTup
import HandS.SortKw
import KE.KSortKeySt
import HandS.Deep
import HandS.Style
import KE.KTupTruth
import OpenK.KOps
import HandS.RaiseMore
import PyProof.GenRules
import HandS.GenBody
import HandS.GenYield
import HandS.GenCall
import HandS.GenList
import HandS.Comp
import HandS.Dict
import HandS.Rev
import PyProof.ListStr
import HandS.TupSets
import HandS.SortRule
import HandS.RevRange
import KE.KUnpackStar
import HandS.List
import HandS.SetFor
import HandS.Strs
import HandS.Set
import HandS.SortInts
import HandS.LawCells
import PySem.Challenge.RW_shoepile_k07_quiet_guests
set_option Elab.async false
set_option linter.all false
set_option maxRecDepth 100000
set_option maxHeartbeats 4000000
/-! Own errors over ValueError: made with keywords, their __init__ with super(). -/
namespace ShX
open PySem PySem.W PySem.HandSPX
open Builtin Builtin.ObjectAttr
section
variable {M : Model} {prog : Program} {w : World} {A : Around} {E : Value → Shared → Prop} {R : Result → Shared → Prop}
variable {h : Heap} {g : Array GenState} {d : Drawn} {t : Nat} {os : OsState}
variable {nm q : Str} {C N : Addr} {bs bm bmB : List Value} {hdct : Bool} {sn : List Str} {sub : List Value} {ab : Bool} {col : Option Bool} {dd : Option Addr} {k0 k1 k2 k3 k5 : Option Value} {B newId initId : String}

theorem chk_new (F : ExcBaseFacts B newId initId bmB) (hT : ∀ X : String, bm.contains (.type X) = bmB.contains (.type X)) {kw : List (Str × Value)} {Q : Unit → Shared → Prop}
    (hC : h.get? C = some (excClassObj nm q C N bs bm hdct sn sub ab col dd k0 k1 k2 k3 k5 newId)) (hq : Q () ⟨h, g, d, t, os⟩) :
    wpAny M A (checkBuiltinCall newId ⟨[.ref C], kw⟩) Q E ⟨h, g, d, t, os⟩ := by
  have has : (Value.ref C :: bm).contains (.type B) = true := by rw [List.contains_cons, hT, F.hasB, Bool.or_true]
  have star := F.noStar
  simp only [checkBuiltinCall, F.newKind, F.newSplit, F.newRow]
  repeat (first
    | refine wpAny_loadPart_at hC ?_
    | (refine wpAny_isSubtype_exc hC ?_; rw [has])
    | refine wpAny_staticBase_exc hC ?_
    | refine wpAny_madeBy_exc hC ?_
    | simp only [bne_self_eq_false, Bool.false_eq_true, if_false]
    | wp_step)
  exact hq

/-- the new object: its args are none, the keywords go to __init__ alone -/
theorem new_kw (F : ExcBaseFacts B newId initId bmB) (hT : ∀ X : String, bm.contains (.type X) = bmB.contains (.type X)) {kw : List (Str × Value)}
    (hC : h.get? C = some (excClassObj nm q C N bs bm hdct sn sub ab col dd k0 k1 k2 k3 k5 newId))
    (hq : R (.ok (.ret (.ref (h.objs.size + 1)))) ⟨(h.push (kdv_tup [])).push (excO C h.objs.size), g, d, t, os⟩) :
    codeAny (model prog w) A (.builtin newId ⟨[.ref C], kw⟩) R ⟨h, g, d, t, os⟩ := by
  have ends := F.ends
  have has : ∀ Y : String, (Value.ref C :: bm).contains (.type Y) = bmB.contains (.type Y) := fun Y => by rw [List.contains_cons, hT]; rfl
  have yes : (Value.ref C :: bm).contains (.type B) = true := (has _).trans F.hasB
  have no1 : (Value.ref C :: bm).contains (.type "AttributeError") = false := (has _).trans F.noAttr
  have no2 : (Value.ref C :: bm).contains (.type "NameError") = false := (has _).trans F.noName
  refine codeAny_builtinAt F.entry ?_
  unfold Builtin.«BaseException.__new__»
  refine wpAt_bind ?_
  show wpAt _ _ _ (stack >>= _) _ _ _
  refine wpAt_bind (wpAt_stack fun p below => wpAt_of_wpAny ?_)
  wp_walk
  refine wpAt_of_wpAny ?_
  rw [F.owner]
  repeat (first
    | with_reducible refine wpAny_madeHere_exc F.canon hC ?_
    | with_reducible refine wpAny_loadPart_at hC ?_
    | (with_reducible refine wpAny_isSubtype_exc hC ?_; first | rw [yes] | rw [no1] | rw [no2])
    | wp_step)
  show R _ _
  rw [Heap.size_push]
  exact hq

theorem tcall_kw (F : ExcBaseFacts B newId initId bmB) (hT : ∀ X : String, bm.contains (.type X) = bmB.contains (.type X)) {kw : List (Str × Value)} {fI : Addr} {Q : Fin → Shared → Prop}
    (hC : h.get? C = some (excClassObj nm q C N bs bm hdct sn sub ab col dd k0 k1 k2 k3 k5 newId))
    (hi : Looks (model prog w) h (typeLookup (.ref C) "__init__") (some (.ref fI))) (hb : ∀ self, Looks (model prog w) h (bindSpecial (.ref fI) self) (.ref fI, [self]))
    (hq : codeAny (model prog w) A (.call (.ref fI) ⟨[.ref (h.objs.size + 1)], kw⟩)
      (fun r s' => match r with
        | .ok (.ret v) => v = .none ∧ Q (.done (.ret (.ref (h.objs.size + 1)))) s'
        | .ok _ => False
        | .error e => E e s')
      ⟨(h.push (kdv_tup [])).push (excO C h.objs.size), g, d, t, os⟩) :
    wpAny (model prog w) A (Builtin.«type.__call__» ⟨[.ref C], kw⟩) Q E ⟨h, g, d, t, os⟩ := by
  repeat (first | with_reducible refine wpAny_loadPart_at hC ?_ | with_reducible refine wpAny_madeBy_exc hC ?_ | wp_step)
  refine codeAny_call_builtin_code (Code.quiet_builtin _ F.quiet) (chk_new F hT hC ?_)
  refine new_kw F hT hC ?_
  show wpAny _ _ _ _ _ _
  have kp : ∀ b o, h.get? b = some o → ((h.push (kdv_tup [])).push (excO C h.objs.size)).get? b = some o := fun b o e => Heap.get?_push_of_some _ (Heap.get?_push_of_some _ e)
  have cls1 := kp _ _ hC
  have new1 : ((h.push (kdv_tup [])).push (excO C h.objs.size)).get? (h.objs.size + 1) = some (excO C h.objs.size) := by heap_get
  have self1 : (Value.ref C :: bm).contains (.ref C) = true := by simp
  have look1 := hi.keeps kp
  have bind1 := (hb (.ref (h.objs.size + 1))).keeps kp
  unfold isInstance
  repeat (first | with_reducible refine wpAny_loadPart_at new1 ?_ | (with_reducible refine wpAny_isSubtype_exc cls1 ?_; rw [self1]) | wp_step)
  show wpAny _ _ (typeLookup (.ref C) _) _ _ _
  refine look1.at ?_
  refine wpAny_holding (wpAny_bind (bind1.at ?_))
  refine wpAny_bind (wpAny_call (codeAny_mono hq fun r s' z => ?_))
  rcases r with e | (v | _ | _ | _) <;> first | exact z | exact z.elim | skip
  obtain ⟨rfl, z⟩ := z
  first
    | exact wpAny_pure (wpAny_pure z)
    | (wp_walk; exact z)

theorem chk_tcall {kw : List (Str × Value)} {Q : Unit → Shared → Prop} (hC : h.get? C = some (excClassObj nm q C N bs bm hdct sn sub ab col dd k0 k1 k2 k3 k5 newId))
    (hq : Q () ⟨h, g, d, t, os⟩) : wpAny M A (checkBuiltinCall "type.__call__" ⟨[.ref C], kw⟩) Q E ⟨h, g, d, t, os⟩ := by
  have f3 := tc_sub
  have hT : (⟨h, g, d, t, os⟩ : Shared).TypeIs (.ref C) "type" := ⟨_, hC, rfl⟩
  simp only [checkBuiltinCall, tc_kind, tc_split]
  repeat (any_goals (first | assumption | with_reducible refine wpAny_loadPart_at hC ?_ | with_reducible refine wpAny_onRaise ?_ | with_reducible refine wpAny_map ?_ | wp_step))

theorem call_kw (F : ExcBaseFacts B newId initId bmB) (hT : ∀ X : String, bm.contains (.type X) = bmB.contains (.type X)) {kw : List (Str × Value)} {fI : Addr}
    (hC : h.get? C = some (excClassObj nm q C N bs bm hdct sn sub ab col dd k0 k1 k2 k3 k5 newId))
    (hi : Looks (model prog w) h (typeLookup (.ref C) "__init__") (some (.ref fI))) (hb : ∀ self, Looks (model prog w) h (bindSpecial (.ref fI) self) (.ref fI, [self]))
    (hq : codeAny (model prog w) (A.under (.builtin "type.__call__" ⟨[.ref C], kw⟩)) (.call (.ref fI) ⟨[.ref (h.objs.size + 1)], kw⟩) (InitBack (h.objs.size + 1) R)
      ⟨(h.push (kdv_tup [])).push (excO C h.objs.size), g, d, t, os⟩) :
    codeAny (model prog w) A (.call (.ref C) ⟨[], kw⟩) R ⟨h, g, d, t, os⟩ := by
  have f1 := tc_lookup
  have f2 := tc_bind (.ref C)
  have hTy : (⟨h, g, d, t, os⟩ : Shared).TypeIs (.ref C) "type" := ⟨_, hC, rfl⟩
  refine codeAny_of_tree ?_
  show wpAny _ _ (callAny (.ref C) _) _ _ _
  repeat (any_goals (first | assumption | with_reducible refine wpAny_loadPart_at hC ?_ | wp_step))
  refine ⟨rfl, ?_⟩
  refine codeAny_call_builtin_at (Code.quiet_builtin _ (by decide +kernel)) entry_typeCall (chk_tcall hC (tcall_kw F hT hC hi hb ?_))
  refine codeAny_mono hq fun r s' z => ?_
  rcases r with e | (v | _ | _ | _) <;> exact z
end
end ShX

namespace ShX
open PySem PySem.W PySem.Calls PyProof.Rows PySem.HandSPX
section
variable {prog : Program} {w : World} {A : Around} {E : Value → Shared → Prop} {h : Heap} {g : Array GenState} {d : Drawn} {t : Nat} {os : OsState}
variable {nm q : Str} {C N : Addr} {bs bm : List Value} {hdct : Bool} {sn : List Str} {sub : List Value} {ab : Bool} {col : Option Bool} {dd : Option Addr} {k0 k1 k2 k3 k5 : Option Value}
abbrev veI : String := "ValueError.__init__"
/-- ValueError's __init__, bound to the exception at e, called -/
theorem call_mw {u e t0 : Addr} {rest : List Value} {Q : Value → Shared → Prop}
    (hC : h.get? C = some (excClassObj nm q C N bs bm hdct sn sub ab col dd k0 k1 k2 k3 k5 "ValueError.__new__")) (he : h.get? e = some (excO C t0))
    (hu : h.get? u = some (kxs_mw veI e)) (hz : rest.length ≤ sizeLine)
    (hq : ∀ h' t1, (∀ b o, b ≠ e → h.get? b = some o → h'.get? b = some o) → h'.get? e = some (excO C t1) → Q .none ⟨h', g, d, t, os⟩) :
    wpAny (model prog w) A (call (.ref u) rest) Q E ⟨h, g, d, t, os⟩ := by
  refine wpAny_call (codeAny_of_tree ?_)
  show wpAny _ A.in1 (callAny (.ref u) ⟨rest, []⟩) _ _ _
  simp only [callAny]
  refine wpAny_bind (wpAny_load hu ?_)
  have yes : (Value.type "method-wrapper" == Value.type "method" || Value.type "method-wrapper" == Value.type "builtin_function_or_method" || Value.type "method-wrapper" == Value.type "method-wrapper") = true := by decide
  simp only [kxs_mw, yes, if_true]
  refine KFB.if_so (by decide) ?_
  refine wpAny_bind (check_bound_init F.excBase_ValueError.toExcCallFacts hC he rfl ?_)
  refine wpAny_bind (wpAny_pure (wpAny_pure ?_))
  refine ⟨plainId_quiet F.excBase_ValueError.init.plain _, codeAny_builtin F.excBase_ValueError.initEntry ?_⟩
  exact exc_init_tree (cls := .ref C) (t0 := t0) (dv := none) (c2 := .none) (c3 := .none) (b4 := .bool false) he hz fun h' k e' _ => hq h' _ k e'
end
end ShX
set_option Elab.async false
set_option linter.all false
set_option maxRecDepth 100000
set_option maxHeartbeats 4000000

namespace Sho
open PySem PySem.Spec PyProof.Rows L2 NdefX
/-- what the written part says of an own error's __init__ at f that says super() -/
structure SupTxt (P : Program) (K : PySem.W.Frag) (mg : Str → Option Value) (F : NF) (f cc D : Addr) : Prop where
  fn : ∃ (oc : Value) (od : Option Addr) (doc pm : Value) (an : Option Addr) (ct : Value) (osl : Array (Option Value)),
    K.lookup f = some ⟨oc, od, .func (PySem.W.ksFn F.name F.qual F.params F.body F.scope .none .none doc pm an (.ref F.c) ct cc), osl⟩
  cd : PySem.W.codeIn K (.ref F.c) F.qual = true
  cell : ∃ (cl : Value) (cld : Option Addr) (csl : Array (Option Value)), K.lookup cc = some ⟨cl, cld, .cell (some (.ref D)), csl⟩
  cls : F.cl = [(("__class__" : Str), cc)]
  file : ∃ (oc : Value) (od : Option Addr) (vs : Array Value) (sl : Array (Option Value)) (fl : Str) (tf : Tok), K.lookup F.c = some ⟨oc, od, .fields vs, sl⟩ ∧ vs[2]? = some (.str fl tf) ∧ ((P.main.file : Str) == fl) = true
  first : ∃ ar : Arg, (F.params.posonlyargs ++ F.params.args).head? = some ar ∧ ar.arg = ("self" : Str)
  sup : mg "super" = none
  top : (P.main.scope.names.lookup ("super" : Str)).isSome = false
  ks : F.scope.names.lookup ("super" : Str) = some .globalImplicit
  kc : F.scope.names.lookup ("__class__" : Str) = some .free
  kse : F.scope.names.lookup ("self" : Str) = some .local
  isD : PySem.W.isClsIn K D = true
  opq : PySem.W.nsIn K cStatics "thirdparty.any" = some none
/-- the context's class: C's __init__ from D on is ValueError's -/
structure SupCls (K : PySem.W.Frag) (C D : Addr) : Prop where
  o : OexC K C
  sub : PySem.W.mroIn K C (.ref D) = some true
  nxt : PySem.W.ks_superIn K C D "__init__" = some (some (.builtin ShX.veI))
  ve : PySem.W.subIn K (.ref C) (.type "ValueError") = some true
section
variable {X : Cx} {pins : List (Addr × Obj)} {σ : L2.St} {H : Hp} {s : Shared} {F : NF} {f cc D a C : Addr}
theorem cls_at {K : PySem.W.Frag} {h : Heap} {D : Addr} (X : K.In h) (i : PySem.W.isClsIn K D = true) : ∃ (o : Obj) (cd : ClassData), h.get? D = some o ∧ o.data = .cls cd ∧ PySem.W.clsIn K D = some cd := by
  have i2 : (PySem.W.clsIn K D).isSome = true := i
  cases e : PySem.W.clsIn K D with
  | none =>
    rw [e] at i2
    cases i2
  | some cd =>
    have e0 := e
    unfold PySem.W.clsIn at e
    split at e
    · rename_i c d cd' sl ho
      cases e
      exact ⟨_, _, X _ _ ho, rfl, rfl⟩
    · cases e
/-- super().__init__(e), the exception at a being made -/
theorem sup_stmt {pl : Sem Bool} {R : Hp → Prop} {body : List Stmt} {e : Expr} {te : TA} {p0 p1 p2 p3 p4 : Pos} {Qf : PySem.Flow → Shared → Prop} {Ex : Value → Shared → Prop} (T : SupTxt X.prog X.K X.mg F f cc D) (V : SupCls X.K C D)
    (hX : X.env = envF F f X.env.locals) (I : Inv X pins σ H s) (hi : X.N[0]? = some ("self" : Str)) (hv : σ[0]? = some (some (.ref a))) (ha : H a = some (exo a C none))
    (he : PA X [e] te) (hxe : ∀ v s', X.xe v s' → Ex v s') (hq : te σ H fun xs H1 => xs.length ≤ 1000 ∧ H1 a = some (exo a C none) ∧ R H1) (hR : ∀ H1 s', Inv X pins σ H1 s' → R H1 → Qf .next s')
    (hce : eval (.Call (.Attribute (.Call (.Name "super" p0) [] [] p1) "__init__" p2) [e] [] p3) X.env = (do
      let ov ← attributeBase (.Call (.Name "super" p0) [] [] p1) "__init__" X.env (eval (.Call (.Name "super" p0) [] [] p1) X.env)
      standAt p2.atName
      let (fx, first) ← holding [ov] (getMethod ov "__init__" pl)
      callWith p3 fx first (backTo p3 (starEach [e] X.env)) []))
    (hst : starEach [e] X.env = (false, eval e X.env) :: starEach [] X.env) :
    PySem.wpAt (model X.prog X.w) X.A (.func body X.env) (exec (.Expr (.Call (.Attribute (.Call (.Name "super" p0) [] [] p1) "__init__" p2) [e] [] p3) p4) X.env) Qf Ex s := by
  obtain ⟨fc, fod, doc, pm, an, ct, osl, hf⟩ := T.fn
  obtain ⟨cl, cld, csl, hcell⟩ := T.cell
  obtain ⟨oc, od, vs, sl, fl, tf, hcode, hvs, hfile⟩ := T.file
  obtain ⟨ar, hfirst, har⟩ := T.first
  obtain ⟨oD, cdD, hD1, hD2, _⟩ := cls_at I.kIn T.isD
  obtain ⟨t0, hx⟩ := exo_at I.hok ha
  obtain ⟨nm, q, N, bs, bm, sn, sub, ab, col, dd, k0, k1, k2, k3, k5, hC, hbm⟩ := V.o.cls
  have hclC : PySem.W.clsIn X.K C = some { name := nm, bases := bs, mro := .ref C :: bm, ns := N, qualname := q, hasDict := true, slotNames := sn, subclasses := sub, abstract := ab, collection := col, hasDel := false } := by unfold PySem.W.clsIn; rw [hC] <;> rfl
  have IA : PySem.W.InstAt s.heap a ({ cls := .ref C, data := .fields #[.ref t0, .none, .none, .none, .bool false, .none] } : Obj) C none := ⟨hx, rfl, rfl, True.intro⟩
  have kD : X.env.kindOf ("self" : Str) = some .local := by rw [hX]; exact T.kse
  have selfv : ∃ m, s.heap.Ns X.env.locals m ∧ m ("self" : Str) = some (.ref a) := by
    obtain ⟨m, hm, hl⟩ := I.loc
    obtain ⟨u, ru, lk⟩ := hl 0 _ _ hi hv (.inl (by have := kD; rw [hX] at this; rw [hX]; exact this))
    obtain rfl : u = Value.ref a := ru
    rcases lk with ⟨_, e⟩ | ⟨e, _⟩
    · exact ⟨m, hm, e⟩
    · rw [kD] at e
      rcases e with e | e <;> cases e
  obtain ⟨m, hm, hself⟩ := selfv
  obtain ⟨mb, hb1, hb2⟩ := I.mod.blt
  have ek : X.env.scope.kind = .function := I.ok.kind
  have e1 : X.env.kindOf ("super" : Str) = some .globalImplicit := by rw [hX]; exact T.ks
  have e2 : X.env.kindOf ("__class__" : Str) = some .free := by rw [hX]; exact T.kc
  have e3 : X.env.cells.lookup ("__class__" : Str) = some cc := by
    rw [hX]
    show F.cl.lookup _ = _
    rw [T.cls]
    rfl
  refine ks_wpAt_Expr_any ?_ (I.quiet) (by rfl)
  refine ks_wpAt_MethodCall ?_ hce
  refine ks_wpAt_super_base (prog := X.prog) (w := X.w) (f := f) (cc := F.c) e1 e2 (by rfl) (by rw [hX]) (I.kIn _ _ hf) rfl hfirst (by rw [hX]) (I.kIn _ _ hcode) rfl hvs hfile T.top ?_
  refine PySem.W.ks_loadName_global ek e1 (PySem.Calls.loadGlobal_builtin (by rw [I.ok.glob]; exact I.mod.glob.keeps I.bk) T.sup (by rw [I.ok.blt]; exact hb1.keeps I.bk) ((hb2 _ (by decide)).trans (by decide +kernel)) ⟨rfl, ?_⟩)
  refine wpAny_loadName_free ek e2 e3 ⟨_, I.kIn _ _ hcell, rfl⟩ ?_
  rw [har]
  refine wpAny_loadName_local ek kD hm hself ?_
  refine ks_wpAny_isType_cls hD1 hD2 ⟨rfl, ?_⟩
  obtain ⟨hp, g, d, tk, os⟩ := s
  refine ks_wpAny_call_super hD1 hD2 hx rfl (fun c z => by cases z) (PySem.W.looks_mroIn I.kIn V.sub) fun h1 so1 kp1 => ?_
  have I1 : Inv X pins σ H ⟨h1, g, d, tk, os⟩ := I.kept (t' := tk) kp1
  have nx := V.nxt
  unfold PySem.W.ks_superIn at nx
  rw [hclC] at nx
  have hxC : a ≠ C := by
    rintro rfl
    have z := I.kIn _ _ hC
    have z2 : hp.get? a = some (excClassObj nm q a N bs bm true sn sub ab col dd k0 k1 k2 k3 k5 "ValueError.__new__") := z
    rw [z2] at hx
    cases hx
  have hmro : PySem.W.Looks (model X.prog X.w) h1 (mroOf (.ref C)) (.ref C :: bm) := (PySem.W.looks_clsIn I1.kIn hclC).andThen .now
  have hinst : PySem.W.Looks (model X.prog X.w) h1 (isInstance (.ref a) (.type "ValueError")) true :=
    PySem.W.Looks.andThen (PySem.W.InstAt.type (⟨kp1 _ _ hx, rfl, rfl, True.intro⟩ : PySem.W.InstAt h1 a _ C none)) (PySem.W.looks_subIn I1.kIn V.ve)
  refine PySem.W.kxs_getMethod PySem.W.kxs_ValueError so1 (PySem.W.looks_opaque I1.kIn T.opq) hmro rfl I1.kIn nx hinst hxC (by decide) ?_
  generalize hu : h1.objs.size = u
  have kp2 : ∀ b o, h1.get? b = some o → (h1.push (PySem.W.kxs_mw ShX.veI a)).get? b = some o := fun b o z => Heap.get?_push_of_some _ z
  have I2 : Inv X pins σ H ⟨h1.push (PySem.W.kxs_mw ShX.veI a), g, d, tk + 1, os⟩ := I1.kept (t' := tk + 1) kp2
  have gu : (h1.push (PySem.W.kxs_mw ShX.veI a)).get? u = some (PySem.W.kxs_mw ShX.veI a) := by rw [← hu]; exact Heap.get?_push_size _ rfl
  have fu : FpOk X pins H u := I1.fpOk (by rw [← hu]; exact Nat.le_refl _) (I1.hok.fresh (by rw [← hu]; exact Nat.le_refl _))
  have I3 : Inv X ((u, PySem.W.kxs_mw ShX.veI a) :: pins) σ H ⟨h1.push (PySem.W.kxs_mw ShX.veI a), g, d, tk + 1, os⟩ := I2.pins_of fun p hp => by
    rcases List.mem_cons.mp hp with rfl | hp
    · exact ⟨gu, fu.1, fu.2.1, fu.2.2.1, fun v z => by cases z⟩
    · exact I2.pin p (List.mem_append_right _ hp)
  refine wpAny_mono (PySem.W.kxs_callWith (i := ShX.veI) (x := a) (Q := fun _ s' => Qf .next s') (E := X.xe) (by rw [hst]; rfl) ?_) (fun _ _ z => z) hxe
  rw [hst]
  refine PySem.Calls.evalArgs_plain ?_
  have hr := he.run p3 ((u, PySem.W.kxs_mw ShX.veI a) :: pins) _ σ H _ I3 hq
  rw [hst] at hr
  refine thn hr fun us s2 ⟨xs, H2, I4, rv, hl, ha2, q⟩ => ?_
  have gu2 := (I4.pin (u, PySem.W.kxs_mw ShX.veI a) (List.mem_append_right _ List.mem_cons_self)).1
  refine ⟨gu2, ?_⟩
  obtain ⟨t2, hx2⟩ := exo_at I4.hok ha2
  obtain ⟨hp2, g2, d2, tk2, os2⟩ := s2
  refine ShX.call_mw (I4.kIn _ _ hC) hx2 gu2 ?_ fun h' t3 k3 e3 => ?_
  · show us.length ≤ sizeLine
    rw [← rv.length, sizeLine_eq]
    omega
  · have J := I4.write (t' := tk2) (x := a) (e := a) (o := exo a C none) (by rw [ha2]; exact True.intro) (.inl rfl) k3 ⟨_, e3⟩ (exo_ok e3)
    have eu : upd H2 a (exo a C none) = H2 := by
      funext b
      by_cases hb : b = a
      · rw [hb, upd_same, ha2]
      · rw [upd_ne hb]
    rw [eu] at J
    refine hR _ _ (J.pins_of fun p hp => J.pin p (by
      rcases List.mem_append.mp (List.mem_append_right X.pn hp) with z | z
      · exact List.mem_append_left _ z
      · exact List.mem_append_right _ (List.mem_cons_of_mem _ z))) q
end
section
variable {CX : CXT} {P : Program} {w : World} {K : PySem.W.Frag} {mg : Str → Option Value} {base : Heap} {N ps : List Str} {F : NF} {f cc D C a : Addr} {A : Around} {outer : List Env} {s : Shared} {H : Hp} {E : XK} {Q : VK} {us : List Value} {vs : List V} {k : Nat}
/-- the __init__ of an own error that says super() first, run: a is the exception -/
theorem run_sup {pl : Sem Bool} {args : Args} {e : Expr} {te : TA} {tr : TS} {rest : List Stmt} {p0 p1 p2 p3 p4 : Pos} (T : SupTxt P K mg F f cc D) (VC : SupCls K C D) (S : NScope N ps ["__class__"] F.scope) (hr : Room (k + 1) A) (e0 : Env0 P w K mg base A outer s H)
    (hb : ∀ doc pm an ct, BindsTo s (PySem.W.ksFn F.name F.qual F.params F.body F.scope .none .none doc pm an (.ref F.c) ct cc) args (ps.zip us)) (hl : vs.length = ps.length) (r : Vals vs us)
    (h0 : vs[0]? = some (.ref a)) (hN : N[0]? = some ("self" : Str)) (ha : H a = some (exo a C none))
    (hbody : F.body = .Expr (.Call (.Attribute (.Call (.Name "super" p0) [] [] p1) "__init__" p2) [e] [] p3) p4 :: rest)
    (he : PA (ncx CX P w K mg base N F f A outer s H E) [e] te) (hrest : PSs (ncx CX P w K mg base N F f A outer s H E) rest tr)
    (hq : te (startF N vs [none]) H fun xs H1 => xs.length ≤ 1000 ∧ H1 a = some (exo a C none) ∧ tr { nx := fun _ H' => Q .non H', rt := Q } (startF N vs [none]) H1)
    (hce : ∀ L : Addr, eval (.Call (.Attribute (.Call (.Name "super" p0) [] [] p1) "__init__" p2) [e] [] p3) (envF F f L) = (do
      let ov ← attributeBase (.Call (.Name "super" p0) [] [] p1) "__init__" (envF F f L) (eval (.Call (.Name "super" p0) [] [] p1) (envF F f L))
      standAt p2.atName
      let (fx, first) ← holding [ov] (getMethod ov "__init__" pl)
      callWith p3 fx first (backTo p3 (starEach [e] (envF F f L))) []))
    (hst : ∀ L : Addr, starEach [e] (envF F f L) = (false, eval e (envF F f L)) :: starEach [] (envF F f L)) :
    codeAny (model P w) A (.call (.ref f) args) (CR CX outer P w H s Q E) s := by
  obtain ⟨fc, fod, doc, pm, an, ct, osl, hf⟩ := T.fn
  have kin : K.In s.heap := e0.mod.kin.keeps fun b o z => (e0.bs b o z).1
  have lim : s.heap.NoLimit := e0.mod.nolimit.keeps fun b o z => (e0.bs b o z).1
  obtain ⟨cl, cld, csl, hcell⟩ := T.cell
  have hcb : base.get? cc = some ⟨cl, cld, .cell (some (.ref D)), csl⟩ := e0.mod.kin _ _ hcell
  have CA : CellsAt F.cl ["__class__"] [none] s.heap H := by
    rw [T.cls]
    have one : ∀ {y : Str} {c : Addr}, List.lookup y [(("__class__" : Str), cc)] = some c → y = "__class__" ∧ c = cc := fun {y c} z => by
      by_cases hy : y = ("__class__" : Str)
      · subst hy
        rw [List.lookup_cons_self] at z
        exact ⟨rfl, (Option.some.inj z).symm⟩
      · have q : (y == ("__class__" : Str)) = false := by simpa using hy
        rw [List.lookup_cons, q] at z
        cases z
    refine ⟨rfl, fun y c z => ?_, fun x y c z1 z2 => (one z1).1.trans (one z2).1.symm, fun i y z => ?_⟩
    · obtain ⟨_, rfl⟩ := one z
      exact ⟨(e0.bs _ _ hcb).2, _, _, (e0.bs _ _ hcb).1, rfl⟩
    · match i with
      | 0 =>
        simp at z
        subst z
        exact ⟨cc, List.lookup_cons_self, fun v z => by simp at z⟩
      | i + 1 => simp at z
  refine ks_codeAny_call_defAt (fd := PySem.W.ksFn F.name F.qual F.params F.body F.scope .none .none doc pm an (.ref F.c) ct cc) (body := F.body) (binds := ps.zip us) hr.depth (kin _ _ hf) rfl lim (PySem.W.codeRec_of kin T.cd) rfl (hb _ _ _ _)
    S.nocell (fun ⟨n, _⟩ hy => S.par n (List.of_mem_zip hy).1) (fun h₁ hns kp => ?_) S.co S.gen S.kind
  have I : Inv (ncx CX P w K mg base N F f A outer s H E) [] (startF N vs [none]) H { s with heap := h₁, toks := s.toks + (ps.zip us).length } := inv_startN S hr.hd e0 hl r CA hns kp
  have env_eq : callEnv (PySem.W.ksFn F.name F.qual F.params F.body F.scope .none .none doc pm an (.ref F.c) ct cc) s.heap.objs.size f = envF F f s.heap.objs.size := by
    show PySem.W.envX _ _ _ _ _ [(("__class__" : Str), cc)] = PySem.W.envX _ _ _ _ _ F.cl
    rw [T.cls]
  rw [env_eq]
  show PySem.wpAt (model P w) (ncx CX P w K mg base N F f A outer s H E).A (.func F.body (envF F f s.heap.objs.size)) (execs F.body (envF F f s.heap.objs.size)) _ _ _
  rw [hbody]
  refine ks_wpAt_execs_cons ?_
  have hs0 : (startF N vs [none])[0]? = some (some (.ref a)) := by
    unfold startF
    cases vs with
    | nil => simp at h0
    | cons v vs =>
      simp at h0
      subst h0
      rfl
  refine sup_stmt (X := ncx CX P w K mg base N F f A outer s H E) (Ex := (ncx CX P w K mg base N F f A outer s H E).xe) T VC rfl I hN hs0 ha he (fun _ _ z => z) hq (fun H1 s1 I1 q1 => ?_) (hce _) (hst _)
  refine wpAt_of_wpAny (wpAny_mono (hrest.run [] s1 (startF N vs [none]) H1 _ I1 q1) (fun fl s' hs => ?_) fun e s' hs => hs)
  have fin : ∀ {σ' : L2.St} {H' : Hp} {v : V} {u : Value}, Inv (ncx CX P w K mg base N F f A outer s H E) [] σ' H' s' → L2.RelV v u → Q v H' → CE outer P w H s Q u s' :=
    fun {σ' H' v u} J rv q => ⟨v, H', J.os, J.bare, J.base, J.hok, rv, q⟩
  cases fl with
  | ret u =>
    obtain ⟨v, σ', H', J, rv, q⟩ := hs
    exact fin J rv q
  | next =>
    obtain ⟨σ', H', J, q⟩ := hs
    exact fin (v := V.non) (u := Value.none) J rfl q
  | brk =>
    obtain ⟨_, _, _, q⟩ := hs
    exact False.elim q
  | cont =>
    obtain ⟨_, _, _, q⟩ := hs
    exact False.elim q
end
/-- a value that an error's message may tell -/
def Tells (v : V) : Prop := (∃ y : Str, v = .str y ∧ y.length ≤ 100000) ∨ ∃ i : Int, v = .int i ∧ i.natAbs.log2 < 1920
/-- C(f = e) -/
def tMkW (C : Addr) (fld : Str) (te : TA) : L2.St → Hp → XK → Prop := fun σ H Q => te σ H fun xs H1 => ∃ v, xs = [v] ∧ Tells v ∧ ∀ d, H1 d = none → Q (.ref C) (some d) (upd H1 d (.xd [(fld, v)]))
section
variable {X : Cx} {CX : CXT} {C f cc D : Addr} {F : NF} {k : Nat} {fld x : Str} {e msg : Expr} {kws : List Keyword} {te : TA} {p pos p0 p1 p2 p3 p4 r1 r2 r3 r4 : Pos} {pl : Sem Bool}
theorem pmk_kw (T : SupTxt X.prog X.K X.mg F f cc D) (VC : SupCls X.K C D) (XC : XfC X.K C) (hno : PySem.W.findIn X.K (.ref C) fld = some none)
    (iC : PySem.W.findIn X.K (.ref C) "__init__" = some (some (.ref f))) (tI : PySem.W.typeIn X.K (.ref f) = some (.type "function"))
    (S : NScope ["self", fld, "__class__"] ["self", fld] ["__class__"] F.scope) (hr : Room (k + 2) X.A) (hx : Passes CX X (fun _ _ _ => False)) (hg : Gl X x) (hm : X.mg x = some (.ref C))
    (hkw : PK X kws te) (hall : (backToKw pos (keywordEach kws X.env)).all (·.1.isSome) = true) (hks : (backToKw pos (keywordEach kws X.env)).filterMap (·.1) = [fld])
    (hpl : ((backTo pos (starEach [] X.env)).any (·.1) || (backToKw pos (keywordEach kws X.env)).any (·.1.isNone)) = false)
    (hbody : F.body = [.Expr (.Call (.Attribute (.Call (.Name "super" p0) [] [] p1) "__init__" p2) [msg] [] p3) p4, .Assign [.Attribute (.Name "self" r1) fld r2] (.Name fld r3) r4])
    (hb : ∀ (s : Shared) (doc pm : Value) (an : Option Addr) (ct : Value) (xa : Addr) (u : Value), BindsTo s (PySem.W.ksFn F.name F.qual F.params F.body F.scope .none .none doc pm an (.ref F.c) ct cc) ⟨[.ref xa], [(fld, u)]⟩ [(("self" : Str), .ref xa), (fld, u)])
    (hmsg : ∀ (A : Around) (outer : List Env) (s : Shared) (H : Hp) (E : XK) (xa : Addr) (v : V), Tells v → ∃ tm, PA (ncx CX X.prog X.w X.K X.mg X.base ["self", fld, "__class__"] F f A outer s H E) [msg] tm ∧
      ∀ R : List V → Hp → Prop, (∀ y : Str, R [.str y] H) → tm (startF ["self", fld, "__class__"] [.ref xa, v] [none]) H R)
    (hce : ∀ L : Addr, eval (.Call (.Attribute (.Call (.Name "super" p0) [] [] p1) "__init__" p2) [msg] [] p3) (envF F f L) = (do
      let ov ← attributeBase (.Call (.Name "super" p0) [] [] p1) "__init__" (envF F f L) (eval (.Call (.Name "super" p0) [] [] p1) (envF F f L))
      standAt p2.atName
      let (fx, first) ← holding [ov] (getMethod ov "__init__" pl)
      callWith p3 fx first (backTo p3 (starEach [msg] (envF F f L))) []))
    (hst : ∀ L : Addr, starEach [msg] (envF F f L) = (false, eval msg (envF F f L)) :: starEach [] (envF F f L))
    (hsw : ∀ L : Addr, swapsWith (.Name fld r3) (some (.Attribute (.Name "self" r1) fld r2)) r4.line (envF F f L) = pure false)
    (hf1 : (fld == ("__debug__" : Str)) = false := by decide) (hf2 : (fld == ("__classdict__" : Str)) = false := by decide)
    (hdb : (x == ("__debug__" : Str)) = false := by decide) : PMk X (.Call (.Name x p) [] kws pos) (tMkW C fld te) := by
  intro pins s σ H Q I h
  obtain ⟨nm, q, N, bs, bm, sn, sub, ab, col, dd, k0, k1, k2, k3, k5, hC, hbm⟩ := VC.o.cls
  refine wpAny_Call_Name_kw (ld_glob I hg hm ?_ hdb)
  refine PySem.W.callWith_KW0 (h₀ := X.base) I.ok.mod.kin VC.o.kC hall ?_ hpl
  refine thn (hkw.run pos pins s σ H _ I h) fun ws s1 ⟨zs, H1, I1, rz, v, ezs, hv, q1⟩ => ⟨I1.kIn, ?_⟩
  subst ezs
  cases rz with
  | @cons _ u _ _ rv rn =>
  cases rn
  rw [hks]
  obtain ⟨hp, g, dr, tk, os⟩ := s1
  have hsz : hp.objs.size ≤ hp.objs.size + 1 := Nat.le_succ _
  have hn : H1 (hp.objs.size + 1) = none := I1.hok.fresh hsz
  generalize ha : hp.objs.size + 1 = a at hn hsz
  have kk : ∀ b o, hp.get? b = some o → ((hp.push (PySem.W.kdv_tup [])).push (PySem.HandSPX.excO C hp.objs.size)).get? b = some o := fun b o e => Heap.get?_push_of_some _ (Heap.get?_push_of_some _ e)
  have hget : ((hp.push (PySem.W.kdv_tup [])).push (PySem.HandSPX.excO C hp.objs.size)).get? a = some (PySem.HandSPX.excO C hp.objs.size) := by
    rw [← ha]
    heap_get
  generalize hh2 : (hp.push (PySem.W.kdv_tup [])).push (PySem.HandSPX.excO C hp.objs.size) = h2 at kk hget
  have I2 : Inv X pins σ (upd H1 a (exo a C none)) ⟨h2, g, dr, tk, os⟩ := I1.laid (t' := tk) (a := a) (o := exo a C none) (h' := h2) kk hsz (exo_ok hget)
  obtain ⟨tm, hpm, htm⟩ := hmsg (X.A.under (.builtin "type.__call__" ⟨[.ref C], [(fld, u)]⟩)) X.stack ⟨h2, g, dr, tk, os⟩ (upd H1 a (exo a C none)) (fun _ _ _ => False) a v hv
  refine wpAny_call (ShX.call_kw PySem.F.excBase_ValueError (fun Y => PySem.HandSPX.refsVE_contains Y bm hbm) (I1.kIn _ _ hC) (PySem.W.looks_findIn I1.kIn iC) (fun self => PySem.W.bind_fn I1.kIn self tI) ?_)
  rw [ha, hh2]
  have vis0 : Vis F.scope ("self" : Str) := .inl (S.par _ List.mem_cons_self)
  have vis1 : Vis F.scope fld := .inl (S.par _ (List.mem_cons_of_mem _ List.mem_cons_self))
  refine codeAny_mono (run_sup (CX := CX) (k := k) (N := ["self", fld, "__class__"]) (ps := ["self", fld]) (us := [.ref a, u]) (vs := [.ref a, v]) (E := fun _ _ _ => False)
    (Q := fun r H2 => r = .non ∧ ∃ (d : Addr) (fs : List (Str × V)), H2 a = some (exo a C (some d)) ∧ H2 d = some (exd d fs) ∧ H1 d = none ∧ Q (.ref C) (some d) (upd (del H2 a) d (.xd fs)))
    T VC S (hr.make C [] _) (I2.env0.make C [] _) ?_ rfl (.cons rfl (.cons rv .nil)) rfl rfl upd_same hbody hpm
    (pss_one (ps_ost (pe_var (i := 0) rfl vis0) (pe_var (i := 1) rfl vis1 hf1 hf2) (hsw _))) ?_ hce hst) fun r s' hq' => ?_
  · intro doc pm an ct
    exact hb _ doc pm an ct a u
  · refine htm _ fun y => ⟨by simp, upd_same, v, rfl, .ref a, rfl, a, C, rfl, VC.o, hno, .inl ⟨upd_same, fun dx hdx ndx => ?_⟩⟩
    have hdx1 : H1 dx = none := by
      rw [upd_ne ndx] at hdx
      exact hdx
    refine ⟨rfl, dx, [(fld, v)], upd_same, ?_, hdx1, ?_⟩
    · rw [upd_ne ndx, upd_same]
    · have eH : upd (del (upd (upd (upd H1 a (exo a C none)) dx (exd dx [(fld, v)])) a (exo a C (some dx))) a) dx (.xd [(fld, v)]) = upd H1 dx (.xd [(fld, v)]) := by
        funext b
        by_cases h1 : b = dx
        · rw [h1, upd_same, upd_same]
        · rw [upd_ne h1, upd_ne h1]
          by_cases h2 : b = a
          · rw [h2, del_same, hn]
          · rw [del_ne h2, upd_ne h2, upd_ne h1, upd_ne h2]
      rw [eH]
      exact q1 dx hdx1
  · cases r with
    | error er => exact hx pins σ _ _ er s' I2 hq'
    | ok fl =>
      cases fl with
      | ret uu =>
        obtain ⟨vv, H2, os2, bare2, un2, hok2, rv2, ev, d2, fs, ea, ed, hd1, q2⟩ := hq'
        subst ev
        obtain ⟨h3, g2, dr2, t2, os'⟩ := s'
        exact ⟨rv2, mk_end (raises_own VC.o.exC VC.o.tyC) I1 hsz kk un2 hok2 os2 bare2 ea ed hd1 q2⟩
      | next => exact False.elim hq'
      | brk => exact False.elim hq'
      | cont => exact False.elim hq'
end
end Sho
set_option Elab.async false
set_option linter.all false
set_option maxRecDepth 100000
set_option maxHeartbeats 2000000
/-! The head of a law with facts: defs with and without a closure, Bools of the written part, empty tables of code objects left out. -/
namespace Shh
open PySem PySem.Spec PyProof.Rows L2 He Sho
abbrev Fr : Type := PySem.W.Frag
/-! ### a def -/
abbrev FnS : Type := Option (Str × Str × Arguments × FuncBody × Scope)
def fnS (K : Fr) (a : Addr) : FnS := match K.lookup a with
  | some ⟨_, _, .func fd, _⟩ => some (fd.name, fd.qualname, fd.params, fd.body, fd.scope)
  | _ => none
def noneB : Value → Bool
  | .none => true
  | _ => false
theorem noneB_ok {v : Value} (h : noneB v = true) : v = .none := by
  cases v with
  | none => rfl
  | _ => cases h
def fnB (K : Fr) (a : Addr) (q : Str) (cl : List (Str × Addr)) : Bool := match K.lookup a with
  | some ⟨_, _, .func fd, _⟩ => decide (fd.globals = mainGlobals) && (decide (fd.closure = cl) && (decide (fd.builtins = builtinsNs) && (noneB fd.defaults && (noneB fd.kwdefaults && PySem.W.codeIn K fd.code q))))
  | _ => false
def codeA (K : Fr) (a : Addr) : Addr := match K.lookup a with
  | some ⟨_, _, .func fd, _⟩ => (match fd.code with
    | .ref c => c
    | _ => 0)
  | _ => 0
/-- the first cell of a function's closure -/
def cellA (K : Fr) (a : Addr) : Addr := match K.lookup a with
  | some ⟨_, _, .func fd, _⟩ => (match fd.closure with
    | (_, c) :: _ => c
    | _ => 0)
  | _ => 0
structure FunF (K : Fr) (x qual : Str) (st : Stmt) (cl : List (Str × Addr)) (f : Addr) : Prop where
  ex : ∃ (oc : Value) (od : Option Addr) (doc pm : Value) (an : Option Addr) (ct : Value) (osl : Array (Option Value)),
    K.lookup f = some ⟨oc, od, .func (PySem.W.fnX x qual (defArgs st) (defBody st) (defScope st) cl .none .none doc pm an (.ref (codeA K f)) ct), osl⟩ ∧ PySem.W.codeIn K (.ref (codeA K f)) qual = true
/-- one def: where it stands, its name, qualified name, statement, closure -/
structure Dn where
  at_ : Fr → Addr
  name : Str
  qual : Str
  st : Stmt
  cl : Fr → List (Str × Addr) := fun _ => []
def Dn.val (d : Dn) : FnS := some (d.name, d.qual, defArgs d.st, .stmts (defBody d.st), defScope d.st)
def Dn.ok (K : Fr) (d : Dn) : Bool := fnB K (d.at_ K) d.qual (d.cl K)
theorem Dn.funF {K : Fr} {d : Dn} (e : fnS K (d.at_ K) = d.val) (c : d.ok K = true) : FunF K d.name d.qual d.st (d.cl K) (d.at_ K) := by
  unfold Dn.ok fnB at c
  unfold fnS at e
  have ec : ∀ fd oc od osl, K.lookup (d.at_ K) = some ⟨oc, od, .func fd, osl⟩ → ∀ c, fd.code = .ref c → codeA K (d.at_ K) = c := fun fd oc od osl q c h => by
    unfold codeA
    rw [q]
    show (match fd.code with | .ref c => c | _ => 0) = c
    rw [h]
  cases q : K.lookup (d.at_ K) with
  | none =>
    rw [q] at c
    cases c
  | some o =>
    obtain ⟨oc, od, dt, osl⟩ := o
    rw [q] at c e
    cases dt with
    | func fd =>
      have ec' := ec fd oc od osl q
      obtain ⟨n1, n2, n3, n4, n5, n6, n7, n8, n9, n10, n11, n12, n13, n14, n15⟩ := fd
      have e2 : (some (n1, n2, n3, n4, n5) : FnS) = some (d.name, d.qual, defArgs d.st, .stmts (defBody d.st), defScope d.st) := e
      simp only [Option.some.injEq, Prod.mk.injEq] at e2
      obtain ⟨h1, h2, h3, h4, h5⟩ := e2
      obtain ⟨c1, c⟩ := ba c
      obtain ⟨c2, c⟩ := ba c
      obtain ⟨c3, c⟩ := ba c
      obtain ⟨c4, c⟩ := ba c
      obtain ⟨c5, c6⟩ := ba c
      have g1 : n6 = mainGlobals := of_decide_eq_true c1
      have g2 : n7 = d.cl K := of_decide_eq_true c2
      have g3 : n15 = builtinsNs := of_decide_eq_true c3
      have g4 : n8 = .none := noneB_ok c4
      have g5 : n9 = .none := noneB_ok c5
      obtain ⟨cc, hc⟩ := codeIn_ref c6
      have hc' : n13 = .ref cc := hc
      have e3 := ec' cc hc'
      subst h1 h2 h3 h4 h5 g1 g2 g3 g4 g5 hc'
      exact ⟨oc, od, n10, n11, n12, n14, osl, by rw [e3]; exact q, by rw [e3]; exact c6⟩
    | _ => cases c
/-! ### the Hook -/
def okAll (fa : List (Fr → Bool)) (fn : List Dn) (K : Fr) : Bool := (fa.all fun f => f K) && fn.all fun d => d.ok K
def tabsS (g : Addr → Option Obj) (tf : List (Fr → Addr)) (K : Fr) : Bool := tf.all fun p => PySem.W.codeHdIn K (codeA K (p K)) (tabOf K (codeA K (p K))) && (match g (tabOf K (codeA K (p K))) with
  | some o => emptyTab o
  | none => false)
def fragS (n : Nat) (g : Addr → Option Obj) : Fr := frT g (asD g n ++ [cStatics])
abbrev AlS : Type := Bool × List FnS
def obsS (n : Nat) (fa : List (Fr → Bool)) (fn : List Dn) (tf : List (Fr → Addr)) (g : Addr → Option Obj) : AlS := (okAll fa fn (fragS n g) && tabsS g tf (fragS n g), fn.map fun d => fnS (fragS n g) (d.at_ (fragS n g)))
def valS (fn : List Dn) : AlS := (true, fn.map Dn.val)
structure SaysS (fa : List (Fr → Bool)) (fn : List Dn) (tf : List (Fr → Addr)) (h : Heap) (K : Fr) : Prop where
  fa : ∀ f ∈ fa, f K = true
  fn : ∀ d ∈ fn, FunF K d.name d.qual d.st (d.cl K) (d.at_ K)
  hd : ∀ p ∈ tf, PySem.W.codeHdIn K (codeA K (p K)) (tabOf K (codeA K (p K))) = true
  out : ∀ p ∈ tf, K.lookup (tabOf K (codeA K (p K))) = none
  empty : ∀ p ∈ tf, h.get? (tabOf K (codeA K (p K))) = some { cls := .none, data := .fields #[] }
theorem saysS_of {n : Nat} {fa : List (Fr → Bool)} {fn : List Dn} {tf : List (Fr → Addr)} {h : Heap} (e : obsS n fa fn tf h.get? = valS fn) : SaysS fa fn tf h (fragS n h.get?) := by
  have e1 : (okAll fa fn (fragS n h.get?) && tabsS h.get? tf (fragS n h.get?)) = true := congrArg (fun z : AlS => z.1) e
  have e2 : (fn.map fun d => fnS (fragS n h.get?) (d.at_ (fragS n h.get?))) = fn.map Dn.val := congrArg (fun z : AlS => z.2) e
  obtain ⟨h1, h2⟩ := ba e1
  obtain ⟨h3, h4⟩ := ba h1
  have key : ∀ p ∈ tf, PySem.W.codeHdIn (fragS n h.get?) (codeA (fragS n h.get?) (p (fragS n h.get?))) (tabOf (fragS n h.get?) (codeA (fragS n h.get?) (p (fragS n h.get?)))) = true ∧
      ∃ o, h.get? (tabOf (fragS n h.get?) (codeA (fragS n h.get?) (p (fragS n h.get?)))) = some o ∧ emptyTab o = true := fun p hp => by
    obtain ⟨h5, h6⟩ := ba (List.all_eq_true.mp h2 p hp)
    refine ⟨h5, ?_⟩
    cases q : h.get? (tabOf (fragS n h.get?) (codeA (fragS n h.get?) (p (fragS n h.get?)))) with
    | none =>
      rw [q] at h6
      cases h6
    | some o =>
      rw [q] at h6
      exact ⟨o, rfl, h6⟩
  refine ⟨fun f hf => List.all_eq_true.mp h3 f hf, fun d hd => ?_, fun p hp => (key p hp).1, fun p hp => ?_, fun p hp => ?_⟩
  · obtain ⟨i, hi, ei⟩ := List.mem_iff_getElem.mp hd
    have e3 : (fn.map fun d => fnS (fragS n h.get?) (d.at_ (fragS n h.get?)))[i]? = (fn.map Dn.val)[i]? := by rw [e2]
    rw [List.getElem?_map, List.getElem?_map, List.getElem?_eq_getElem hi, ei] at e3
    exact Dn.funF (Option.some.inj e3) (List.all_eq_true.mp h4 d hd)
  · obtain ⟨_, o, q, z⟩ := key p hp
    exact frT_none q z
  · obtain ⟨_, o, q, z⟩ := key p hp
    rw [q, emptyTab_eq z]
def hookS (n : Nat) (fa : List (Fr → Bool)) (fn : List Dn) (tf : List (Fr → Addr)) : PySem.W.Hook where
  α := AlS
  obs := fun s => obsS n fa fn tf s.heap.get?
  val := fun _ => valS fn
  says := fun _ h => ∃ K : PySem.W.Frag, K.In h ∧ SaysS fa fn tf h K
  of := fun _ _ e => ⟨_, frT_in, saysS_of e⟩
  keeps := fun _ _ _ ⟨K, hK, c⟩ k => ⟨K, PySem.W.Frag.In.keeps hK k, ⟨c.fa, c.fn, c.hd, c.out, fun p hp => k _ _ (c.empty p hp)⟩⟩
theorem obsS_eq {n : Nat} {fa : List (Fr → Bool)} {fn : List Dn} {tf : List (Fr → Addr)} {g : Addr → Option Obj} {s : Shared} (h : ∀ a, g a = s.heap.get? a) : obsS n fa fn tf g = (hookS n fa fn tf).obs s := by
  have e : g = s.heap.get? := funext h
  rw [e] <;> rfl
section
variable {fa : List (Fr → Bool)} {fn : List Dn} {tf : List (Fr → Addr)} {h : Heap} {K : Fr}
theorem SaysS.fact (c : SaysS fa fn tf h K) (i : Nat) {f : Fr → Bool} (e : fa[i]? = some f := by rfl) : f K = true := c.fa f (List.mem_of_getElem? e)
theorem SaysS.def_ (c : SaysS fa fn tf h K) (i : Nat) {d : Dn} (e : fn[i]? = some d := by rfl) : FunF K d.name d.qual d.st (d.cl K) (d.at_ K) := c.fn d (List.mem_of_getElem? e)
end
/-! ### names of the module -/
section
variable {K : Fr} {h : Heap} {mg : Str → Option Value}
def gloB (K : Fr) (xs : List Str) : Bool := xs.all fun x => eqO (PySem.W.nsIn K mainGlobals x) (some (some (.ref (ga K x))))
theorem gloB_ok (X : K.In h) (G : h.Ns mainGlobals mg) {xs : List Str} (c : gloB K xs = true) {x : Str} (hx : x ∈ xs) : mg x = some (.ref (ga K x)) := PySem.W.mg_of X G (eqO_ok (List.all_eq_true.mp c x hx))
def freeB (K : Fr) (xs : List Str) : Bool := xs.all fun x => eqO (PySem.W.nsIn K mainGlobals x) (some none)
theorem freeB_ok (X : K.In h) (G : h.Ns mainGlobals mg) {xs : List Str} (c : freeB K xs = true) {x : Str} (hx : x ∈ xs) : mg x = none := PySem.W.mg_none_of X G (eqO_ok (List.all_eq_true.mp c x hx))
def keepB (K : Fr) (xs : List Str) : Bool := xs.all fun x => PySem.W.keepIn K (.ref (ga K x))
theorem keepB_ok {xs : List Str} (c : keepB K xs = true) {x : Str} (hx : x ∈ xs) : PySem.W.keepIn K (.ref (ga K x)) = true := List.all_eq_true.mp c x hx
end
/-! ### an own error whose __init__ says super().__init__(text) and stores a field -/
def oexB (K : Fr) (C : Addr) : Bool := match K.lookup C with
  | some ⟨.type t, _, .cls cd, sl⟩ => decide (t = "type") && (decide (cd.mro.head? = some (.ref C)) && (PySem.HandSPX.refsVE cd.mro.tail && (cd.hasDict && (!cd.hasDel && (match sl.toList with
    | [_, _, _, _, some (.builtin n), _] => decide (n = "ValueError.__new__")
    | _ => false)))))
  | _ => false
theorem oexB_ok {K : Fr} {C : Addr} (h : oexB K C = true) : ∃ nm q N bs bm sn sub ab col dd k0 k1 k2 k3 k5, K.lookup C = some (excClassObj nm q C N bs bm true sn sub ab col dd k0 k1 k2 k3 k5 "ValueError.__new__") ∧ PySem.HandSPX.refsVE bm = true := by
  unfold oexB at h
  split at h
  · rename_i t dd cd sl e
    obtain ⟨h1, h⟩ := ba h
    obtain ⟨h2, h⟩ := ba h
    obtain ⟨h3, h⟩ := ba h
    obtain ⟨h4, h⟩ := ba h
    obtain ⟨h5, h6⟩ := ba h
    split at h6
    · rename_i k0 k1 k2 k3 n k5 hs
      obtain ⟨nm, bs, mro, N, q, hd, sn, sub, ab, col, hdel⟩ := cd
      have a1 : t = "type" := of_decide_eq_true h1
      have a2 : mro.head? = some (.ref C) := of_decide_eq_true h2
      have a4 : hd = true := h4
      have a5 : hdel = false := by
        cases z : hdel with
        | false => rfl
        | true =>
          have h5' : (!hdel) = true := h5
          rw [z] at h5'
          cases h5'
      have a6 : n = "ValueError.__new__" := of_decide_eq_true h6
      have a7 : sl = #[k0, k1, k2, k3, some (.builtin n), k5] := by
        have z : sl.toList.toArray = [k0, k1, k2, k3, some (.builtin n), k5].toArray := by rw [hs]
        simpa using z
      cases mro with
      | nil => cases a2
      | cons m0 bm =>
        have a8 : m0 = .ref C := Option.some.inj a2
        subst a1 a4 a5 a6 a7 a8
        exact ⟨nm, q, N, bs, bm, sn, sub, ab, col, dd, k0, k1, k2, k3, k5, e, h3⟩
    · cases h6
  · cases h
def cellB (K : Fr) (cc C : Addr) : Bool := match K.lookup cc with
  | some ⟨_, _, .cell (some (.ref D)), _⟩ => decide (D = C)
  | _ => false
theorem cellB_ok {K : Fr} {cc C : Addr} (h : cellB K cc C = true) : ∃ (cl : Value) (cld : Option Addr) (csl : Array (Option Value)), K.lookup cc = some ⟨cl, cld, .cell (some (.ref C)), csl⟩ := by
  unfold cellB at h
  split at h
  · rename_i cl cld D csl e
    rw [of_decide_eq_true h] at e
    exact ⟨cl, cld, csl, e⟩
  · cases h
def fileB (K : Fr) (c : Addr) (file : Str) : Bool := match K.lookup c with
  | some ⟨_, _, .fields vs, _⟩ => (match (vs[2]? : Option Value) with
    | some (.str fl _) => file == fl
    | _ => false)
  | _ => false
theorem fileB_ok {K : Fr} {c : Addr} {file : Str} (h : fileB K c file = true) : ∃ (oc : Value) (od : Option Addr) (vs : Array Value) (sl : Array (Option Value)) (fl : Str) (tf : Tok), K.lookup c = some ⟨oc, od, .fields vs, sl⟩ ∧ vs[2]? = some (.str fl tf) ∧ (file == fl) = true := by
  unfold fileB at h
  split at h
  · rename_i oc od vs sl e
    split at h
    · rename_i fl tf e2
      exact ⟨oc, od, vs, sl, fl, tf, e, e2, h⟩
    · cases h
  · cases h
/-- where an error's __init__ stands -/
def eInit (K : Fr) (x : Str) : Addr := ma K (ga K x) "__init__"
def errB (file : Str) (K : Fr) (x fld : Str) : Bool :=
  oexB K (ga K x) && (cellB K (cellA K (eInit K x)) (ga K x) && (fileB K (codeA K (eInit K x)) file && (PySem.W.isClsIn K (ga K x) && (eqO (PySem.W.nsIn K cStatics "thirdparty.any") (some none) &&
  (decide (PySem.W.mroIn K (ga K x) (.ref (ga K x)) = some true) && (eqO (PySem.W.ks_superIn K (ga K x) (ga K x) "__init__") (some (some (.builtin ShX.veI))) && (decide (PySem.W.subIn K (.ref (ga K x)) (.type "ValueError") = some true) &&
  (xfB K (ga K x) && (eqO (PySem.W.findIn K (.ref (ga K x)) fld) (some none) && (decide (PySem.W.exmOne K (.ref (ga K x)) (.ref (ga K x)) = some true) && (eqO (PySem.W.findIn K (.ref (ga K x)) "__init__") (some (some (.ref (eInit K x)))) &&
  (decide (PySem.W.typeIn K (.ref (eInit K x)) = some (.type "function")) && (eqO (PySem.W.findIn K (.ref (ga K x)) "__setattr__") (some (some (.builtin "object.__setattr__"))) && (decide (PySem.W.subIn K (.ref (ga K x)) (.type "BaseException") = some true) &&
  (decide (PySem.W.typeIn K (.ref (ga K x)) = some (.type "type")) && PySem.W.keepIn K (.ref (ga K x)))))))))))))))))
section
variable {K : Fr} {h : Heap} {mg : Str → Option Value} {P : Program}
/-- the pieces of errB -/
structure ErrF (file : Str) (K : Fr) (x fld : Str) : Prop where
  oex : OexC K (ga K x)
  cell : ∃ (cl : Value) (cld : Option Addr) (csl : Array (Option Value)), K.lookup (cellA K (eInit K x)) = some ⟨cl, cld, .cell (some (.ref (ga K x))), csl⟩
  file : ∃ (oc : Value) (od : Option Addr) (vs : Array Value) (sl : Array (Option Value)) (fl : Str) (tf : Tok), K.lookup (codeA K (eInit K x)) = some ⟨oc, od, .fields vs, sl⟩ ∧ vs[2]? = some (.str fl tf) ∧ (file == fl) = true
  isC : PySem.W.isClsIn K (ga K x) = true
  opq : PySem.W.nsIn K cStatics "thirdparty.any" = some none
  sup : SupCls K (ga K x) (ga K x)
  xf : XfC K (ga K x)
  no : PySem.W.findIn K (.ref (ga K x)) fld = some none
  exm : PySem.W.exmOne K (.ref (ga K x)) (.ref (ga K x)) = some true
  ini : PySem.W.findIn K (.ref (ga K x)) "__init__" = some (some (.ref (eInit K x)))
  ity : PySem.W.typeIn K (.ref (eInit K x)) = some (.type "function")
theorem errB_ok {file x fld : Str} (c : errB file K x fld = true) : ErrF file K x fld := by
  obtain ⟨c1, c⟩ := ba c
  obtain ⟨c2, c⟩ := ba c
  obtain ⟨c3, c⟩ := ba c
  obtain ⟨c4, c⟩ := ba c
  obtain ⟨c5, c⟩ := ba c
  obtain ⟨c6, c⟩ := ba c
  obtain ⟨c7, c⟩ := ba c
  obtain ⟨c8, c⟩ := ba c
  obtain ⟨c9, c⟩ := ba c
  obtain ⟨c10, c⟩ := ba c
  obtain ⟨c11, c⟩ := ba c
  obtain ⟨c12, c⟩ := ba c
  obtain ⟨c13, c⟩ := ba c
  obtain ⟨c14, c⟩ := ba c
  obtain ⟨c15, c⟩ := ba c
  obtain ⟨c16, c17⟩ := ba c
  have O : OexC K (ga K x) := ⟨oexB_ok c1, eqO_ok c14, of_decide_eq_true c15, of_decide_eq_true c16, c17⟩
  exact ⟨O, cellB_ok c2, fileB_ok c3, c4, eqO_ok c5, ⟨O, of_decide_eq_true c6, eqO_ok c7, of_decide_eq_true c8⟩, xfB_ok c9, eqO_ok c10, of_decide_eq_true c11, eqO_ok c12, of_decide_eq_true c13⟩
/-- the text of its __init__ -/
theorem err_txt {file x fld qual : Str} {st : Stmt} (E : ErrF file K x fld) (D : FunF K "__init__" qual st [(("__class__" : Str), cellA K (eInit K x))] (eInit K x)) (hf : P.main.file = file) (sup : mg "super" = none)
    (h1 : ∃ ar : Arg, ((defArgs st).posonlyargs ++ (defArgs st).args).head? = some ar ∧ ar.arg = ("self" : Str)) (h2 : (P.main.scope.names.lookup ("super" : Str)).isSome = false)
    (h3 : (defScope st).names.lookup ("super" : Str) = some .globalImplicit) (h4 : (defScope st).names.lookup ("__class__" : Str) = some .free) (h5 : (defScope st).names.lookup ("self" : Str) = some .local) :
    SupTxt P K mg ⟨"__init__", qual, defArgs st, defBody st, defScope st, [(("__class__" : Str), cellA K (eInit K x))], codeA K (eInit K x)⟩ (eInit K x) (cellA K (eInit K x)) (ga K x) := by
  obtain ⟨oc, od, doc, pm, an, ct, osl, lk, hcd⟩ := D.ex
  exact ⟨⟨oc, od, doc, pm, an, ct, osl, lk⟩, hcd, E.cell, rfl, by rw [hf]; exact E.file, h1, sup, h2, h3, h4, h5, E.isC, E.opq⟩
end
/-! ### an own error without a field, a property, an operator -/
def ernB (K : Fr) (x : Str) : Bool := PySem.W.excIn K (ga K x) veBase "ValueError.__new__" && (PySem.W.keepIn K (.ref (ga K x)) && (decide (PySem.W.subIn K (.ref (ga K x)) (.type "BaseException") = some true) && (decide (PySem.W.typeIn K (.ref (ga K x)) = some (.type "type")) &&
  decide (PySem.W.exmOne K (.ref (ga K x)) (.ref (ga K x)) = some true))))
/-- the getter of a property -/
def getA (K : Fr) (C : Addr) (m : Str) : Addr := He5.wf K C "property" m
def propB (K : Fr) (C : Addr) (m : Str) : Bool := eqO (PySem.W.findIn K (.ref C) m) (some (some (.ref (ma K C m)))) && (eqO (PySem.W.specialIn K (.ref (ma K C m)) "__get__") (some (some (.builtin "property.__get__"))) && (decide (PySem.W.takesIn K (.ref (ma K C m)) = some true) &&
  (match PySem.W.recIn K (ma K C m) "property" with
    | some (.ref _ :: _) => true
    | _ => false)))
theorem propB_ok {K : Fr} {C : Addr} {m : Str} (c : propB K C m = true) : PropOf K C m (ma K C m) (getA K C m) := by
  obtain ⟨c1, c⟩ := ba c
  obtain ⟨c2, c⟩ := ba c
  obtain ⟨c3, c4⟩ := ba c
  refine ⟨eqO_ok c1, eqO_ok c2, of_decide_eq_true c3, ?_⟩
  unfold getA He5.wf
  split at c4
  · rename_i f r e
    exact ⟨r, by rw [e]⟩
  · cases c4
/-- a def of the class under a name that Python itself looks up -/
def dunB (K : Fr) (C : Addr) (m : Str) : Bool := eqO (PySem.W.findIn K (.ref C) m) (some (some (.ref (ma K C m)))) && (PySem.W.isFn K (.ref (ma K C m)) && (PySem.W.fnIn K (ma K C m) && PySem.W.keepIn K (.ref (ma K C m))))
structure DunF (K : Fr) (C : Addr) (m : Str) : Prop where
  at_ : PySem.W.findIn K (.ref C) m = some (some (.ref (ma K C m)))
  isF : PySem.W.isFn K (.ref (ma K C m)) = true
  fn : PySem.W.fnIn K (ma K C m) = true
  kp : PySem.W.keepIn K (.ref (ma K C m)) = true
theorem dunB_ok {K : Fr} {C : Addr} {m : Str} (c : dunB K C m = true) : DunF K C m := by
  obtain ⟨c1, c⟩ := ba c
  obtain ⟨c2, c⟩ := ba c
  obtain ⟨c3, c4⟩ := ba c
  exact ⟨eqO_ok c1, c2, c3, c4⟩
theorem DunF.meth {K : Fr} {C : Addr} {m : Str} (d : DunF K C m) : Meth K C m (ma K C m) := ⟨d.at_, d.isF, d.kp⟩
theorem DunF.mkr {K : Fr} {C : Addr} (d : DunF K C "__init__") (m : PySem.W.makesIn K C = true) (k : PySem.W.keepIn K (.ref C) = true) : Mk K C (ma K C "__init__") := ⟨m, d.at_, d.isF, k⟩
theorem DunF.callO {K : Fr} {C : Addr} (d : DunF K C "__call__") : StX.CallO K C (ma K C "__call__") := ⟨d.at_, d.isF, d.fn⟩
/-! ### functions without a closure -/
section
variable {K : Fr} {x qual : Str} {st : Stmt} {f : Addr}
/-- its object -/
theorem FunF.funW (F : FunF K x qual st [] f) (kp : PySem.W.keepIn K (.ref f) = true) : ∃ fd, L2.Fun K x qual st f fd ∧ (∀ ps : List Str, (∀ (kV doc pm : Value) (an : Option Addr) (cdv ct : Value) (us : List Value), us.length = ps.length → bindArgs (PySem.W.fnOf x qual (defArgs st) (defBody st) (defScope st) .none kV doc pm an cdv ct) ⟨us, []⟩ = pure (ps.zip us)) → Binds K fd ps []) ∧
    ∀ ps : List Str, (∀ (kV doc pm : Value) (an : Option Addr) (cdv ct : Value) (us : List Value), us.length = ps.length → bindArgs (PySem.W.fnOf x qual (defArgs st) (defBody st) (defScope st) .none kV doc pm an cdv ct) ⟨us, []⟩ = pure (ps.zip us)) → ∀ (s : Shared) (us : List Value), us.length = ps.length → BindsTo s fd ⟨us, []⟩ (ps.zip us) := by
  obtain ⟨oc, od, doc, pm, an, ct, osl, lk, hcd⟩ := F.ex
  exact ⟨_, ⟨⟨oc, od, .none, doc, pm, an, _, ct, osl, rfl, lk, hcd⟩, kp⟩, fun ps h => .all (h .none doc pm an _ ct), fun ps h s us hl => .of_eq (h .none doc pm an _ ct us hl)⟩
end
end Shh
set_option Elab.async false
set_option linter.all false
set_option maxRecDepth 100000
set_option maxHeartbeats 2000000
/-! Lambdas as objects that are known: made (with a default or without), called. -/
namespace Sho
open PySem PySem.Spec PyProof.Rows L2 LamX NdefX

/-- a lambda's words: those of a def without a body, its expression, its defaults -/
structure LF where
  F : NF
  e : Expr
  dV : Value
abbrev LF.fd (Z : LF) (pm ctv : Value) : FuncData :=
  { PySem.W.kla_fn Z.F.name Z.F.qual Z.F.params Z.e Z.F.scope Z.F.cl pm (.ref Z.F.c) ctv with defaults := Z.dV }
/-- the object at f is that lambda -/
def LamO (f : Addr) (Z : LF) : HO :=
  .ext fun g => ∃ pm ctv : Value, g.get? f = some (({ cls := .type "function", data := .func (Z.fd pm ctv) }) : Obj)
theorem lamO_ne {f : Addr} {Z : LF} (qs : Array Value) : LamO f Z ≠ .tbl qs := fun h => nomatch h
theorem lamO_at {P : Program} {w : World} {H : Hp} {h : Heap} {f : Addr} {Z : LF} (ok : HOk P w H h) (hf : H f = some (LamO f Z)) :
    ∃ pm ctv : Value, h.get? f = some (({ cls := .type "function", data := .func (Z.fd pm ctv) }) : Obj) := by
  obtain ⟨x, _, _⟩ := ok f _ hf
  exact x
/-- nothing that was known is forgotten, but for the tables -/
structure Grows (T : List (Addr × Str)) (H H1 : Hp) : Prop where
  ext : ExtN H H1
  tab : Tabs T H → Tabs T H1
theorem Grows.rfl' {T : List (Addr × Str)} (H : Hp) : Grows T H H := ⟨ExtN.refl H, id⟩
theorem Grows.trans {T : List (Addr × Str)} {H H1 H2 : Hp} (a : Grows T H H1) (b : Grows T H1 H2) : Grows T H H2 := ⟨a.ext.trans b.ext, fun t => b.tab (a.tab t)⟩
theorem Grows.upd {T : List (Addr × Str)} {H : Hp} {p : Addr} {o : HO} (hp : H p = none) : Grows T H (L2.upd H p o) := by
  have e : ∀ b u, H b = some u → L2.upd H p o b = some u := fun b u q => (upd_ne (ne_of_none q hp)).trans q
  exact ⟨ExtN.of e, fun t => Tabs.ext t e⟩
/-- the words of a lambda that is made in X -/
abbrev mkLF (X : Cx) (params : Arguments) (body : Expr) (scope : Scope) (c' : Addr) (dV : Value) : LF :=
  ⟨⟨"<lambda>", X.env.qual ++ "<lambda>", params, [], scope, cloFrom X.env.cells scope.names [], c'⟩, body, dV⟩
section
variable {M : Model} {A : Around} {E : Value → Shared → Prop} {s : Shared}
/-- the making's end, the code object by a premise -/
theorem tail_d {name qual : Str} {params : Arguments} {body : Expr} {scope : Scope} {env : Env} {dV : Value} {pos : Pos} {fl : Nat} {clos : List (Str × Addr)} {mg : Str → Option Value} {Pl : Addr} {Q : Value → Shared → Prop}
    (hcl : closureFor scope env = pure clos) (hge : env.globals = mainGlobals)
    (h : ∀ h1 ctv, (∀ b o, s.heap.get? b = some o → h1.get? b = some o) → s.heap.objs.size ≤ h1.objs.size →
      wpAny M A (functionCode env pos fl name qual params scope (.expr body)) (fun cv s2 => s2.heap.Ns mainGlobals mg ∧ s2.heap.BuiltinsAt mg Pl ∧
        Q (.ref s2.heap.objs.size) { s2 with heap := s2.heap.push { cls := .type "function", data := .func { PySem.W.kla_fn name qual params body scope clos ((mg "__name__").getD .none) cv ctv with defaults := dV } } }) E { s with heap := h1 }) :
    wpAny M A (makeTail name qual params (.expr body) scope env dV .none none pos fl) Q E s := by
  unfold makeTail
  rw [hcl]
  refine wpAny_bind (wpAny_pure ?_)
  cases clos with
  | nil =>
    simp only [List.isEmpty_nil, if_true]
    refine wpAny_bind (wpAny_pure (wpAny_bind (wpAny_mono (h s.heap .none (fun _ _ e => e) (Nat.le_refl _)) (fun cv s2 x => ?_) fun _ _ x => x)))
    obtain ⟨g2, ⟨bm, ob, b1, b2, _, _, b5, b6, b7, b8⟩, q⟩ := x
    rw [hge]
    exact wpAny_bind (wpAny_builtinsFor g2 b1 b2 b5 b6 b7 b8 (wpAny_bind (wpAny_nsGet g2 (wpAny_bind (wpAny_pure (wpAny_newObj_type q (by size_fits)))))))
  | cons c r =>
    simp only [List.isEmpty_cons, Bool.false_eq_true, if_false]
    refine wpAny_bind (wpAny_newTextTuple (wpAny_bind (wpAny_mono (h _ (.ref s.heap.objs.size) (fun _ _ e => Heap.get?_push_of_some _ e) (by rw [Heap.size_push]; omega)) (fun cv s2 x => ?_) fun _ _ x => x)))
    obtain ⟨g2, ⟨bm, ob, b1, b2, _, _, b5, b6, b7, b8⟩, q⟩ := x
    rw [hge]
    exact wpAny_bind (wpAny_builtinsFor g2 b1 b2 b5 b6 b7 b8 (wpAny_bind (wpAny_nsGet g2 (wpAny_bind (wpAny_pure (wpAny_newObj_type q (by size_fits)))))))
end
section
variable {X : Cx} {pins : List (Addr × Obj)} {σ : L2.St} {H : Hp} {s : Shared}
theorem lamO_new {Z : LF} {tk : Nat} {pm ctv : Value} (I : Inv X pins σ H s) :
    Inv X pins σ (upd H s.heap.objs.size (LamO s.heap.objs.size Z))
      { s with heap := s.heap.push (({ cls := .type "function", data := .func (Z.fd pm ctv) }) : Obj), toks := tk } := by
  refine I.laid (fun b u e => Heap.get?_push_of_some _ e) (Nat.le_refl _) ?_
  have here : (s.heap.push (({ cls := .type "function", data := .func (Z.fd pm ctv) }) : Obj)).get? s.heap.objs.size = some (({ cls := .type "function", data := .func (Z.fd pm ctv) }) : Obj) :=
    Heap.get?_push_size _ rfl
  exact ⟨⟨pm, ctv, here⟩, ⟨_, here⟩, fun g1 g2 ⟨p, t, z⟩ st => ⟨p, t, st _ z⟩⟩

theorem lam_made {T : List (Addr × Str)} {c P : Addr} {params : Arguments} {body : Expr} {scope : Scope} {pos : Pos} {dV : Value} {E : Value → Shared → Prop} {Q : Value → Shared → Prop}
    (I : Inv X pins σ H s) (TB : TabB X.base X.mg c P) (hcode : X.env.code = .ref c)
    (hm : (P, X.env.qual ++ "<lambda>") ∈ T) (hu : ∀ p ∈ T, p.1 = P → p.2 = X.env.qual ++ "<lambda>") (hT : Tabs T H)
    (hcl : ∀ y ∈ scope.names, y.2 = .free → ∃ c, X.env.cells.lookup y.1 = some c)
    (h : ∀ (f c' : Addr) (H1 : Hp) (s' : Shared), Inv X pins σ H1 s' → Grows T H H1 → H f = none →
      H1 f = some (LamO f (mkLF X params body scope c' dV)) → H1 c' = some (CodeO c' (X.env.qual ++ "<lambda>")) → Q (.ref f) s') :
    wpAny (model X.prog X.w) X.A (makeTail "<lambda>" (X.env.qual ++ "<lambda>") params (.expr body) scope X.env dV .none none pos pos.line) Q E s := by
  obtain ⟨qs, hP, tri, among⟩ := (show TabS H P (X.env.qual ++ "<lambda>") from hT _ hm)
  refine tail_d (mg := X.mg) (Pl := P) (closure_ok hcl) I.ok.glob fun h1 ctv k1 z1 => ?_
  have I1 : Inv X pins σ H { s with heap := h1 } := I.kept (t' := s.toks) k1
  have hgP : h1.get? P = some { cls := .none, data := .fields qs } := I1.hok P _ hP
  have hbP := TB.bm.keeps I1.bk
  have CH := TB.code.keeps I1.bk
  cases hit : codeAmong pos qs.toList with
  | some cv =>
    obtain ⟨c', rfl, kc⟩ := among pos cv hit
    refine wpAny_functionCode_hit hcode (CH.code hgP tri) hit ⟨I1.mod.glob.keeps I1.bk, hbP, ?_⟩
    have nF : H h1.objs.size = none := I1.hok.fresh (Nat.le_refl _)
    exact h h1.objs.size c' _ _ (lamO_new (Z := mkLF X params body scope c' dV) (pm := (X.mg "__name__").getD .none) (ctv := ctv) (tk := s.toks) I1) (Grows.upd nF) nF upd_same
      ((upd_ne (ne_of_none kc nF)).trans kc)
  | none =>
    refine wpAny_functionCodeX hcode (CH.code hgP tri) (CH.tab hgP) hit fun c' h' tk hx hge hlt _ hrec htb _ => ?_
    have gl := (I1.mod.glob.keeps I1.bk).extBut hx TB.gP
    have bl : h'.BuiltinsAt X.mg P := by
      obtain ⟨bm, ob, b1, b2, b3, b4, b5, b6⟩ := hbP
      exact ⟨bm, ob, b1, b2, b3, b4, hx _ _ b4 b5, b6⟩
    refine ⟨gl, bl, ?_⟩
    obtain ⟨c2, oc, vs, t, e2, hoc, hd, hv⟩ := hrec
    cases e2
    have nC : H c' = none := I1.hok.fresh hge
    have J := inv_table (q := X.env.qual ++ "<lambda>") (t' := tk) (more := #[rawInt pos.line, rawInt pos.col, .ref c']) (h' := h') I1 hP (fun b o hb e => hx b o hb e) htb.2 hge ⟨oc, vs, t, hoc, hd, hv⟩
    generalize hH2 : L2.upd (L2.upd H P (.tbl (qs ++ #[rawInt pos.line, rawInt pos.col, .ref c']))) c' (CodeO c' (X.env.qual ++ "<lambda>")) = H2 at J
    have kC : H2 c' = some (CodeO c' (X.env.qual ++ "<lambda>")) := by rw [← hH2]; exact upd_same
    have ext : ExtN H H2 := fun b o e n => by
      have nP : b ≠ P := by
        rintro rfl
        exact n qs (Option.some.inj (e.symm.trans hP))
      rw [← hH2, upd_ne (ne_of_none e nC), upd_ne nP]
      exact e
    have eL : (qs ++ #[rawInt pos.line, rawInt pos.col, .ref c']).toList = qs.toList ++ [rawInt pos.line, rawInt pos.col, .ref c'] := by simp
    have tabs2 : Tabs T H2 := by
      intro p hp
      by_cases hb : p.1 = P
      · rw [hu p hp hb, hb]
        refine ⟨qs ++ #[rawInt pos.line, rawInt pos.col, .ref c'], ?_, ?_, ?_⟩
        · rw [← hH2, upd_ne (ne_of_none hP nC), upd_same]
        · rw [eL]
          exact PySem.TriplesOk_snoc _ _ _ _ tri
        · intro p' cv hcv
          rw [eL] at hcv
          rcases among_app _ tri hcv with z | z
          · obtain ⟨c0, f1, f2⟩ := among p' cv z
            exact ⟨c0, f1, ext _ _ f2 codeO_ne⟩
          · exact ⟨c', z, kC⟩
      · obtain ⟨qs', q1, q2, q3⟩ := hT p hp
        refine ⟨qs', ?_, q2, ?_⟩
        · rw [← hH2, upd_ne (ne_of_none q1 nC), upd_ne hb]
          exact q1
        · intro p' cv hcv
          obtain ⟨c0, f1, f2⟩ := q3 p' cv hcv
          exact ⟨c0, f1, ext _ _ f2 codeO_ne⟩
    have nF : H2 h'.objs.size = none := J.hok.fresh (Nat.le_refl _)
    have g2 : Grows T H2 (L2.upd H2 h'.objs.size (LamO h'.objs.size (mkLF X params body scope c' dV))) := Grows.upd nF
    exact h h'.objs.size c' _ _ (lamO_new (Z := mkLF X params body scope c' dV) (pm := (X.mg "__name__").getD .none) (ctv := ctv) (tk := tk) J) (Grows.trans ⟨ext, fun _ => tabs2⟩ g2)
      (I1.hok.fresh (Nat.le_trans hge (Nat.le_of_lt hlt))) upd_same (g2.ext _ _ kC codeO_ne)
end

/-! ### calls -/
section
variable {CX : CXT} {P : Program} {w : World} {K : PySem.W.Frag} {mg : Str → Option Value} {base : Heap} {N ps fr : List Str} {Z : LF} {f : Addr} {k : Nat}
/-- the body's context, at its entry -/
abbrev lcx (CX : CXT) (P : Program) (w : World) (K : PySem.W.Frag) (mg : Str → Option Value) (base : Heap) (N : List Str) (Z : LF) (f : Addr) (A : Around) (outer : List Env) (s : Shared) (H : Hp) (E : XK) : Cx :=
  ncx CX P w K mg base N Z.F f A outer s H E
theorem lam_call {A : Around} {outer : List Env} {s : Shared} {H : Hp} {args : Args} {us : List Value} {vs : List V} {ws : List (Option V)} {Q : VK} {E : XK} {t : TE} {pm ctv : Value}
    (S : NScope N ps fr Z.F.scope) (hr : Room (k + 1) A) (e0 : Env0 P w K mg base A outer s H)
    (ho : s.heap.get? f = some (({ cls := .type "function", data := .func (Z.fd pm ctv) }) : Obj)) (hcr : s.heap.CodeRec (.ref Z.F.c) Z.F.qual)
    (hb : BindsTo s (Z.fd pm ctv) args (ps.zip us)) (hl : vs.length = ps.length) (C : CellsAt Z.F.cl fr ws s.heap H) (r : Vals vs us)
    (hbody : Room k (A.deeper (envF Z.F f s.heap.objs.size)) → PE (lcx CX P w K mg base N Z f A outer s H E) Z.e t) (hq : t (startF N vs ws) H Q) :
    codeAny (model P w) A (.call (.ref f) args) (CR CX outer P w H s Q E) s := by
  have nolim : s.heap.NoLimit := e0.mod.nolimit.keeps fun b o e => (e0.bs b o e).1
  refine PySem.W.kla_callFunE hr.depth ho rfl S.co S.gen rfl hcr ?_
  refine hb _ _ _ _ ?_
  refine wpAny_newFunctionEnv S.nocell (fun ⟨n, _⟩ hy => S.par n (List.of_mem_zip hy).1) (fun h₁ hns hsb => ⟨nolim.fresh _ hsb, ?_⟩) S.kind
  show codeAny _ _ (.expr Z.e (envF Z.F f s.heap.objs.size)) _ _
  have kp : ∀ b o, s.heap.get? b = some o → h₁.get? b = some o :=
    fun b o e => hsb.extBut b o (Nat.ne_of_lt (Heap.lt_size e)) (Heap.get?_push_of_some _ e)
  have J : Inv (lcx CX P w K mg base N Z f A outer s H E) [] (startF N vs ws) H { s with heap := h₁, toks := s.toks + (ps.zip us).length } :=
    inv_startN S hr.hd e0 hl r C hns kp
  refine PySem.W.kla_codeExpr (wpAny_mono ((hbody (hr.deeper _)).run [] _ _ H Q J hq) (fun v s' hh => ?_) fun e s' hh => hh)
  obtain ⟨v', H', J', rv, q⟩ := hh
  exact ⟨v', H', J'.os, J'.bare, J'.base, J'.hok, rv, q⟩
/-- what the heap knows of a lambda at f -/
structure LamAt (H : Hp) (f : Addr) (Z : LF) : Prop where
  o : H f = some (LamO f Z)
  c : H Z.F.c = some (CodeO Z.F.c Z.F.qual)
  d : ∀ T : Addr, Z.dV = .ref T → ∃ xs, H T = some (.tup xs) ∧ xs = [.int 0]
theorem LamAt.ext {H H1 : Hp} (a : LamAt H f Z) (e : ExtN H H1) : LamAt H1 f Z :=
  ⟨e _ _ a.o lamO_ne, e _ _ a.c codeO_ne, fun T h => (a.d T h).elim fun xs q => ⟨xs, e _ _ q.1 (fun ps z => nomatch z), q.2⟩⟩
abbrev SpL := List (Option V) → Hp → VK → XK → Prop
/-- f may be called without arguments; cl, fr: its captured cells; sp: by what they hold -/
def Act (P : Program) (w : World) (K : PySem.W.Frag) (mg : Str → Option Value) (base : Heap) (CX : CXT) (k : Nat) (cl : List (Str × Addr)) (fr : List Str) (sp : SpL) (f : Addr) (H : Hp) : Prop :=
  ∃ Z : LF, Z.F.cl = cl ∧ LamAt H f Z ∧ ∀ (A : Around) (outer : List Env) (s : Shared) (H' : Hp) (ws : List (Option V)) (Q : VK) (E : XK), Room k A → Env0 P w K mg base A outer s H' → LamAt H' f Z →
    CellsAt cl fr ws s.heap H' → sp ws H' Q E → codeAny (model P w) A (.call (.ref f) ⟨[], []⟩) (CR CX outer P w H' s Q E) s
theorem Act.ext {cl : List (Str × Addr)} {sp : SpL} {H H1 : Hp} (a : Act P w K mg base CX k cl fr sp f H) (e : ExtN H H1) : Act P w K mg base CX k cl fr sp f H1 := by
  obtain ⟨Z, h1, h2, h3⟩ := a
  exact ⟨Z, h1, h2.ext e, h3⟩
theorem Act.mono {cl : List (Str × Addr)} {sp sp' : SpL} {H : Hp} {k' : Nat} (a : Act P w K mg base CX k cl fr sp f H) (h : k ≤ k') (i : ∀ ws H Q E, sp' ws H Q E → sp ws H Q E) : Act P w K mg base CX k' cl fr sp' f H := by
  obtain ⟨Z, h1, h2, h3⟩ := a
  exact ⟨Z, h1, h2, fun A outer s H' ws Q E hr e0 l c q => h3 A outer s H' ws Q E (hr.mono h) e0 l c (i _ _ _ _ q)⟩
/-- a lambda without parameters -/
theorem act0 {sp : SpL} {H : Hp} (l : LamAt H f Z) (S : NScope N [] fr Z.F.scope) (hb : ∀ pm ctv : Value, bindArgs (Z.fd pm ctv) ⟨[], []⟩ = pure [])
    (hbody : ∀ (A : Around) (outer : List Env) (s : Shared) (H : Hp) (ws : List (Option V)) (Q : VK) (E : XK), Room k (A.deeper (envF Z.F f s.heap.objs.size)) → ws.length = fr.length → sp ws H Q E →
      ∃ t, PE (lcx CX P w K mg base N Z f A outer s H E) Z.e t ∧ t (startF N [] ws) H Q) : Act P w K mg base CX (k + 1) Z.F.cl fr sp f H := by
  refine ⟨Z, rfl, l, fun A outer s H' ws Q E hr e0 l' C h => ?_⟩
  obtain ⟨pm, ctv, ho⟩ := lamO_at e0.hok l'.o
  obtain ⟨t, ht, hq⟩ := hbody A outer s H' ws Q E (hr.deeper _) C.len h
  exact lam_call (ps := []) (us := []) S hr e0 ho (codeO_at e0.hok l'.c) (.of_eq (hb pm ctv)) rfl C .nil (fun _ => ht) hq
/-- .. of one parameter, whose default is 0 -/
theorem act1 {x : Str} {T : Addr} {sp : SpL} {H : Hp} (l : LamAt H f Z) (hT : Z.dV = .ref T) (S : NScope N [x] fr Z.F.scope)
    (hb : ∀ (pm ctv u : Value), ∃ kk, bindArgs (Z.fd pm ctv) ⟨[], []⟩ = seqItems? Z.dV >>= kk ∧ kk (some #[u]) = pure [(x, u)])
    (hbody : ∀ (A : Around) (outer : List Env) (s : Shared) (H : Hp) (ws : List (Option V)) (Q : VK) (E : XK), Room k (A.deeper (envF Z.F f s.heap.objs.size)) → ws.length = fr.length → sp ws H Q E →
      ∃ t, PE (lcx CX P w K mg base N Z f A outer s H E) Z.e t ∧ t (startF N [.int 0] ws) H Q) : Act P w K mg base CX (k + 1) Z.F.cl fr sp f H := by
  refine ⟨Z, rfl, l, fun A outer s H' ws Q E hr e0 l' C h => ?_⟩
  obtain ⟨pm, ctv, ho⟩ := lamO_at e0.hok l'.o
  obtain ⟨xs, hx, rfl⟩ := l'.d T hT
  obtain ⟨_, its, rv, ht1⟩ := e0.hok T _ hx
  cases rv with
  | @cons _ u _ _ ru rn =>
  cases rn
  obtain ⟨t, ht, hq⟩ := hbody A outer s H' ws Q E (hr.deeper _) C.len h
  obtain ⟨kk, b1, b2⟩ := hb pm ctv u
  obtain ⟨oT, g1, _, n, g3⟩ := ht1
  refine lam_call (ps := [x]) (us := [u]) S hr e0 ho (codeO_at e0.hok l'.c) ?_ rfl C (.cons ru .nil) (fun _ => ht) hq
  exact BindsTo.of_defaults (fd := Z.fd pm ctv) (k := kk) hT g1 g3 b1 b2
end

/-! ### the rules: a lambda as a value -/
section
variable {X : Cx} {T : List (Addr × Str)} {c P : Addr} {params : Arguments} {body : Expr} {scope : Scope} {pos : Pos}
/-- the new lambda stands at f; mk: its words by its code object and its defaults -/
def tLamO (T : List (Addr × Str)) (mk : Addr → Value → LF) : TE := fun σ H Q => Tabs T H ∧ ∀ (f c' : Addr) (H1 : Hp), Grows T H H1 → H f = none → LamAt H1 f (mk c' .none) → Q (.ref f) H1
def tLamD (T : List (Addr × Str)) (mk : Addr → Value → LF) : TE := fun σ H Q => Tabs T H ∧ ∀ (f c' t : Addr) (H1 : Hp), Grows T H H1 → H f = none → LamAt H1 f (mk c' (.ref t)) → Q (.ref f) H1
theorem pe_lam (TB : TabB X.base X.mg c P) (hcode : X.env.code = .ref c)
    (hm : (P, X.env.qual ++ "<lambda>") ∈ T) (hu : ∀ p ∈ T, p.1 = P → p.2 = X.env.qual ++ "<lambda>")
    (hfree : ∀ y ∈ scope.names, y.2 = .free → X.env.scope.names.lookup y.1 = some .cell ∨ X.env.scope.names.lookup y.1 = some .free) (hdef : defaultsOf params X.env = ([], []) := by exact rfl) :
    PE X (.Lambda params body scope pos) (tLamO T (mkLF X params body scope)) := by
  refine ⟨fun pins s σ H Q I ⟨hT, h⟩ => PySem.W.kla_eval hdef ?_⟩
  rw [makeFunction_eq]
  simp only [List.zip_nil_right, List.filterMap_nil, List.isEmpty_nil, if_true, pure_bind]
  refine lam_made I TB hcode hm hu hT (fun y hy e => I.ok.has _ (hfree y hy e)) fun f c' H1 s' I1 g n1 e1 e2 => ?_
  exact ⟨.ref f, H1, I1, rfl, h f c' H1 g n1 ⟨e1, e2, fun t z => nomatch z⟩⟩
/-- a default that is an int: 0 -/
theorem pe_lamD {d : Expr} (TB : TabB X.base X.mg c P) (hcode : X.env.code = .ref c)
    (hm : (P, X.env.qual ++ "<lambda>") ∈ T) (hu : ∀ p ∈ T, p.1 = P → p.2 = X.env.qual ++ "<lambda>")
    (hfree : ∀ y ∈ scope.names, y.2 = .free → X.env.scope.names.lookup y.1 = some .cell ∨ X.env.scope.names.lookup y.1 = some .free)
    (hd : PE X d (tC (.int 0))) (hdef : defaultsOf params X.env = ([eval d X.env], []) := by exact rfl) :
    PE X (.Lambda params body scope pos) (tLamD T (mkLF X params body scope)) := by
  refine ⟨fun pins s σ H Q I ⟨hT, h⟩ => ?_⟩
  rw [arm_eval_Lambda, hdef]
  show wpAny _ X.A (do
    let dv ← evalAll [eval d X.env]
    let kdv ← holding dv (evalAllOpt [])
    makeFunction "<lambda>" (X.env.qual ++ "<lambda>") params (.expr body) scope X.env dv kdv [] pos pos.line) _ _ s
  refine wpAny_bind ?_
  show wpAny _ X.A (eval d X.env >>= fun v => _) _ _ s
  refine wpAny_bind (thn (hd.run pins s σ H (fun v H1 => v = .int 0 ∧ H1 = H) I ⟨rfl, rfl⟩) fun v s1 x => ?_)
  obtain ⟨v0, H1, I1, rv, rfl, rfl⟩ := x
  refine wpAny_bind (wpAny_holding (wpAny_pure (wpAny_pure ?_)))
  refine wpAny_bind (wpAny_holding (wpAny_pure ?_))
  rw [makeFunction_eq]
  simp only [List.zip_nil_right, List.filterMap_nil, List.isEmpty_nil, List.isEmpty_cons, Bool.false_eq_true, if_true, if_false, pure_bind]
  refine wpAny_bind (wpAny_newTextTuple ?_)
  have nT : H1 s1.heap.objs.size = none := I1.hok.fresh (Nat.le_refl _)
  have I2 : Inv X pins σ (upd H1 s1.heap.objs.size (.tup [.int 0])) { s1 with heap := s1.heap.push { cls := .type "tuple", data := .seq [v].toArray } } :=
    I1.laid (t' := s1.toks) (fun b o e => Heap.get?_push_of_some _ e) (Nat.le_refl _) ⟨by decide, [v], .cons rv .nil, _, Heap.get?_push_size _ rfl, rfl, 0, rfl⟩
  have G2 : Grows T H1 (upd H1 s1.heap.objs.size (.tup [.int 0])) := Grows.upd nT
  refine lam_made I2 TB hcode hm hu (G2.tab hT) (fun y hy e => I2.ok.has _ (hfree y hy e)) fun f c' H3 s' I3 g n1 e1 e2 => ?_
  have tT : H3 s1.heap.objs.size = some (.tup [.int 0]) := g.ext _ _ upd_same fun ps z => nomatch z
  have nf : H1 f = none := by
    by_cases z : f = s1.heap.objs.size
    · rw [z]
      exact nT
    · rw [upd_ne z] at n1
      exact n1
  exact ⟨.ref f, H3, I3, rfl, h f c' s1.heap.objs.size H3 (G2.trans g) nf ⟨e1, e2, fun t z => by cases z; exact ⟨_, tT, rfl⟩⟩⟩
end
end Sho
set_option Elab.async false
set_option linter.all false
set_option maxRecDepth 100000
set_option maxHeartbeats 2000000
/-! A try whose clauses may each bind the exception or not. -/
namespace Sho
open PySem PySem.Spec PyProof.Rows L2
/-- a clause: the class, the slot of its name (if it has one), its suite's reading -/
structure Clause where
  c : Value
  i : Option Nat
  ts : Addr → Value → Option Addr → TS
def setO (σ : L2.St) : Option Nat → Option V → L2.St
  | none, _ => σ
  | some i, v => σ.set i v
/-- a suite's ends: the clause's name is gone -/
def endsO (D : Ends) (i : Option Nat) : Ends :=
  { nx := fun σ H => D.nx (setO σ i none) H, rt := D.rt, bk := fun σ H => D.bk (setO σ i none) H, ct := fun σ H => D.ct (setO σ i none) H }
def wClauses (K : PySem.W.Frag) (Wout : WX) (D : Ends) : List Clause → WX
  | [] => Wout
  | C :: r => fun cls d σ H => ∃ b, PySem.W.exmOne K cls C.c = some b ∧
    (b = true → ∀ a, H a = none → C.ts a cls d (endsO D C.i) (setO σ C.i (some (.ref a))) H) ∧ (b = false → wClauses K Wout D r cls d σ H)
def Bound (X : Cx) : Option Str → Option Nat → Prop
  | none, none => True
  | some n, some i => X.N[i]? = some n ∧ X.env.kindOf n = some .local
  | _, _ => False
inductive ClausesOk (X : Cx) : List ExceptHandler → List Clause → Prop
  | nil : ClausesOk X [] []
  | cons {x : Str} {n : Option Str} {C : Clause} {b₀ : Stmt} {suite : List Stmt} {np hp : Pos} {hds : List ExceptHandler} {l : List Clause} (hc : Names X x C.c) (hn : Bound X n C.i)
      (body : ∀ (a : Addr) (oe : Obj) (cls : Value) (d : Option Addr) (pn : List (Addr × Obj)), Zc cls d oe → (∃ vs, oe.data = .fields vs) → PSs (X.suite a ((a, oe) :: pn)) (b₀ :: suite) (C.ts a cls d))
      (rest : ClausesOk X hds l) : ClausesOk X (.ExceptHandler (some (.Name x np)) n (b₀ :: suite) hp :: hds) (C :: l)
/-- an exception that X's frame has caught, in the state s -/
structure Caught (X : Cx) (pins : List (Addr × Obj)) (σ : L2.St) (H : Hp) (B : Heap) (a : Addr) (cls : Value) (d : Option Addr) (s : Shared) : Prop where
  fly : HandSPX.FlyingZ B (X.env :: X.outer) a (Zc cls d) s.heap
  back : ∀ h, HandSPX.FlyingZ B (X.env :: X.outer) a (Zc cls d) h → s.heap.UpToSlots h → Inv X pins σ H { s with heap := h }
  on : ∀ h (W : WX), HandSPX.HeldZ B (X.env :: X.outer) a (Zc cls d) X.env.locals h → s.heap.UpToSlots h → W cls d σ H → XE X W (.ref a) { s with heap := h }
  free : H a = none
section
variable {X : Cx} {pins : List (Addr × Obj)} {σ : L2.St} {H : Hp} {B : Heap} {a : Addr} {cls : Value} {d : Option Addr} {s : Shared}
theorem Caught.inv (c : Caught X pins σ H B a cls d s) : Inv X pins σ H s := c.back s.heap c.fly (.refl _)
theorem Caught.apart (c : Caught X pins σ H B a cls d s) (hf : X.env.frame = some X.env.locals) : a ≠ X.env.locals ∧ a ∉ X.fs := by
  obtain ⟨oe, vs, he, _, hd⟩ := c.fly.there
  have out : a ∉ frs (X.env :: X.outer) := fun hm => by
    obtain ⟨_, o, e, nf⟩ := c.fly.2.2.1.mem hm
    rw [he] at e
    cases e
    exact nf _ hd
  refine ⟨fun z => out (List.mem_filterMap.mpr ⟨X.env, .head _, hf.trans (congrArg some z.symm)⟩), fun hm => ?_⟩
  obtain ⟨e, he2, q⟩ := List.mem_filterMap.mp hm
  exact out (List.mem_filterMap.mpr ⟨e, .tail _ he2, q⟩)
theorem caught_of {xe : Value → Shared → Prop} {W : WX} {u : Value} {Q : Shared → Prop} {E : Value → Shared → Prop} (hs : X.stack = X.env :: X.outer) (hf : X.env.frame = some X.env.locals) (ok : X.Ok)
    (x : XE (X.tr (X.pn ++ pins) xe) W u s)
    (h : ∀ a B σ H cls d h3, u = .ref a → Caught X pins σ H B a cls d { s with heap := h3 } → W cls d σ H → Q { s with heap := h3 }) :
    wpAny (model X.prog X.w) X.A (noteFrame u X.env) (fun _ s2 => wpAny (model X.prog X.w) X.A (setFlight u none) (fun _ s3 => Q s3) E s2) E s := by
  obtain ⟨a, B, s0, pins', σ1, H1, cls, d, rfl, J1, ground, up, sky, na, os, ag, w⟩ := x
  have J : Inv X pins σ1 H1 s0 := J1.ofTry ok
  have sky2 : Sky B (X.env :: X.outer) a (Zc cls d) X.env.locals s.heap := hs ▸ sky
  refine Sky.land Zc.steady (ok.frames.trans (congrArg some hs)) hf sky2 fun h3 fly up3 => ?_
  refine h a B σ1 H1 cls d h3 rfl ⟨fly, fun g fg ug => J.landed ground fg.1 (up.trans (up3.trans ug)) os ag, fun g W2 hg ug w2 => ?_, na⟩ w
  exact ⟨a, B, s0, pins, σ1, H1, cls, d, rfl, J, ground, up.trans (up3.trans ug), .inr (.inr (by rw [hs]; exact hg)), na, os, ag, w2⟩

theorem clauses_run {Wout : WX} {D : Ends} (hs : X.stack = X.env :: X.outer) (hf : X.env.frame = some X.env.locals) (hN : X.N.Nodup) (tk : Takes X Wout) (c : Caught X pins σ H B a cls d s)
    {hds : List ExceptHandler} {l : List Clause} (hk : ClausesOk X hds l) : wClauses X.K Wout D l cls d σ H →
    wpAny (model X.prog X.w) X.A (handleBy (.ref a) X.env hds) (SP X pins D) X.xe s := by
  have ok := c.inv.ok
  induction hk with
  | nil =>
    intro w
    refine wpAny_handleBy_nil ?_
    obtain ⟨_, _, _, oe, vs, T, oT, ts', he, hz, hd, h1, _⟩ := id c.fly
    unfold PySem.passOn
    refine wpAny_bind (wpAny_field he hd h1 ?_)
    rw [if_neg (show ¬ ((Value.ref T == Value.none) = true) by simp)]
    have up : wpAny (model X.prog X.w) X.A (setFlight (.ref a) X.env.frame) (fun _ s4 => wpAny (model X.prog X.w) X.A (throw (.ref a) : Sem PySem.Flow) (SP X pins D) X.xe s4) X.xe s := by
      rw [hf]
      exact HandSPX.setFlight_upZ c.fly fun g hg ug => wpAny_throw (tk _ _ (c.on g Wout hg ug w))
    first
      | exact wpAny_bind (wpAny_pure (wpAny_bind up))
      | exact wpAny_bind up
  | @cons x n C b₀ suite np hp hds2 l2 hc hn body rest ih =>
    intro w
    obtain ⟨b, hb, yes, no⟩ := w
    obtain ⟨oe, vs, he, hz, hd⟩ := c.fly.there
    obtain ⟨nL, nF⟩ := c.apart hf
    have I := c.inv
    have IS := I.suite he hd c.free nL nF
    refine wpAny_handleBy_cons (codeAny_handlers_test ?_) (by intro q; cases q)
    have lt : PySem.W.Looks (model X.prog X.w) s.heap (typeOf (.ref a)) cls := fun A Q E s k q => wpAny_typeOf_ref (k _ _ he) (by rw [hz.1]; exact q)
    have lm := PySem.W.exm_one (M := model X.prog X.w) I.kIn lt hb
    have named : ∀ {Q : Value → Shared → Prop} {E : Value → Shared → Prop}, Q C.c s → wpAny (model X.prog X.w) (X.A.mark (some (.ref a))) (eval (.Name x np) X.env) Q E s := fun {Q E} q => by
      obtain ⟨g1, g2, g3⟩ := hc
      rcases g3 with g3 | ⟨g3, g4, g5⟩
      · exact ld_glob (X := X.suite a ((a, oe) :: (X.pn ++ pins))) IS g1 g3 q g2
      · exact ld_blt (X := X.suite a ((a, oe) :: (X.pn ++ pins))) IS g1 g3 g4 q g5 g2
    refine named (lm.here ?_)
    cases b with
    | false => exact ih (no rfl)
    | true =>
      have go : ∀ g, HandSPX.FlyingZ B (X.env :: X.outer) a (Zc cls d) g → s.heap.UpToSlots g → ∃ oe4 vs4, Zc cls d oe4 ∧ oe4.data = .fields vs4 ∧ Inv (X.suite a ((a, oe4) :: (X.pn ++ pins))) [] σ H { s with heap := g } := fun g fg ug => by
        obtain ⟨oe4, vs4, he4, hz4, hd4⟩ := fg.there
        exact ⟨oe4, vs4, hz4, hd4, (c.back g fg ug).suite he4 hd4 c.free nL nF⟩
      cases n with
      | none =>
        match hi : C.i with
        | some i =>
          rw [hi] at hn
          exact hn.elim
        | none =>
          rw [hi] at yes
          refine codeAny_handlers_suite ?_
          refine HandSPX.lands_againZ c.fly fun g fg ug => ?_
          obtain ⟨oe4, vs4, hz4, hd4, I4⟩ := go g fg ug
          refine wpAny_mono ((body a oe4 cls d (X.pn ++ pins) hz4 ⟨_, hd4⟩).run [] _ _ H _ I4 (yes rfl a c.free)) (fun f s6 r => ?_) fun _ _ z => False.elim z
          cases f with
          | ret u =>
            obtain ⟨v6, σ6, H6, I6, r6, q6⟩ := r
            exact ⟨v6, σ6, H6, I6.unsuite ok, r6, q6⟩
          | next => obtain ⟨σ6, H6, I6, q6⟩ := r; exact ⟨σ6, H6, I6.unsuite ok, q6⟩
          | brk => obtain ⟨σ6, H6, I6, q6⟩ := r; exact ⟨σ6, H6, I6.unsuite ok, q6⟩
          | cont => obtain ⟨σ6, H6, I6, q6⟩ := r; exact ⟨σ6, H6, I6.unsuite ok, q6⟩
      | some n =>
        match hi : C.i with
        | none =>
          rw [hi] at hn
          exact hn.elim
        | some i =>
          rw [hi] at hn yes
          obtain ⟨hni, hln⟩ := hn
          refine codeAny_handlers_suite_as ?_
          refine HandSPX.lands_againZ c.fly fun g fg ug => ?_
          obtain ⟨oe4, vs4, hz4, hd4, I4⟩ := go g fg ug
          refine store_ok (X := X.suite a ((a, oe4) :: (X.pn ++ pins))) (v := .ref a) I4 hN hni (.inl hln) rfl (fun s5 I5 => ?_) (.inr hln)
          refine wpAny_mono ((body a oe4 cls d (X.pn ++ pins) hz4 ⟨_, hd4⟩).run [] s5 _ H _ I5 (yes rfl a c.free)) (fun f s6 r => ?_) fun _ _ z => False.elim z
          have gone : ∀ {σ6 : L2.St} {H6 : Hp} {Q : Shared → Prop}, Inv (X.suite a ((a, oe4) :: (X.pn ++ pins))) [] σ6 H6 s6 → (∀ s7, Inv X pins (σ6.set i none) H6 s7 → Q s7) →
              wpAny (model X.prog X.w) X.A (do bindName X.env n .none; unbindBehindTheSuite X.env n hp) (fun _ s7 => Q s7) X.xe s6 := fun {σ6 H6 Q} I6 k => gone_ok (I6.unsuite ok) hN hni hln k
          cases f with
          | ret u =>
            obtain ⟨v6, σ6, H6, I6, r6, q6⟩ := r
            exact gone I6 fun s7 I7 => ⟨v6, _, H6, I7, r6, q6⟩
          | next => obtain ⟨σ6, H6, I6, q6⟩ := r; exact gone I6 fun s7 I7 => ⟨_, H6, I7, q6⟩
          | brk => obtain ⟨σ6, H6, I6, q6⟩ := r; exact gone I6 fun s7 I7 => ⟨_, H6, I7, q6⟩
          | cont => obtain ⟨σ6, H6, I6, q6⟩ := r; exact gone I6 fun s7 I7 => ⟨_, H6, I7, q6⟩
end
section
variable {X : Cx} {body : List Stmt} {h₀ : ExceptHandler} {hds : List ExceptHandler} {l : List Clause} {pos : Pos} {tb : WX → TS} {Wout : WX}
/-- try: body / except A as e: .. / except B: .. -/
theorem ps_try (hs : X.stack = X.env :: X.outer) (hf : X.env.frame = some X.env.locals) (hN : X.N.Nodup) (tk : Takes X Wout)
    (hb : ∀ (W : WX) (pn : List (Addr × Obj)) (xe : Value → Shared → Prop), Takes (X.tr pn xe) W → PassesOwn (model X.prog X.w) X.A X.env xe → PSs (X.tr pn xe) body (tb W))
    (hk : ClausesOk X (h₀ :: hds) l) : PS X (.Try body (h₀ :: hds) [] [] pos) (fun D σ H => tb (wClauses X.K Wout D l) D σ H) := by
  refine ⟨fun pins s σ H D I h => wpAny_Try_except ?_⟩
  have ok := I.ok
  refine wpAny_mono ((hb (wClauses X.K Wout D l) (X.pn ++ pins) (fun e s₁ => wpAny (model X.prog X.w) X.A (noteFrame e X.env)
    (fun _ s₂ => wpAny (model X.prog X.w) X.A (setFlight e none) (fun _ s₃ => wpAny (model X.prog X.w) X.A (handleBy e X.env (h₀ :: hds)) (SP X pins D) X.xe s₃) X.xe s₂) X.xe s₁)
    (fun u s' x => ?_) PassesOwn.looking).run [] s σ H D (I.toTry _) h) (fun f s1 r => ?_) fun _ _ z => z
  · refine caught_of hs hf ok x fun a B σ1 H1 cls d h3 e c w => ?_
    subst e
    exact clauses_run hs hf hN tk c hk w
  · cases f with
    | ret u =>
      obtain ⟨v6, σ6, H6, I6, r6, q6⟩ := r
      exact ⟨v6, σ6, H6, I6.ofTry ok, r6, q6⟩
    | next => obtain ⟨σ6, H6, I6, q6⟩ := r; exact wpAny_execs_nil ⟨σ6, H6, I6.ofTry ok, q6⟩
    | brk => obtain ⟨σ6, H6, I6, q6⟩ := r; exact ⟨σ6, H6, I6.ofTry ok, q6⟩
    | cont => obtain ⟨σ6, H6, I6, q6⟩ := r; exact ⟨σ6, H6, I6.ofTry ok, q6⟩
end
end Sho
set_option Elab.async false
set_option linter.all false
set_option maxRecDepth 100000
set_option maxHeartbeats 2000000
/-! A list comprehension whose element may rest on what the block's start knows of the heap itself. -/
namespace Sho
open PySem PySem.Spec PyProof.Rows L2
section
variable {X : Cx} {scope : Scope} {fp : List Addr} {own : List (Str × Nat)}
/-- the block's environment, made at s -/
abbrev blkEnv (X : Cx) (scope : Scope) (s : Shared) : Env := compEnvC scope (cellsFrom (s.heap.objs.size + 1) scope.names (cloFrom X.env.cells scope.names [])) s.heap.objs.size X.env
abbrev blkS (scope : Scope) (s : Shared) : Shared := { s with heap := pushCells (s.heap.push { cls := .type "dict", data := .dict #[] }) scope.names }
/-- out of the block: its state is one of the def's -/
theorem blk_out {pins : List (Addr × Obj)} {σ σ' : L2.St} {H H' : Hp} {s s' : Shared} (I : Inv X pins σ H s) (hfp : ∀ b ∈ fp, FpOk X pins H b)
    (J : Inv (X.blk s H scope (blkEnv X scope s) fp) [] σ' H' s') : Inv X pins σ H' s' ∧ ∃ m, s'.heap.Ns s.heap.objs.size m ∧ FpOk X pins H' s.heap.objs.size := by
  obtain ⟨m, hm, _⟩ := J.loc
  refine ⟨I.call' (ch := fp) J.os J.base J.hok J.bare fun b hb => ?_, m, hm, I.fpOk (Nat.le_refl _) J.free⟩
  obtain ⟨_, z1, z2, z3, z4, z5⟩ := hfp b hb
  exact ⟨z3, z1, z4, z5⟩
/-- a tracked list that grows -/
theorem grow {pins : List (Addr × Obj)} {σ : L2.St} {H : Hp} {s : Shared} (I : Inv X pins σ H s) :
    Inv X pins σ (upd H s.heap.objs.size (.lst [])) { s with heap := s.heap.push { cls := .type "list", data := .seq ([] : List Value).toArray } } :=
  I.laid (t' := s.toks) (fun b o e => Heap.get?_push_of_some _ e) (Nat.le_refl _) ⟨Nat.zero_le _, [], 0, .nil, Heap.get?_push_size _ rfl⟩

/-- the block's loop, by the readings of its target, tests and element -/
theorem lc_loop {B : Cx} {R : Result → Shared → Prop} {elt tg iter : Expr} {ifs : List Expr} {pos : Pos} {g : TG} {tt : TT} {te : TE} {J : It} {it D : Addr} {tn : Nat → Heap → Prop} {W : Nat → Nat → Hp → Prop} {σ : L2.St} {vs : List Nat}
    (hc : B.calm = true) (hxe : B.xe = fun _ _ => False) (T : Turn B.prog B.w B.K tg J fp it tn) (pg : PG B tg g) (pt : PTs B ifs tt) (pe : PE B elt te)
    (fpok : ∀ (pins : List (Addr × Obj)) (τ : L2.St) (H : Hp) (s : Shared), Inv B [] τ H s → (∀ b ∈ fp, H b = none) → ∀ b ∈ fp, FpOk B [] H b)
    (turn : ∀ (i m : Nat) (H : Hp), W i m H → (J.stop i H ∧ ∀ s, Inv B [] σ H s → R (.ok .next) s) ∨
      (J.go i H ∧ ∃ Nx : Hp → Prop, (∀ H', Nx H' → ∃ m', m' < m ∧ W (i + 1) m' H') ∧ ∀ x H', J.yld i H x H' → g x σ H' fun σ2 H2 => wipe σ2 vs = σ ∧ tt σ2 H2 fun b H3 =>
        if b = true then te σ2 H3 fun y H4 => ∃ acc, H4 D = some (.lst acc) ∧ acc.length < sizeLine ∧ Nx (upd H4 D (.lst (acc ++ [y]))) else Nx H3))
    {m : Nat} {H : Hp} {s : Shared} (I : Inv B [] σ H s) (st : tn 0 s.heap) (hn : ∀ b ∈ fp, H b = none) (w : W 0 m H) :
    codeAny (model B.prog B.w) B.A (.compLoop (.ListComp elt [⟨tg, iter, ifs, 0⟩] scope pos) 0 (.ref it) (.ref D) B.env) R s := by
  refine compLoop_any (fun n s' => ∃ i H', Inv B [] σ H' s' ∧ tn i s'.heap ∧ (∀ b ∈ fp, H' b = none) ∧ W i n H') ?_ m ⟨0, H, I, st, hn, w⟩
  rintro n s5 ⟨i, H5, I5, st5, n5, w5⟩
  rcases turn i n H5 w5 with ⟨stop, fin⟩ | ⟨go, Nx, less, step⟩
  · refine thnF (T.done B rfl rfl rfl hc i [] s5 σ H5 (fun _ _ => False) I5 (fpok [] _ _ _ I5 n5) st5 stop) fun r s6 x => ?_
    obtain ⟨rfl, I6⟩ := x
    exact fin _ I6
  · refine thnF (T.item B rfl rfl rfl hc i [] s5 σ H5 (fun _ _ => False) I5 (fpok [] _ _ _ I5 n5) st5 go) fun r s6 x => ?_
    obtain ⟨u, rfl, x⟩ := x
    refine thnF x fun _ s7 y => ?_
    obtain ⟨v, H7, I7, rv, yl, st7, n7⟩ := y
    have P7 := I7.pinned (fpok [] _ _ _ I7 n7) (T.obj _ _ st7)
    have pg1 := pg.run _ s7 σ H7 v u _ P7 rv (step v H7 yl)
    rw [hxe] at pg1
    refine thnF pg1 fun _ s8 x8 => ?_
    obtain ⟨σ8, H8, I8, back, q8⟩ := x8
    have pt1 := pt.run _ s8 σ8 H8 _ I8 q8
    rw [hxe] at pt1
    refine thnF pt1 fun b s9 x9 => ?_
    obtain ⟨H9, I9, q9⟩ := x9
    have next : ∀ (H' : Hp) (s' : Shared), Inv B ([] ++ pinsAt fp s7.heap) σ8 H' s' → Nx H' → ∃ m, m < n ∧ ∃ i H', Inv B [] σ H' s' ∧ tn i s'.heap ∧ (∀ b ∈ fp, H' b = none) ∧ W i m H' := fun H' s' I' nx => by
      obtain ⟨m', lt, w'⟩ := less H' nx
      have stay : ∀ b ∈ fp, ∀ o, s7.heap.get? b = some o → s'.heap.get? b = some o ∧ H' b = none := fun b hb o e => by
        have z := I'.pin (b, o) (List.mem_append_right _ (List.mem_append_right _ (mem_pinsAt hb e)))
        exact ⟨z.1, z.2.1⟩
      have lens : σ.length = σ8.length := by rw [← back, wipe_length]
      refine ⟨m', lt, i + 1, H', (I'.unpinned (pins := [])).weak lens (fun j v e => ?_), T.keep _ _ _ st7 fun b hb o e => (stay b hb o e).1, fun b hb => ?_, w'⟩
      · rw [← back] at e
        exact (wipe_some e).1
      · obtain ⟨o, e, _⟩ := T.obj _ _ st7 b hb
        exact (stay b hb o e).2
    cases b with
    | false =>
      rw [if_neg Bool.false_ne_true] at q9
      rw [if_neg Bool.false_ne_true]
      exact next _ _ I9 q9
    | true =>
      rw [if_pos rfl] at q9
      rw [if_pos rfl]
      have pe1 := pe.run _ s9 σ8 H9 _ I9 q9
      rw [hxe] at pe1
      refine thnF pe1 fun z s10 x10 => ?_
      obtain ⟨yv, H10, I10, r10, acc, hD, hz, nx⟩ := x10
      exact app_ok (X := B) I10 hD hz r10 fun s11 I11 => next _ _ I11 nx
/-- P: what the start of the block knows, of the slots and of the state; te: the element's reading, by the slots -/
theorem pe_lcS {P : L2.St → Shared → Hp → Prop} {elt tg iter : Expr} {ifs : List Expr} {pos : Pos} {wi : TI} {g : TG} {tt : TT} {te : L2.St → TE} (hc : X.calm = true) (hN : X.N.Nodup) (hi : PI X tg iter wi) (ok : BlkOk X.N X.env.scope scope own)
    (hP : ∀ (pins : List (Addr × Obj)) (σ : L2.St) (H : Hp) (s : Shared), Inv X pins σ H s → P σ s H)
    (hg : ∀ (s : Shared) (H : Hp) (C : Addr) (cl : List (Str × Addr)) (fp : List Addr), PG (X.blk s H scope (compEnvC scope cl C X.env) fp) tg g)
    (ht : ∀ (s : Shared) (H : Hp) (C : Addr) (cl : List (Str × Addr)) (fp : List Addr), PTs (X.blk s H scope (compEnvC scope cl C X.env) fp) ifs tt)
    (he : ∀ (σ : L2.St) (s : Shared) (H : Hp) (C : Addr) (cl : List (Str × Addr)) (fp : List Addr), P σ s H → (∀ b ∈ fp, ∃ o, s.heap.get? b = some o ∧ ∀ v, o.data ≠ .cell v) → PE (X.blk s H scope (compEnvC scope cl C X.env) fp) elt (te σ)) (hs : ∀ x, foldedSetIterable iter X.env x = pure x := by intro _; rfl) :
    PE X (.ListComp elt [⟨tg, iter, ifs, 0⟩] scope pos) (fun σ H Q => tLc wi g tt (te σ) (own.map (·.2)) σ H Q) := by
  refine ⟨fun pins s σ H Q I h => ?_⟩
  rw [eval_ListComp]
  have clo : ∀ y ∈ scope.names, y.2 = .free → ∃ c, X.env.cells.lookup y.1 = some c := fun y hy e => (ok.free y hy e).elim (fun k => I.ok.has _ (.inl k)) fun k => I.ok.has _ (.inr k)
  refine wpAny_comprehension_free (use := none) rfl hs (closure_ok clo) ok.kind (fun y hy e => (ok.uniq y hy).trans (congrArg some e))
    (thn (hi.run pins s σ H _ I h) fun xv s1 hx => thn hx fun itv s2 h2 => ?_)
  obtain ⟨it, fp, tn, J, H2, rfl, I2, T, st2, f2, q⟩ := h2
  refine wpAny_newObj_type (newEnv_comp ?_) (show 0 ≤ sizeLine by decide)
  have hDn : H2 s2.heap.objs.size = none := I2.hok.fresh (Nat.le_refl _)
  obtain ⟨W, ⟨m0, w0⟩, turn⟩ := q _ hDn
  have I3 := grow I2
  have old : ∀ b ∈ fp, b < s2.heap.objs.size := fun b hb => (T.obj _ _ st2 b hb).elim fun o e => Heap.lt_size e.1
  generalize hD : s2.heap.objs.size = D at *
  generalize hs3 : ({ s2 with heap := s2.heap.push { cls := .type "list", data := .seq ([] : List Value).toArray } } : Shared) = s3 at *
  have k3 : ∀ b o, s2.heap.get? b = some o → s3.heap.get? b = some o := fun b o e => by
    rw [← hs3]
    exact Heap.get?_push_of_some _ e
  have z3 : s3.heap.objs.size = D + 1 := by
    rw [← hs3, ← hD]
    exact Heap.size_push ..
  have st3 : tn 0 s3.heap := T.keep _ _ _ st2 fun b _ o e => k3 b o e
  have f3 : ∀ b ∈ fp, FpOk X pins (upd H2 D (.lst [])) b ∧ b < s3.heap.objs.size := fun b hb =>
    ⟨⟨(upd_ne (Nat.ne_of_lt (old b hb))).trans (f2 b hb).1, (f2 b hb).2⟩, by rw [z3]; exact Nat.lt_succ_of_lt (old b hb)⟩
  generalize hH3 : upd H2 D (.lst []) = H3 at *
  have know := hP pins σ H3 s3 I3
  have I4 := block_start I3 ok hN f3
  have pe := he σ s3 H3 s3.heap.objs.size (cellsFrom (s3.heap.objs.size + 1) scope.names (cloFrom X.env.cells scope.names [])) fp know (T.obj _ _ st3)
  have pg := hg s3 H3 s3.heap.objs.size (cellsFrom (s3.heap.objs.size + 1) scope.names (cloFrom X.env.cells scope.names [])) fp
  have pt := ht s3 H3 s3.heap.objs.size (cellsFrom (s3.heap.objs.size + 1) scope.names (cloFrom X.env.cells scope.names [])) fp
  show codeAny _ _ (.compStart (.ListComp elt [⟨tg, iter, ifs, 0⟩] scope pos) 0 (.ref it) (.ref D) (blkEnv X scope s3)) (compPost (model X.prog X.w) X.A X.xe none _ (.ref D) s3.heap.objs.size) (blkS scope s3)
  have st4 : tn 0 (blkS scope s3).heap := T.keep _ _ _ st3 fun b _ o e => pushCells_keeps _ _ _ _ (Heap.get?_push_of_some _ e)
  have nfp : ∀ b ∈ fp, H3 b = none := fun b hb => (f3 b hb).1.1
  have loop : codeAny (model X.prog X.w) X.A (.compLoop (.ListComp elt [⟨tg, iter, ifs, 0⟩] scope pos) 0 (.ref it) (.ref D) (blkEnv X scope s3))
      (compPost (model X.prog X.w) X.A X.xe none (EP X pins σ Q) (.ref D) s3.heap.objs.size) (blkS scope s3) := by
    refine lc_loop (B := X.blk s3 H3 scope (blkEnv X scope s3) fp) (σ := wipe σ (own.map (·.2))) (vs := own.map (·.2)) (W := W) hc rfl T pg pt pe (fun _ τ H' s' J' n' b hb => ?_) (fun i m H' w' => ?_) I4 st4 nfp w0
    · refine ⟨n' b hb, (J'.ok.exf b hb).1, J'.ok.exfs b hb, .inl hb, fun x c e => (J'.ok.exf b hb).2 x c e, fun p hp => ?_⟩
      exact absurd (show p ∈ ([] : List (Addr × Obj)) ++ [] from hp) (by simp)
    · rcases turn i m H' w' with ⟨a, b⟩ | ⟨a, Nx, b, c⟩
      · refine .inl ⟨a, fun s' J' => ?_⟩
        obtain ⟨I6, m6, ns6, f6⟩ := blk_out I3 (fun b hb => (f3 b hb).1) J'
        obtain ⟨f0, f1, f2, f3', f4, f5⟩ := f6
        exact ⟨m6, ns6, fun h'' sb => ⟨.ref D, H', I6.turned (t' := s'.toks) (fun b o hb e => (sb.2 b hb).trans e) f0 f1 f3' f4 f5, rfl, b⟩⟩
      · exact .inr ⟨a, Nx, b, c⟩
  exact codeAny_compStart_list loop (T.self X.A 0 _ _ _ st4 loop)
end

/-! ### what a comprehension gathers -/
section
/-- the values of the first n turns -/
def gather (f : Nat → Option V) (n : Nat) : List V := (List.range n).filterMap f
theorem gather_zero (f : Nat → Option V) : gather f 0 = [] := rfl
theorem gather_some {f : Nat → Option V} {n : Nat} {y : V} (h : f n = some y) : gather f (n + 1) = gather f n ++ [y] := by
  unfold gather
  rw [List.range_succ, List.filterMap_append]
  simp [h]
theorem gather_none {f : Nat → Option V} {n : Nat} (h : f n = none) : gather f (n + 1) = gather f n := by
  unfold gather
  rw [List.range_succ, List.filterMap_append]
  simp [h]
theorem gather_len (f : Nat → Option V) (n : Nat) : (gather f n).length ≤ n := by
  unfold gather
  exact Nat.le_trans (List.length_filterMap_le ..) (by simp)
/-- over a list: the items kept, each made anew -/
theorem gather_take {α : Type} (xs : List α) (p : α → Option V) : ∀ n, n ≤ xs.length → gather (fun i => (xs[i]?).bind p) n = (xs.take n).filterMap p
  | 0, _ => rfl
  | n + 1, h => by
    have ih := gather_take xs p n (by omega)
    have hn : xs[n]? = some (xs[n]'(by omega)) := List.getElem?_eq_getElem (by omega)
    rw [List.take_add_one, hn, List.filterMap_append, ← ih]
    cases e : p (xs[n]'(by omega)) with
    | none =>
      rw [gather_none (by rw [hn]; exact e)]
      simp [e]
    | some y =>
      rw [gather_some (y := y) (by rw [hn]; exact e)]
      simp [e]
theorem gather_list {α : Type} (xs : List α) (p : α → Option V) : gather (fun i => (xs[i]?).bind p) xs.length = xs.filterMap p := by
  rw [gather_take xs p _ (Nat.le_refl _), List.take_length]
theorem gather_map {α : Type} (xs : List α) (f : α → V) : gather (fun i => (xs[i]?).map f) xs.length = xs.map f := by
  have e : (fun i : Nat => (xs[i]?).map f) = fun i : Nat => (xs[i]?).bind fun x => some (f x) := by
    funext i
    cases xs[i]? <;> rfl
  rw [e, gather_list]
  simp
theorem gather_fn (f : Nat → V) (n : Nat) : gather (fun i => some (f i)) n = (List.range n).map f := by
  unfold gather
  simp
/-- a comprehension whose turns leave what is known: f i, what the i-th turn gives -/
theorem lc_gather {J : It} {n : Nat} {G : Hp → Prop} {Y : Nat → Hp → V → Hp → Prop} (w : Walk J n G Y) {g : TG} {tt : TT} {te : TE} {vs : List Nat} {σ : L2.St} {H1 : Hp} {D : Addr} {Qd : Hp → Prop} (f : Nat → Option V) (hD : H1 D = none) (hz : n ≤ sizeLine)
    (hG : ∀ H, Same H1 H → G H)
    (hs : ∀ i x H H', i < n → Same H1 H → Y i H x H' → ∀ R : Option V → Hp → Prop, (∀ H4, Same H H4 → R (f i) H4) →
      g x (wipe σ vs) H' fun σ2 H2 => wipe σ2 vs = wipe σ vs ∧ tt σ2 H2 fun b H3 => if b = true then te σ2 H3 fun y H4 => R (some y) H4 else R none H3)
    (hd : ∀ H, Same H1 H → H D = some (.lst (gather f n)) → Qd H) :
    ∃ W : Nat → Nat → Hp → Prop, (∃ m, W 0 m (upd H1 D (.lst []))) ∧ ∀ i m H, W i m H →
      (J.stop i H ∧ Qd H) ∨ (J.go i H ∧ ∃ Nx : Hp → Prop, (∀ H', Nx H' → ∃ m', m' < m ∧ W (i + 1) m' H') ∧ ∀ x H', J.yld i H x H' → g x (wipe σ vs) H' fun σ2 H2 => wipe σ2 vs = wipe σ vs ∧ tt σ2 H2 fun b H3 =>
        if b = true then te σ2 H3 fun y H4 => ∃ acc, H4 D = some (.lst acc) ∧ acc.length < sizeLine ∧ Nx (upd H4 D (.lst (acc ++ [y]))) else Nx H3) := by
  have s0 : ∀ o, Same H1 (upd H1 D o) := fun o b u e => by rw [upd_ne (ne_of_none e hD)]; exact e
  refine lc_it w (fun i H => Same H1 H ∧ H D = some (.lst (gather f i))) ⟨s0 _, upd_same⟩ (fun i H _ p => hG H p.1) (fun i x H H' hi p y => ?_) fun H p => hd H p.1 p.2
  obtain ⟨p1, p2⟩ := p
  refine hs i x H H' hi p1 y (fun oy H4 => match oy with
    | some y => ∃ acc, H4 D = some (.lst acc) ∧ acc.length < sizeLine ∧ Same H1 (upd H4 D (.lst (acc ++ [y]))) ∧ upd H4 D (.lst (acc ++ [y])) D = some (.lst (gather f (i + 1)))
    | none => Same H1 H4 ∧ H4 D = some (.lst (gather f (i + 1)))) fun H4 q => ?_
  have p4 := p1.trans q
  cases e : f i with
  | none => exact ⟨p4, by rw [gather_none e]; exact q _ _ p2⟩
  | some y =>
    refine ⟨gather f i, q _ _ p2, Nat.lt_of_le_of_lt (gather_len f i) (Nat.lt_of_lt_of_le hi hz), fun b u z => ?_, by rw [upd_same, gather_some e]⟩
    rw [upd_ne (ne_of_none z hD)]
    exact p4 b u z
/-- .. without tests -/
theorem lc_map {J : It} {n : Nat} {G : Hp → Prop} {Y : Nat → Hp → V → Hp → Prop} (w : Walk J n G Y) {g : TG} {te : TE} {vs : List Nat} {σ : L2.St} {H1 : Hp} {D : Addr} {Qd : Hp → Prop} (f : Nat → Option V) (hD : H1 D = none) (hz : n ≤ sizeLine)
    (hG : ∀ H, Same H1 H → G H)
    (hs : ∀ i x H H', i < n → Same H1 H → Y i H x H' → ∀ R : V → Hp → Prop, (∀ y H4, Same H H4 → f i = some y → R y H4) →
      g x (wipe σ vs) H' fun σ2 H2 => wipe σ2 vs = wipe σ vs ∧ te σ2 H2 R) (hf : ∀ i, i < n → ∃ y, f i = some y)
    (hd : ∀ H, Same H1 H → H D = some (.lst (gather f n)) → Qd H) :
    ∃ W : Nat → Nat → Hp → Prop, (∃ m, W 0 m (upd H1 D (.lst []))) ∧ ∀ i m H, W i m H →
      (J.stop i H ∧ Qd H) ∨ (J.go i H ∧ ∃ Nx : Hp → Prop, (∀ H', Nx H' → ∃ m', m' < m ∧ W (i + 1) m' H') ∧ ∀ x H', J.yld i H x H' → g x (wipe σ vs) H' fun σ2 H2 => wipe σ2 vs = wipe σ vs ∧ tYes σ2 H2 fun b H3 =>
        if b = true then te σ2 H3 fun y H4 => ∃ acc, H4 D = some (.lst acc) ∧ acc.length < sizeLine ∧ Nx (upd H4 D (.lst (acc ++ [y]))) else Nx H3) := by
  refine lc_gather w f hD hz hG (fun i x H H' hi s y R k => ?_) hd
  have z := hs i x H H' hi s y (fun y H4 => R (some y) H4) fun y H4 q e => by
    have := k H4 q
    rw [e] at this
    exact this
  exact z
/-- .. whose turns make new things: Rl i y H, what holds of the i-th -/
theorem lc_rel {J : It} {n : Nat} {G : Hp → Prop} {Y : Nat → Hp → V → Hp → Prop} (w : Walk J n G Y) {g : TG} {te : TE} {vs : List Nat} {σ : L2.St} {H1 : Hp} {D : Addr} {Qd : Hp → Prop} (Rl : Nat → V → Hp → Prop) (hD : H1 D = none) (hz : n ≤ sizeLine)
    (hG : ∀ H, Same H1 H → G H) (stable : ∀ i y H H', (∀ b xs, H b = some (.tup xs) → H' b = some (.tup xs)) → Rl i y H → Rl i y H')
    (hs : ∀ i x H H', i < n → Same H1 H → Y i H x H' → ∀ R : V → Hp → Prop, (∀ y H4, Same H H4 → Rl i y H4 → R y H4) →
      g x (wipe σ vs) H' fun σ2 H2 => wipe σ2 vs = wipe σ vs ∧ te σ2 H2 R)
    (hd : ∀ H ys, Same H1 H → H D = some (.lst ys) → ys.length = n → (∀ i y, ys[i]? = some y → Rl i y H) → Qd H) :
    ∃ W : Nat → Nat → Hp → Prop, (∃ m, W 0 m (upd H1 D (.lst []))) ∧ ∀ i m H, W i m H →
      (J.stop i H ∧ Qd H) ∨ (J.go i H ∧ ∃ Nx : Hp → Prop, (∀ H', Nx H' → ∃ m', m' < m ∧ W (i + 1) m' H') ∧ ∀ x H', J.yld i H x H' → g x (wipe σ vs) H' fun σ2 H2 => wipe σ2 vs = wipe σ vs ∧ tYes σ2 H2 fun b H3 =>
        if b = true then te σ2 H3 fun y H4 => ∃ acc, H4 D = some (.lst acc) ∧ acc.length < sizeLine ∧ Nx (upd H4 D (.lst (acc ++ [y]))) else Nx H3) := by
  have s0 : ∀ o, Same H1 (upd H1 D o) := fun o b u e => by rw [upd_ne (ne_of_none e hD)]; exact e
  refine lc_it w (fun i H => Same H1 H ∧ ∃ ys, H D = some (.lst ys) ∧ ys.length = i ∧ ∀ j y, ys[j]? = some y → Rl j y H) ⟨s0 _, [], upd_same, rfl, fun j y e => by simp at e⟩ (fun i H _ p => hG H p.1) (fun i x H H' hi p y => ?_) fun H p => ?_
  · obtain ⟨p1, ys, p2, p3, p4⟩ := p
    have z := hs i x H H' hi p1 y (fun y H4 => ∃ acc, H4 D = some (.lst acc) ∧ acc.length < sizeLine ∧ Same H1 (upd H4 D (.lst (acc ++ [y]))) ∧
      ∃ ys, upd H4 D (.lst (acc ++ [y])) D = some (.lst ys) ∧ ys.length = i + 1 ∧ ∀ j y', ys[j]? = some y' → Rl j y' (upd H4 D (.lst (acc ++ [y])))) fun y H4 q r => by
        have e4 := q _ _ p2
        have tups : ∀ o b xs, H4 b = some (.tup xs) → upd H4 D o b = some (.tup xs) := fun o b xs e => by
          by_cases hb : b = D
          · rw [hb, e4] at e
            cases e
          · rw [upd_ne hb]
            exact e
        refine ⟨ys, e4, by rw [p3]; exact Nat.lt_of_lt_of_le hi hz, fun b u e => by rw [upd_ne (ne_of_none e hD)]; exact (p1.trans q) b u e, ys ++ [y], upd_same, by simp [p3], fun j y' e => ?_⟩
        by_cases hj : j < ys.length
        · rw [List.getElem?_append_left hj] at e
          exact stable j y' H4 _ (tups _) (stable j y' H H4 (fun b xs e => q _ _ e) (p4 j y' e))
        · rw [List.getElem?_append_right (by omega)] at e
          have ej : j = ys.length := by
            have := (List.getElem?_eq_some_iff.mp e).1
            simp at this
            omega
          subst ej
          simp at e
          subst e
          rw [p3]
          exact stable _ _ H4 _ (tups _) r
    exact z
  · obtain ⟨p1, ys, p2, p3, p4⟩ := p
    exact hd H ys p1 p2 p3 p4
end
end Sho
set_option Elab.async false
set_option linter.all false
set_option maxRecDepth 100000
set_option maxHeartbeats 2000000
/-! A callable that is handed on, called without arguments. -/
namespace Sho
open PySem PySem.Spec PyProof.Rows L2 LamX NdefX
section
variable {X : Cx} {pins : List (Addr × Obj)} {σ : L2.St} {H : Hp} {s : Shared} {cl : List (Str × Addr)} {fr : List Str} {ws : List (Option V)}
theorem cells_un {fs ex : List Addr} {H0 : Hp} {h0 h : Heap} (C : CellsAt cl fr ws h0 H0) (U : Un fs ex H0 H h0 h) (hex : ∀ y c, cl.lookup y = some c → c ∉ ex) : CellsAt cl fr ws h H := by
  have one : ∀ {y : Str} {c : Addr} {v : Option Value}, cl.lookup y = some c → h0.IsCell c v → h.IsCell c v := fun {y c v} e ⟨o, ho, hd⟩ => by
    by_cases hm : c ∈ fs
    · obtain ⟨sl, q⟩ := U.slot c o ho (C.all y c e).1 hm (hex y c e)
      exact ⟨_, q, hd⟩
    · exact ⟨o, U.keep c o ho (C.all y c e).1 hm (hex y c e), hd⟩
  refine ⟨C.len, fun y c e => ?_, C.inj, fun i y hi => ?_⟩
  · obtain ⟨n, v, o, ho, hd⟩ := C.all y c e
    exact ⟨U.free c o ho n (hex y c e), v, one e ⟨o, ho, hd⟩⟩
  · obtain ⟨c, e, k⟩ := C.has i y hi
    refine ⟨c, e, fun v hv => ?_⟩
    obtain ⟨u, r, z⟩ := k v hv
    exact ⟨u, r, one e z⟩
/-- cells of the entry's time stand as they stood -/
theorem cells_kept (I : Inv X pins σ H s) (C : CellsAt cl fr ws X.s_0.heap X.H_0) (hex : ∀ y c, cl.lookup y = some c → c ∉ X.ex) : CellsAt cl fr ws s.heap H := cells_un C I.base hex

/-- x(): x's slot holds a callable -/
def tAct (P : Program) (w : World) (K : PySem.W.Frag) (mg : Str → Option Value) (base : Heap) (CX : CXT) (k : Nat) (i : Nat) (cl : List (Str × Addr)) (fr : List Str) (ws : List (Option V)) (E : L2.St → XK) : TE := fun σ H Q =>
  ∃ f sp, σ[i]? = some (some (.ref f)) ∧ Act P w K mg base CX k cl fr sp f H ∧ sp ws H Q (E σ)
theorem pe_act {CX : CXT} {k i : Nat} {E : L2.St → XK} {x : Str} {p pos : Pos} (hr : Room k X.A) (C : CellsAt cl fr ws X.s_0.heap X.H_0) (hex : ∀ y c, cl.lookup y = some c → c ∉ X.ex) (hx : ∀ σ, PassesAt CX X σ (E σ))
    (hN : X.N[i]? = some x) (hv : Vis X.env.scope x) (hd : (x == ("__debug__" : Str)) = false := by decide) (hcd : (x == ("__classdict__" : Str)) = false := by decide) :
    PE X (.Call (.Name x p) [] [] pos) (tAct X.prog X.w X.K X.mg X.base CX k i cl fr ws E) := by
  refine ⟨fun pins s σ H Q I ⟨f, sp, hs, ⟨Z, ecl, hl, run⟩, h⟩ => ?_⟩
  refine wpAny_Call_Name_kw (thn ((pe_var (pos := p) (i := i) hN hv hd hcd).run pins s σ H (fun v H1 => v = .ref f ∧ H1 = H) I ⟨.ref f, hs, rfl, rfl⟩) fun u s1 y => ?_)
  obtain ⟨v, H1, I1, rv, rfl, rfl⟩ := y
  obtain rfl : u = Value.ref f := rv
  obtain ⟨pm, ctv, ho⟩ := lamO_at I1.hok hl.o
  refine PySem.W.callWith_F0 ⟨_, _, _, _, ho⟩ ?_
  refine wpAny_call (codeAny_mono (run X.A X.stack s1 H1 ws Q (E σ) hr I1.env0 hl (cells_kept I1 C hex) h) fun r s' hq => ?_)
  cases r with
  | error e => exact hx σ pins H1 s1 e s' I1 hq
  | ok fl =>
    cases fl with
    | ret u => exact I1.after hq
    | next => exact hq.elim
    | brk => exact hq.elim
    | cont => exact hq.elim

/-- g(e): a def of the module, its promise told of the very state; know: what the state at the call shows -/
theorem pe_callAt {CX : CXT} {E : XK} {know : L2.St → Shared → Hp → Prop} {sp : L2.St → V → Hp → VK → Prop} {g : Addr} {x : Str} {e : Expr} {ta : TA} {p pos : Pos} (hg : Gl X x) (hm : X.mg x = some (.ref g)) (hk : PySem.W.keepIn X.K (.ref g) = true)
    (hx : Passes CX X E) (hP : ∀ (pins : List (Addr × Obj)) (σ : L2.St) (H : Hp) (s : Shared), Inv X pins σ H s → know σ s H) (ha : PA X [e] ta)
    (run : ∀ (σ : L2.St) (s : Shared) (H : Hp) (u : Value) (v : V) (Q : VK), Env0 X.prog X.w X.K X.mg X.base X.A X.stack s H → know σ s H → RelV v u → sp σ v H Q →
      codeAny (model X.prog X.w) X.A (.call (.ref g) ⟨[u], []⟩) (CR CX X.stack X.prog X.w H s Q E) s)
    (hdb : (x == ("__debug__" : Str)) = false := by decide) (hst : starEach [e] X.env = (false, eval e X.env) :: starEach [] X.env := by rfl) :
    PE X (.Call (.Name x p) [e] [] pos) (fun σ H Q => ta σ H fun vs H1 => ∃ v, vs = [v] ∧ sp σ v H1 Q) := by
  refine ⟨fun pins s σ H Q I h => ?_⟩
  refine wpAny_Call_Name_kw (ld_glob I hg hm ?_ hdb)
  refine PySem.W.callWith_K (h₀ := X.base) I.ok.mod.kin hk (thn (ha.run pos pins s σ H _ I h) fun us s1 y => ?_) hst rfl
  · obtain ⟨vs, H1, I1, rv, v, rfl, q⟩ := y
    cases rv with
    | @cons _ u _ _ ru rn =>
    cases rn
    refine ⟨I1.kIn, wpAny_call (codeAny_mono (run σ s1 H1 u v Q I1.env0 (hP pins σ H1 s1 I1) ru q) fun r s' hq => ?_)⟩
    cases r with
    | error er => exact hx pins σ H1 s1 er s' I1 hq
    | ok fl =>
      cases fl with
      | ret w2 => exact I1.after hq
      | next => exact hq.elim
      | brk => exact hq.elim
      | cont => exact hq.elim
end
end Sho
set_option Elab.async false
set_option linter.all false
set_option maxRecDepth 100000
set_option maxHeartbeats 2000000
/-! Operators of own classes by a promise; instances made with a star. -/
namespace Sho
open PySem PySem.Spec PyProof.Rows L2 StX

section
variable {P : Program} {w : World} {K : PySem.W.Frag} {mg : Str → Option Value} {base : Heap} {CX : CXT} {k : Nat} {f : Addr} {fd : FuncData} {ps : List Str} {sp : Sp}
/-- a def's promise by its values alone -/
theorem fnr_of (F : FnOk P w K mg base CX k f fd ps sp) (hb : Binds K fd ps []) : FnR P w K mg base CX k f sp := by
  intro A outer s H us vs Q E hr e0 r h
  have hl := F.len _ _ _ _ h
  have hk : K.In s.heap := e0.mod.kin.keeps fun b o e => (e0.bs b o e).1
  have b := hb s us hk (by rw [List.append_nil, ← r.length]; exact hl)
  rw [List.append_nil] at b
  exact F.run A outer s H ⟨us, []⟩ us vs Q E hr e0 b r h
end

section
variable {X : Cx} {CX : CXT} {k : Nat} {f C : Addr} {sp : Sp} {E : XK}
theorem run_r {pins : List (Addr × Obj)} {σ : L2.St} {H : Hp} {s : Shared} {Q : VK} {us : List Value} {vs : List V} (F : FnR X.prog X.w X.K X.mg X.base CX k f sp) (hr : Room k X.A) (hx : Passes CX X E)
    (I : Inv X pins σ H s) (r : Vals vs us) (h : sp vs H Q E) : wpAny (model X.prog X.w) X.A (call (.ref f) us) (EP X pins σ Q) X.xe s := by
  refine wpAny_call (codeAny_mono (F X.A X.stack s H us vs Q E hr I.env0 r h) fun r s' hq => ?_)
  cases r with
  | error e => exact hx pins σ H s e s' I hq
  | ok fl =>
    cases fl with
    | ret u => exact I.after hq
    | next => exact False.elim hq
    | brk => exact False.elim hq
    | cont => exact False.elim hq

theorem back_of {pins : List (Addr × Obj)} {σ : L2.St} {Q : VK} {u : Value} {s' : Shared} (h : EP X pins σ Q u s') : PySem.W.CmpBack (EP X pins σ Q) u s' := by
  obtain ⟨v, H', I, r, q⟩ := h
  cases u with
  | notImplemented => exact nomatch (show absV Value.notImplemented = some v from RelV.abs r)
  | _ => exact ⟨v, H', I, r, q⟩

/-- an own instance, the instance's own place in the heap -/
def InsAt (H : Hp) (a C : Addr) : Prop := ∃ dx fs, H a = some (.ins C dx fs)

/-- a op b, both of the class at C, C's own method -/
def rOwn2 (C : Addr) (sp : Sp) (E : XK) : R2 := fun x y H Q => ∃ a b, x = .ref a ∧ y = .ref b ∧ InsAt H a C ∧ InsAt H b C ∧ sp [.ref a, .ref b] H Q E
theorem op_own2 {op : Operator} (F : FnR X.prog X.w X.K X.mg X.base CX k f sp) (hr : Room k X.A) (hx : Passes CX X E) (hc : PySem.W.selfFirst X.K C = true)
    (hs : PySem.W.findIn X.K (.ref C) (PySem.dunder op.info.2) = some (some (.ref f))) (hf : PySem.W.isFn X.K (.ref f) = true) : OpR X (binaryOp op) (rOwn2 C sp E) := by
  rintro pins s σ H x y u v Q I rx ry ⟨a, b, rfl, rfl, ⟨dx, fs, ha⟩, ⟨dy, gs, hb⟩, h⟩
  cases rx
  cases ry
  obtain ⟨mA, J, _⟩ := ins_get I.hok ha
  obtain ⟨mB, J', _⟩ := ins_get I.hok hb
  obtain ⟨od, J, _⟩ := J.look
  obtain ⟨od', J', _⟩ := J'.look
  obtain ⟨m, hF⟩ := I.fr
  exact PySem.W.binop_K hF I.ok.mod.kin J J'.type hc hs hf (thn (run_r (vs := [.ref a, .ref b]) F hr hx I (.cons rfl (.cons rfl .nil)) h) fun u s' q => back_of q)

/-- a op b, a of the class at C, b of the built-in type T -/
def rOwnT (C : Addr) (sp : Sp) (E : XK) (isT : V → Prop) : R2 := fun x y H Q => ∃ a, x = .ref a ∧ isT y ∧ InsAt H a C ∧ sp [.ref a, y] H Q E
theorem op_ownT {op : Operator} {T : String} {isT : V → Prop} {fo ro rc : Option Value} (F : FnR X.prog X.w X.K X.mg X.base CX k f sp) (hr : Room k X.A) (hx : Passes CX X E) (hc : PySem.W.selfFirst X.K C = true)
    (hT : ∀ y v, isT y → RelV y v → typeOf v = pure (.type T))
    (hs : PySem.W.findIn X.K (.ref C) (PySem.dunder op.info.2) = some (some (.ref f))) (hf : PySem.W.isFn X.K (.ref f) = true)
    (hr2 : PySem.W.findIn X.K (.ref C) (dunderR op.info.2) = some rc) (hp : rc = none ∨ ∃ g : Addr, rc = some (.ref g))
    (h1 : PySem.W.findIn X.K (.type T) (PySem.dunder op.info.2) = some fo) (h2 : PySem.W.findIn X.K (.type T) (dunderR op.info.2) = some ro) (hsub : PySem.W.subIn X.K (.type T) (.ref C) = some false) :
    OpR X (binaryOp op) (rOwnT C sp E isT) := by
  rintro pins s σ H x y u v Q I rx ry ⟨a, rfl, ht, ⟨dx, fs, ha⟩, h⟩
  cases rx
  obtain ⟨mA, J, _⟩ := ins_get I.hok ha
  obtain ⟨od, J, _⟩ := J.look
  obtain ⟨m, hF⟩ := I.fr
  exact PySem.W.ksp_binT hF I.ok.mod.kin J (hT _ _ ht ry) hc hs hf hr2 hp h1 h2 hsub (thn (run_r (vs := [.ref a, y]) F hr hx I (.cons rfl (.cons ry .nil)) h) fun u s' q => back_of q)
def isInt : V → Prop := fun y => ∃ i, y = .int i
def isStr : V → Prop := fun y => ∃ i, y = .str i
theorem ty_int : ∀ y v, isInt y → RelV y v → typeOf v = pure (.type "int") := by
  rintro y v ⟨i, rfl⟩ ⟨t, rfl⟩
  rfl
theorem ty_str : ∀ y v, isStr y → RelV y v → typeOf v = pure (.type "str") := by
  rintro y v ⟨i, rfl⟩ ⟨t, rfl⟩
  rfl

/-- x in a, not in: a's own __contains__, which hands back a bool -/
def rOwnIn (C : Addr) (neg : Bool) (sp : Sp) (E : XK) : R2 := fun x y H Q => ∃ a, y = .ref a ∧ InsAt H a C ∧ sp [.ref a, x] H (fun r H' => ∃ c, r = .bl c ∧ Q (.bl (if neg then !c else c)) H') E
theorem op_ownIn (F : FnR X.prog X.w X.K X.mg X.base CX k f sp) (hr : Room k X.A) (hx : Passes CX X E)
    (hs : PySem.W.findIn X.K (.ref C) "__contains__" = some (some (.ref f))) (hf : PySem.W.isFn X.K (.ref f) = true) : OpR X (compareOp .In) (rOwnIn C false sp E) := by
  rintro pins s σ H x y u v Q I rx ry ⟨a, rfl, ⟨dx, fs, ha⟩, h⟩
  cases ry
  obtain ⟨mA, J, _⟩ := ins_get I.hok ha
  obtain ⟨od, J, _⟩ := J.look
  obtain ⟨m, hF⟩ := I.fr
  refine PySem.W.in_K hF I.ok.mod.kin J hs hf (thn (run_r (vs := [.ref a, x]) F hr hx I (.cons rfl (.cons rx .nil)) h) fun r s' q => ?_)
  obtain ⟨v2, H2, I2, r2, c, rfl, q2⟩ := q
  cases r2
  exact wpAny_truthy_bool ⟨.bl _, H2, I2, rfl, q2⟩
theorem op_ownNotIn (F : FnR X.prog X.w X.K X.mg X.base CX k f sp) (hr : Room k X.A) (hx : Passes CX X E)
    (hs : PySem.W.findIn X.K (.ref C) "__contains__" = some (some (.ref f))) (hf : PySem.W.isFn X.K (.ref f) = true) : OpR X (compareOp .NotIn) (rOwnIn C true sp E) := by
  rintro pins s σ H x y u v Q I rx ry ⟨a, rfl, ⟨dx, fs, ha⟩, h⟩
  cases ry
  obtain ⟨mA, J, _⟩ := ins_get I.hok ha
  obtain ⟨od, J, _⟩ := J.look
  obtain ⟨m, hF⟩ := I.fr
  refine PySem.W.notIn_K hF I.ok.mod.kin J hs hf (thn (run_r (vs := [.ref a, x]) F hr hx I (.cons rfl (.cons rx .nil)) h) fun r s' q => ?_)
  obtain ⟨v2, H2, I2, r2, c, rfl, q2⟩ := q
  cases r2
  exact wpAny_truthy_bool ⟨.bl _, H2, I2, rfl, q2⟩

/-- a[i]: a's own __getitem__ -/
def rOwnIx (C : Addr) (sp : Sp) (E : XK) : R2 := fun x y H Q => ∃ a, x = .ref a ∧ InsAt H a C ∧ sp [.ref a, y] H Q E
/-- C(*y), y a list or a tuple -/
def tMakeS (K : PySem.W.Frag) (C : Addr) (sp : Sp) (E : XK) (te : TE) : TE := fun σ H Q => te σ H fun y H1 => ∃ a xs, y = V.ref a ∧ (SqT K H1 a xs ∨ SqL K H1 a xs) ∧ ∀ x dx, H1 x = Option.none → H1 dx = Option.none → dx ≠ x →
  sp (V.ref x :: xs) (upd (upd H1 dx (.own x)) x (.ins C dx [])) (fun v H2 => v = .non ∧ Q (.ref x) H2) E
theorem pe_makeS {x : Str} {e : Expr} {te : TE} {p sp_ pos : Pos} (M : Mk X.K C f) (F : FnR X.prog X.w X.K X.mg X.base CX k f sp) (hr : Room (k + 1) X.A) (hg : Gl X x) (hm : X.mg x = some (.ref C)) (hx : Passes CX X E) (he : PE X e te) (hd : (x == ("__debug__" : Str)) = false := by decide)
    (hst : starEach [.Starred e sp_] X.env = [(true, eval e X.env)] := by rfl) : PE X (.Call (.Name x p) [.Starred e sp_] [] pos) (tMakeS X.K C sp E te) := by
  refine ⟨fun pins s σ H Q I h => ?_⟩
  refine wpAny_Call_Name_kw (ld_glob I hg hm ?_ hd)
  refine PySem.W.callWith_S (h₀ := X.base) I.ok.mod.kin M.kp (thn (he.run pins s σ H _ I h) fun v s1 ⟨y, H1, I1, ry, a, xs, ey, hxs, q⟩ => ?_) hst
  subst ey
  obtain rfl : v = Value.ref a := ry
  exact star_any I1 hxs fun us s2 I2 rv => ⟨I2.kIn, run_makeR M F hr hx I2 rv q⟩
/-- C() -/
theorem pe_makeR0 {x : Str} {p pos : Pos} (M : Mk X.K C f) (F : FnR X.prog X.w X.K X.mg X.base CX k f sp) (hr : Room (k + 1) X.A) (hg : Gl X x) (hm : X.mg x = some (.ref C)) (hx : Passes CX X E) (hdb : (x == ("__debug__" : Str)) = false := by decide) :
    PE X (.Call (.Name x p) [] [] pos) (tMakeR C sp E tNil) := by
  refine ⟨fun pins s σ H Q I h => ?_⟩
  refine wpAny_Call_Name_kw (ld_glob I hg hm ?_ hdb)
  exact PySem.W.callWith_K0 I.kIn M.kp (run_makeR (us := []) M F hr hx I .nil h)
end
end Sho
set_option Elab.async false
set_option linter.all false
namespace Sh1
open PySem L2
abbrev pw : Program := PySem.Challenge.pw_shoepile_k07_quiet_guests
def top (i : Nat) : Stmt := PySem.Challenge.pw_shoepile_k07_quiet_guests.main.body.getD i (.Pass ⟨0, 0, 0, 0⟩)
abbrev sWall : Stmt := top 0
abbrev cPartyError : Stmt := top 2
abbrev cInvalidStay : Stmt := top 3
abbrev sInvInit : Stmt := inClass (top 3) 0
abbrev cUnknownGuest : Stmt := top 4
abbrev sUnkInit : Stmt := inClass (top 4) 0
abbrev sIsName : Stmt := top 8
abbrev sIsWithin : Stmt := top 9
abbrev sIsTick : Stmt := top 10
abbrev sIsStay : Stmt := top 11
abbrev sBottomUp : Stmt := top 12
abbrev sLiftedFrom : Stmt := top 13
abbrev sCrossingNames : Stmt := top 15
abbrev sGoingsByEvent : Stmt := top 16
abbrev sQuietCount : Stmt := top 17
abbrev sQuietGuests : Stmt := top 18
abbrev sCheck : Stmt := top 20
abbrev cParty : Stmt := top 21
abbrev sPInit : Stmt := inClass (top 21) 1
abbrev sPEvening : Stmt := inClass (top 21) 2
abbrev sPStays : Stmt := inClass (top 21) 3
abbrev sPNames : Stmt := inClass (top 21) 4
abbrev sPStayOf : Stmt := inClass (top 21) 5
abbrev sPLen : Stmt := inClass (top 21) 6
abbrev sPBool : Stmt := inClass (top 21) 7
abbrev sPIn : Stmt := inClass (top 21) 8
abbrev sPIx : Stmt := inClass (top 21) 9
abbrev sPIter : Stmt := inClass (top 21) 10
abbrev sPEq : Stmt := inClass (top 21) 11
abbrev sPSub : Stmt := inClass (top 21) 12
abbrev sPAdd : Stmt := inClass (top 21) 13
abbrev sPShift : Stmt := inClass (top 21) 14
abbrev sPCall : Stmt := inClass (top 21) 15
abbrev sPCross : Stmt := inClass (top 21) 16
abbrev sPPile : Stmt := inClass (top 21) 17
abbrev sAllLifting : Stmt := top 22
abbrev sStart : Stmt := top 24
abbrev sDrawn : Stmt := top 25
abbrev sSame : Stmt := top 26
abbrev sRows : Stmt := top 27
abbrev sLawParty : Stmt := top 28
abbrev sLawPlayed : Stmt := top 29
abbrev sLawCross : Stmt := top 30
abbrev sLawIsQuiet : Stmt := top 31
abbrev sLawGreatest : Stmt := top 32
abbrev sLaw : Stmt := top 33
abbrev nDue : PySem.Str := "_law_due"
end Sh1
set_option Elab.async false
set_option linter.all false
set_option maxRecDepth 100000
set_option maxHeartbeats 2000000
namespace Sh1
open PySem L2 Sho
abbrev Stay := Str × Int × Int
def StayV (H : Hp) (v : V) (x : Stay) : Prop := ∃ t, v = .ref t ∧ H t = some (.tup [.str x.1, .int x.2.1, .int x.2.2])
/-- the builtins that the text calls -/
structure Blt (mg : Str → Option Value) : Prop where
  len : mg "len" = none
  all : mg "all" = none
  isi : mg "isinstance" = none
  bool : mg "bool" = none
  tuple : mg "tuple" = none
  list : mg "list" = none
  range : mg "range" = none
  enum : mg "enumerate" = none
  int : mg "int" = none
  sup : mg "super" = none
  sorted : mg "sorted" = none
section
variable {P : Program} {w : World} {K : PySem.W.Frag} {mg : Str → Option Value} {base : Heap}
/-! ### is_name -/
def letter (c : Nat) : Bool := !decide (c < 97) && !decide (122 < c)
def okName (z : Str) : Bool := decide ((1 : Int) ≤ z.length) && (decide ((z.length : Int) ≤ 8) && z.cps.toList.all letter)
theorem one_lt (c d : Nat) : ([c] < [d]) ↔ c < d := by
  rw [List.cons_lt_cons_iff]
  simp
theorem cps_a : (Str.ofString "a").cps.toList = [97] := by decide +kernel
theorem cps_z : (Str.ofString "z").cps.toList = [122] := by decide +kernel
def spIsName : Sp := fun vs H Q _ => ∃ z : Str, vs = [.str z] ∧ z.length ≤ sizeLine ∧ ∀ H', Same H H' → Q (.bl (okName z)) H'
theorem scIsName : FnScope ["word", "letter"] ["word"] (defScope sIsName) := ⟨rfl, rfl, rfl, by decide +kernel, rfl, by decide +kernel, by decide +kernel⟩
theorem ok_isName {f : Addr} {fd : FuncData} {t8 : Tok} (F : Fun K "is_name" "is_name" sIsName f fd) (B : Blt mg) (g8 : mg "LONGEST_NAME" = some (.int 8 t8)) : FnOk P w K mg base CX0 1 f fd ["word"] spIsName := by
  refine F.ok scIsName (fun vs H Q E h => ?_) (fun cdv A outer s H vs Q E hr h => ?_)
  · obtain ⟨z, rfl, _⟩ := h
    rfl
  · obtain ⟨z, rfl, hz, k⟩ := h
    refine ⟨_, pss_one (ps_ret (pe_and (pe_chain op_le op_le pe_int (pe_callB call_len_str (by rfl) B.len PySem.boot_len (pa_cons (pv 0) pa_nil)) (pe_glob (v := .int 8) rfl g8 ⟨_, rfl⟩)) (pe_one
      (pe_callB (cr_all rfl) (by rfl) B.all (by decide +kernel) (pa_cons (pe_lc (own := [("letter", 1)]) (g := gName 1) (tt := tYes) rfl scIsName.nd (pi_str (pv 0)) (blkOk_by (own := [("letter", 1)]) (N := ["word", "letter"]) (sc := defScope sIsName) (by decide +kernel))
        (fun _ _ _ _ _ => pg_name (i := 1) scIsName.nd rfl (Or.inl rfl)) (fun _ _ _ _ _ => pts_nil)
        (fun _ _ _ _ _ => pe_chain op_le_str op_le_str pe_str (pv 1) pe_str)) pa_nil))))), ?_⟩
    refine ⟨_, rfl, z, rfl, hz, _, _, rfl, rfl, _, rfl, ?_⟩
    refine ite2 (fun h1 => ?_) (fun h1 => ?_)
    · refine ⟨_, _, rfl, rfl, _, rfl, ?_⟩
      refine ite2 (fun h2 => ?_) (fun h2 => ?_)
      · refine ⟨_, rfl, z, rfl, fun D hD => ?_⟩
        refine lc_map (walk_str (z := z)) (fun i => (z.cps.toList[i]?).map fun c => .bl (letter c)) hD hz (fun _ _ => trivial) (fun i x H1 H' hi s1 y R k1 => ?_) (fun i hi => ⟨_, by rw [List.getElem?_eq_getElem (by simpa using hi)]; rfl⟩) fun H1 s1 e1 => ?_
        · obtain ⟨rfl, c, hc, rfl⟩ := y
          refine ⟨rfl, _, rfl, _, _, rfl, rfl, _, rfl, ?_⟩
          have fi : Option.map (fun c => V.bl (letter c)) z.cps.toList[i]? = some (.bl (letter c)) := by
            rw [Array.getElem?_toList, hc]
            rfl
          have e1 : decide (({ cps := #[c] } : Str).cps.toList < (Str.ofString "a").cps.toList) = decide (c < 97) := by
            rw [cps_a]
            exact decide_eq_decide.mpr (one_lt c 97)
          have e2 : decide ((Str.ofString "z").cps.toList < ({ cps := #[c] } : Str).cps.toList) = decide (122 < c) := by
            rw [cps_z]
            exact decide_eq_decide.mpr (one_lt 122 c)
          rw [e1]
          by_cases h3 : c < 97
          · rw [decide_eq_true h3]
            refine iteF (k1 _ _ (Same.refl _) ?_)
            rw [fi]
            simp [letter, h3]
          · rw [decide_eq_false h3]
            refine iteT ⟨_, _, rfl, rfl, ?_⟩
            rw [e2]
            refine k1 _ _ (Same.refl _) ?_
            rw [fi]
            simp [letter, h3]
        · refine ⟨D, z.cps.toList.map letter, rfl, ?_, ?_⟩
          · have e2 : gather (fun i => (z.cps.toList[i]?).map fun c => V.bl (letter c)) z.cps.size = (z.cps.toList.map letter).map V.bl := by
              have := gather_map z.cps.toList fun c => V.bl (letter c)
              rw [Array.length_toList] at this
              rw [this, List.map_map]
              rfl
            rw [← e2]
            exact SqL.of e1
          · have e3 : okName z = (z.cps.toList.map letter).all id := by
              unfold okName
              have h1' : (1 : Int) ≤ z.length := of_decide_eq_true h1
              have h2' : (z.length : Int) ≤ 8 := of_decide_eq_true h2
              rw [decide_eq_true h1', decide_eq_true h2', List.all_map]
              rfl
            rw [← e3]
            exact k _ s1
      · have e3 : okName z = false := by
          unfold okName
          have h2' : ¬ (z.length : Int) ≤ 8 := fun q => h2 (decide_eq_true q)
          rw [decide_eq_false h2']
          simp
        have := k H (Same.refl H)
        rw [e3] at this
        exact this
    · have e3 : okName z = false := by
        unfold okName
        have h1' : ¬ (1 : Int) ≤ z.length := fun q => h1 (decide_eq_true q)
        rw [decide_eq_false h1']
        rfl
      have := k H (Same.refl H)
      rw [e3] at this
      exact ⟨_, rfl, iteF this⟩
end
end Sh1
set_option Elab.async false
set_option linter.all false
set_option maxRecDepth 100000
set_option maxHeartbeats 2000000
namespace Sh1
open PySem L2 Sho
section
variable {P : Program} {w : World} {K : PySem.W.Frag} {mg : Str → Option Value} {base : Heap}
/-! ### is_tick, is_stay -/
def okTick (n : Int) : Bool := decide (0 ≤ n) && decide (n ≤ 1000000000)
def spIsWithin : Sp := fun vs H Q _ => ∃ n a b : Int, vs = [.int n, .int a, .int b] ∧ Q (.bl (decide (a ≤ n) && decide (n ≤ b))) H
theorem scIsWithin : FnScope ["number", "low", "high"] ["number", "low", "high"] (defScope sIsWithin) := ⟨rfl, rfl, rfl, by decide +kernel, rfl, by decide +kernel, by decide +kernel⟩
theorem ok_isWithin {f : Addr} {fd : FuncData} (F : Fun K "is_within" "is_within" sIsWithin f fd) (B : Blt mg) : FnOk P w K mg base CX0 1 f fd ["number", "low", "high"] spIsWithin := by
  refine F.ok scIsWithin (fun vs H Q E h => ?_) (fun cdv A outer s H vs Q E hr h => ?_)
  · obtain ⟨n, a, b, rfl, _⟩ := h
    rfl
  · obtain ⟨n, a, b, rfl, k⟩ := h
    refine ⟨_, pss_one (ps_ret (pe_and (pe_not (pe_callB call_isi (by rfl) B.isi (by decide +kernel) (pa_cons (pv 0) (pa_cons (pe_bltn (v := .ty "bool") (by rfl) B.bool (by decide +kernel) rfl) pa_nil))))
      (pe_one (pe_chain op_le op_le (pv 1) (pv 0) (pv 2))))), ?_⟩
    refine ⟨_, rfl, .int n, .ty "bool", .type "int", .type "bool", false, rfl, .ty _, .base (.int n), kit_ty (by decide +kernel), _, rfl, _, rfl, iteT ⟨_, rfl, _, rfl, _, _, rfl, rfl, _, rfl, ?_⟩⟩
    refine ite2 (fun h1 => ?_) (fun h1 => ?_)
    · refine ⟨_, rfl, _, _, rfl, rfl, ?_⟩
      rw [h1] at k
      exact k
    · rw [Bool.eq_false_iff.mpr h1] at k
      exact k
def spIsTick : Sp := fun vs H Q _ => ∃ n : Int, vs = [.int n] ∧ Q (.bl (okTick n)) H
theorem scIsTick : FnScope ["number"] ["number"] (defScope sIsTick) := ⟨rfl, rfl, rfl, by decide +kernel, rfl, by decide +kernel, by decide +kernel⟩
theorem ok_isTick {f fW : Addr} {fd fdW : FuncData} {t8 : Tok} (F : Fun K "is_tick" "is_tick" sIsTick f fd) (g9 : mg "LAST_TICK" = some (.int 1000000000 t8))
    (GW : FnOk P w K mg base CX0 1 fW fdW ["number", "low", "high"] spIsWithin) (mW : mg "is_within" = some (.ref fW)) (kW : PySem.W.keepIn K (.ref fW) = true) (bW : Binds K fdW ["number", "low", "high"] []) : FnOk P w K mg base CX0 2 f fd ["number"] spIsTick := by
  refine F.ok scIsTick (fun vs H Q E h => ?_) (fun cdv A outer s H vs Q E hr h => ?_)
  · obtain ⟨n, rfl, _⟩ := h
    rfl
  · obtain ⟨n, rfl, k⟩ := h
    refine ⟨_, pss_one (ps_ret (pe_call GW hr rfl mW kW bW .nil pass0 (pa_cons (pv 0) (pa_cons pe_int (pa_cons (pe_glob (v := .int 1000000000) rfl g9 ⟨_, rfl⟩) pa_nil))))), ?_⟩
    exact ⟨_, rfl, n, 0, 1000000000, rfl, k⟩
def okStay (z : Str) (a b : Int) : Bool := okName z && (okTick a && (okTick b && decide (a < b)))
def spIsStay : Sp := fun vs H Q _ => ∃ (z : Str) (a b : Int), vs = [.str z, .int a, .int b] ∧ z.length ≤ sizeLine ∧ ∀ H', Same H H' → Q (.bl (okStay z a b)) H'
theorem scIsStay : FnScope ["name", "come", "go"] ["name", "come", "go"] (defScope sIsStay) := ⟨rfl, rfl, rfl, by decide +kernel, rfl, by decide +kernel, by decide +kernel⟩
theorem ok_isStay {f fN fT : Addr} {fd fdN fdT : FuncData} (F : Fun K "is_stay" "is_stay" sIsStay f fd) (GN : FnOk P w K mg base CX0 1 fN fdN ["word"] spIsName) (mN : mg "is_name" = some (.ref fN)) (kN : PySem.W.keepIn K (.ref fN) = true) (bN : Binds K fdN ["word"] [])
    (GT : FnOk P w K mg base CX0 2 fT fdT ["number"] spIsTick) (mT : mg "is_tick" = some (.ref fT)) (kT : PySem.W.keepIn K (.ref fT) = true) (bT : Binds K fdT ["number"] []) : FnOk P w K mg base CX0 3 f fd ["name", "come", "go"] spIsStay := by
  refine F.ok scIsStay (fun vs H Q E h => ?_) (fun cdv A outer s H vs Q E hr h => ?_)
  · obtain ⟨z, a, b, rfl, _⟩ := h
    rfl
  · obtain ⟨z, a, b, rfl, hz, k⟩ := h
    refine ⟨_, pss_one (ps_ret (pe_and (pe_call GN (hr.mono (by decide)) rfl mN kN bN .nil pass0 (pa_cons (pv 0) pa_nil)) (pe_and (pe_call GT hr rfl mT kT bT .nil pass0 (pa_cons (pv 1) pa_nil))
      (pe_and (pe_call GT hr rfl mT kT bT .nil pass0 (pa_cons (pv 2) pa_nil)) (pe_one (pe_cmpR op_lt (pv 1) (pv 2) (nomark _))))))), ?_⟩
    have fin : ∀ (c : Bool) (H' : Hp), Same H H' → c = okStay z a b → Q (.bl c) H' := fun c H' s e => by
      rw [e]
      exact k _ s
    refine ⟨_, rfl, z, rfl, hz, fun H1 s1 => ⟨_, rfl, ?_⟩⟩
    refine ite2 (fun h1 => ⟨_, rfl, a, rfl, _, rfl, ?_⟩) (fun h1 => fin _ _ s1 (by unfold okStay; rw [Bool.eq_false_iff.mpr h1]; rfl))
    refine ite2 (fun h2 => ⟨_, rfl, b, rfl, _, rfl, ?_⟩) (fun h2 => fin _ _ s1 (by unfold okStay; rw [Bool.eq_false_iff.mpr h2]; simp))
    refine ite2 (fun h3 => ⟨_, rfl, _, rfl, _, _, rfl, rfl, ?_⟩) (fun h3 => fin _ _ s1 (by unfold okStay; rw [Bool.eq_false_iff.mpr h3]; simp))
    exact fin _ _ s1 (by unfold okStay; rw [h1, h2, h3]; rfl)
end
end Sh1
set_option Elab.async false
set_option linter.all false
set_option maxRecDepth 100000
set_option maxHeartbeats 2000000
namespace Sh1
open PySem L2 Sho NdefX
abbrev nfInv (cc cda : Addr) : NF := ⟨"__init__", "InvalidStay.__init__", defArgs sInvInit, defBody sInvInit, defScope sInvInit, [("__class__", cc)], cda⟩
/-- an own error that stores one field -/
structure ErrC (P : Program) (K : PySem.W.Frag) (mg : Str → Option Value) (x fld : Str) (F : Addr → Addr → NF) (C : Addr) : Prop where
  txt : ∃ f cc cda, SupTxt P K mg (F cc cda) f cc C ∧ PySem.W.findIn K (.ref C) "__init__" = some (some (.ref f)) ∧ PySem.W.typeIn K (.ref f) = some (.type "function")
  cls : SupCls K C C
  xf : XfC K C
  no : PySem.W.findIn K (.ref C) fld = some none
  gm : mg x = some (.ref C)
  exm : PySem.W.exmOne K (.ref C) (.ref C) = some true
section
variable {X : Cx} {CX : CXT} {C : Addr} {k : Nat} {kws : List Keyword} {te : TA} {p pos : Pos}
theorem tells_len {v : V} (h : Tells v) : (∃ y : Str, v = .str y ∧ y.length ≤ 100000) ∨ ∃ i : Int, v = .int i ∧ i.natAbs.log2 < 1920 ∧ (Str.ofString (toString i)).length ≤ 100000 := by
  rcases h with ⟨y, rfl, hy⟩ | ⟨i, rfl, hi⟩
  · exact .inl ⟨y, rfl, hy⟩
  · exact .inr ⟨i, rfl, hi, Nat.le_trans (PyProof.Rows.int_text_len_1921 hi) (by decide)⟩
theorem small_cat {a b : Str} {n m : Nat} (ha : a.length ≤ n) (hb : b.length ≤ m) : (a ++ b).length ≤ n + m := by
  rw [PySem.Str.length_append]
  omega
theorem pmk_inv (EC : ErrC X.prog X.K X.mg "InvalidStay" "index" nfInv C) (hr : Room (k + 2) X.A) (hx : Passes CX X (fun _ _ _ => False)) (hg : Gl X "InvalidStay")
    (hkw : PK X kws te) (hall : (backToKw pos (keywordEach kws X.env)).all (·.1.isSome) = true) (hks : (backToKw pos (keywordEach kws X.env)).filterMap (·.1) = [("index" : Str)])
    (hpl : ((backTo pos (starEach [] X.env)).any (·.1) || (backToKw pos (keywordEach kws X.env)).any (·.1.isNone)) = false) : PMk X (.Call (.Name "InvalidStay" p) [] kws pos) (tMkW C "index" te) := by
  obtain ⟨f, cc, cda, T, iC, tI⟩ := EC.txt
  have S : NScope ["self", "index", "__class__"] ["self", "index"] ["__class__"] (defScope sInvInit) := nscope_by (by decide +kernel)
  refine pmk_kw (F := nfInv cc cda) (fld := "index") (k := k) T EC.cls EC.xf EC.no iC tI S hr hx hg EC.gm hkw hall hks hpl rfl (fun s doc pm an ct xa u => .of_eq rfl) (fun A outer s H E xa v hv => ?_) (fun L => rfl) (fun L => rfl) (fun L => rfl)
  refine ⟨_, pa_cons (pe_joined (.cons pe_str (.cons (pe_fmt (pv 1)) (.cons pe_str .nil)))) pa_nil, fun R hR => ?_⟩
  have e0 : (Str.empty ++ Str.ofString "stay ").length ≤ 10 := by decide +kernel
  have e2 : (Str.ofString " is not allowed").length ≤ 20 := by decide +kernel
  refine ⟨_, rfl, Nat.le_trans e0 (by decide), v, rfl, ?_⟩
  rcases tells_len hv with ⟨y, rfl, hy⟩ | ⟨i, rfl, hi, hl⟩
  · have l1 := small_cat e0 hy
    have l2 := small_cat l1 e2
    exact .inl ⟨y, rfl, Nat.le_trans hy (by decide), y, rfl, Nat.le_trans l1 (by decide), _, rfl, Nat.le_trans l2 (by decide), hR _⟩
  · have l1 := small_cat e0 hl
    have l2 := small_cat l1 e2
    exact .inr ⟨i, rfl, hi, _, rfl, Nat.le_trans l1 (by decide), _, rfl, Nat.le_trans l2 (by decide), hR _⟩
end
end Sh1
set_option Elab.async false
set_option linter.all false
set_option maxRecDepth 100000
set_option maxHeartbeats 2000000
namespace Sh1
open PySem L2 Sho NdefX
abbrev nfUnk (cc cda : Addr) : NF := ⟨"__init__", "UnknownGuest.__init__", defArgs sUnkInit, defBody sUnkInit, defScope sUnkInit, [("__class__", cc)], cda⟩
section
variable {X : Cx} {CX : CXT} {C : Addr} {k : Nat} {kws : List Keyword} {te : TA} {p pos : Pos}
theorem pmk_unk (EC : ErrC X.prog X.K X.mg "UnknownGuest" "name" nfUnk C) (hr : Room (k + 2) X.A) (hx : Passes CX X (fun _ _ _ => False)) (hg : Gl X "UnknownGuest")
    (hkw : PK X kws te) (hall : (backToKw pos (keywordEach kws X.env)).all (·.1.isSome) = true) (hks : (backToKw pos (keywordEach kws X.env)).filterMap (·.1) = [("name" : Str)])
    (hpl : ((backTo pos (starEach [] X.env)).any (·.1) || (backToKw pos (keywordEach kws X.env)).any (·.1.isNone)) = false) : PMk X (.Call (.Name "UnknownGuest" p) [] kws pos) (tMkW C "name" te) := by
  obtain ⟨f, cc, cda, T, iC, tI⟩ := EC.txt
  have S : NScope ["self", "name", "__class__"] ["self", "name"] ["__class__"] (defScope sUnkInit) := nscope_by (by decide +kernel)
  refine pmk_kw (F := nfUnk cc cda) (fld := "name") (k := k) T EC.cls EC.xf EC.no iC tI S hr hx hg EC.gm hkw hall hks hpl rfl (fun s doc pm an ct xa u => .of_eq rfl) (fun A outer s H E xa v hv => ?_) (fun L => rfl) (fun L => rfl) (fun L => rfl)
  refine ⟨_, pa_cons (pe_joined (.cons pe_str (.cons (pe_fmt (pv 1)) .nil))) pa_nil, fun R hR => ?_⟩
  have e0 : (Str.empty ++ Str.ofString "there is no guest ").length ≤ 30 := by decide +kernel
  refine ⟨_, rfl, Nat.le_trans e0 (by decide), v, rfl, ?_⟩
  rcases tells_len hv with ⟨y, rfl, hy⟩ | ⟨i, rfl, hi, hl⟩
  · have l1 := small_cat e0 hy
    exact .inl ⟨y, rfl, Nat.le_trans hy (by decide), y, rfl, Nat.le_trans l1 (by decide), hR _⟩
  · have l1 := small_cat e0 hl
    exact .inr ⟨i, rfl, hi, _, rfl, Nat.le_trans l1 (by decide), hR _⟩
end
end Sh1
set_option Elab.async false
set_option linter.all false
set_option maxRecDepth 100000
set_option maxHeartbeats 2000000
/-! enumerate of a tuple. -/
namespace ShE
open PySem
open Sem (wp)
open AutoSeq1 (wpAny_loadPart')
/-- the enumerate of the tuple o at t -/
theorem meets_enumT (t : Addr) (o : Obj) (items : Array Value) (hc : o.cls = .type "tuple") (n : Nat) (hd : o.data = .seq items n) :
    Meets (Builtin.«enumerate.__new__» ⟨[.type "enumerate", .ref t], []⟩) (fun _ R s => s.heap.get? t = some o ∧
      R (.ok (.ret (.ref (s.heap.push { cls := .type "tuple_iterator", data := .fields #[.ref t, .int 0 0] }).objs.size)))
        { s with heap := (s.heap.push { cls := .type "tuple_iterator", data := .fields #[.ref t, .int 0 0] }).push { cls := .type "enumerate", data := .fields #[.none, .bool false, .ref s.heap.objs.size, rawInt 0, .none, .none] } }) :=
  .of_wp fun prog w A R s h => by
    obtain ⟨hp, g, d, tk, os⟩ := s
    obtain ⟨ht, h⟩ := h
    obtain ⟨oc, od, odt, osl⟩ := o
    replace hc : oc = .type "tuple" := hc
    replace hd : odt = .seq items n := hd
    subst hc hd
    have sub := sub_enumerate
    have isT : Heap.IsTuple (Shared.heap ⟨hp, g, d, tk, os⟩) t items := ⟨_, ht, rfl, n, rfl⟩
    wp_walk using wpAny_loadPart' ht
    refine wpAny_stack_any fun st => wpAny_pure ?_
    split
    · rename_i c _ _ _ _ _
      cases (c == Value.type "enumerate")
      all_goals
        wp_walk using wpAny_loadPart' ht, wpAny_pyIter_tuple isT
        exact ⟨_, rfl, h⟩
    · wp_walk using wpAny_loadPart' ht, wpAny_pyIter_tuple isT
      exact ⟨_, rfl, h⟩
section
variable {prog : Program} {w : World} {A : Around} {E : Value → Shared → Prop} {s : Shared}
theorem call_enumT {t : Addr} {items : Array Value} {Q : Value → Shared → Prop} (hT : s.heap.IsTuple t items)
    (h : ∀ h', IsEnum h' (s.heap.objs.size + 1) s.heap.objs.size 0 .none → h'.IsTupleIter s.heap.objs.size t 0 → h'.objs.size = s.heap.objs.size + 2 →
      (∀ b o, s.heap.get? b = some o → h'.get? b = some o) → Q (.ref (s.heap.objs.size + 1)) { s with heap := h' }) :
    wpAny (model prog w) A (call (.type "enumerate") [.ref t]) Q E s := by
  obtain ⟨o, ho, hc, n, hd⟩ := hT
  refine callType_new F.called_enumerate (by decide) (F.typeCall_enumerate_1 _) (F.newCall_enumerate_1 _) (fun obj => F.args_object_init_2 obj _) F.entry_enumerate_new
    (meets_enumT t o items hc n hd) ⟨ho, ?_⟩
  generalize hI : s.heap.push { cls := .type "tuple_iterator", data := .fields #[.ref t, .int 0 0] } = h1
  have z1 : h1.objs.size = s.heap.objs.size + 1 := by
    rw [← hI]
    exact Heap.size_push ..
  have it1 : h1.get? s.heap.objs.size = some { cls := .type "tuple_iterator", data := .fields #[.ref t, .int 0 0] } := by
    rw [← hI]
    exact Heap.get?_push_size _ rfl
  show _ ∧ _
  rw [z1]
  have en : IsEnum (h1.push { cls := .type "enumerate", data := .fields #[.none, .bool false, .ref s.heap.objs.size, rawInt 0, .none, .none] }) (s.heap.objs.size + 1) s.heap.objs.size 0 .none := by
    have := Heap.get?_push_size h1 (o := { cls := .type "enumerate", data := .fields #[.none, .bool false, .ref s.heap.objs.size, rawInt 0, .none, .none] }) rfl
    rw [z1] at this
    exact this
  refine ⟨⟨_, en, rfl⟩, h _ en ⟨_, Heap.get?_push_of_some _ it1, rfl, rfl⟩ (by rw [Heap.size_push, z1]) fun b o x => Heap.get?_push_of_some _ ?_⟩
  rw [← hI]
  exact Heap.get?_push_of_some _ x
end
end ShE

namespace Sho
open PySem PySem.Spec PyProof.Rows L2
/-- enumerate of the tuple at a: pairs of the turn and its item -/
def Iet (K : PySem.W.Frag) (a : Addr) : It :=
  ⟨fun i H => ∃ (xs : List V) (x : V), SqT K H a xs ∧ xs[i]? = some x, fun i H v H' => ∃ T x, v = .ref T ∧ H T = none ∧ H' = upd H T (.tup [.int (i : Nat), x]) ∧ ∀ xs, SqT K H a xs → xs[i]? = some x,
    fun i H => ∃ xs : List V, SqT K H a xs ∧ xs.length = i⟩
theorem walk_enumT {K : PySem.W.Frag} {a : Addr} {xs : List V} : Walk (Iet K a) xs.length (fun H => SqT K H a xs) (YPair (fun i => some (.int (i : Nat))) (fun i => xs[i]?)) := by
  refine ⟨fun i H hi q => ⟨xs, xs[i], q, by simp [hi]⟩, fun H q => ⟨xs, q, rfl⟩, fun i H v H' _ q y => ?_⟩
  obtain ⟨T, x, h1, h2, h3, h4⟩ := y
  exact ⟨T, .int (i : Nat), x, h1, h2, h3, rfl, h4 xs q⟩
theorem turn_enumT {P : Program} {w : World} {K : PySem.W.Frag} {elts : List Expr} {kk : Nat} {tpos : Pos} (a e it : Addr) :
    Turn P w K (.Tuple elts kk tpos) (Iet K a) [e, it] e (fun i h => (∃ old, IsEnum h e it ((i : Nat) : Int) old) ∧ h.IsTupleIter it a i ∧ e ≠ it ∧ a ≠ it ∧ a ≠ e) where
  mem := by simp
  obj := fun i h st b hb => by
    obtain ⟨⟨old, he⟩, ⟨o, ho, hc, hd⟩, _⟩ := st
    have two : b = e ∨ b = it := by simpa using hb
    rcases two with z | z
    · rw [z]
      exact ⟨_, he, fun v q => nomatch q⟩
    · rw [z]
      exact ⟨o, ho, fun v q => by rw [hd] at q; cases q⟩
  keep := fun i h h' st k => let ⟨⟨old, he⟩, hi, n⟩ := st; ⟨⟨old, k e (by simp) _ he⟩, hi.at fun o q => k it (by simp) o q, n⟩
  item := by
    intro X hP hw hK hc i pins s σ H E I hf st hg
    subst hP hw hK
    obtain ⟨⟨old, he⟩, hit, n1, n2, n3⟩ := st
    obtain ⟨xs, x, hq, hx⟩ := hg
    obtain ⟨its, rv, isT, hz⟩ := I.tuple hq
    have DR := Draws.tuple (prog := X.prog) (w := X.w) (A := X.A.in1) (I.ok.hd hc) it a n2 its.toArray
    obtain ⟨u, hu, ru⟩ := rv.get hx
    have lt : i < its.toArray.size := by
      rw [List.size_toArray]
      exact (List.getElem?_eq_some_iff.mp hu).1
    refine wpAny_pyNext_enum_itemD DR he ⟨hit, isT⟩ lt n1 (by simp [n1, Ne.symm n3]) fun u' h' tk hu' ho st' hT hsz hk => ?_
    have eu : u' = u := by
      have hu' : its.toArray[i]? = some u' := hu'
      rw [List.getElem?_toArray, hu] at hu'
      exact (Option.some.inj hu').symm
    subst eu
    have hel : e < s.heap.objs.size := Heap.lt_size he
    have hil : it < s.heap.objs.size := by
      obtain ⟨_, q, _⟩ := hit
      exact Heap.lt_size q
    refine ⟨_, rfl, wpAny_letOwnedTupleGo_enum (s := { s with heap := h', toks := tk + 1 }) ho fun h'' he' sb => ?_⟩
    have hT2 : h''.get? s.heap.objs.size = some { cls := .type "tuple", data := .seq #[.int i tk, u'] } := (sb.2 _ (Nat.ne_of_gt hel)).trans hT
    have new : ObjOk X.prog X.w (upd H s.heap.objs.size (.tup [.int (i : Nat), x])) h'' s.heap.objs.size (.tup [.int (i : Nat), x]) :=
      ⟨by show 2 ≤ sizeLine; decide, [.int i tk, u'], .cons ⟨_, rfl⟩ (.cons ru .nil), ⟨_, hT2, rfl, _, rfl⟩⟩
    have I1 : Inv X pins σ (upd H s.heap.objs.size (.tup [.int (i : Nat), x])) { s with heap := h'', toks := tk + 1 } :=
      I.turnedNew (ch := [e, it]) (fun b ob hb q => (sb.2 b (fun z => hb (by simp [z]))).trans (hk b ob (fun z => hb (by simp [z])) (fun z => hb (by simp [z])) q)) hf (Nat.le_refl _) new
    refine ⟨.ref s.heap.objs.size, _, I1, rfl, ⟨_, x, rfl, I.hok.fresh (Nat.le_refl _), rfl, fun ys hy => by rw [I.tuple_inj hy hq]; exact hx⟩, ⟨⟨u', ?_⟩, st'.1.at fun o q => (sb.2 it (Ne.symm n1)).trans q, n1, n2, n3⟩, fun b hb => ?_⟩
    · have z : ((i + 1 : Nat) : Int) = (i : Int) + 1 := by omega
      rw [z]
      exact he'
    · have old' : b < s.heap.objs.size := by
        have two : b = e ∨ b = it := by simpa using hb
        rcases two with z | z <;> rw [z] <;> assumption
      rw [upd_ne (Nat.ne_of_lt old')]
      exact (hf b hb).1
  done := by
    intro X hP hw hK hc i pins s σ H E I hf st hg
    subst hP hw hK
    obtain ⟨⟨old, he⟩, hit, n1, n2, n3⟩ := st
    obtain ⟨xs, hq, hx⟩ := hg
    obtain ⟨its, rv, isT, hz⟩ := I.tuple hq
    have DR := Draws.tuple (prog := X.prog) (w := X.w) (A := X.A.in1) (I.ok.hd hc) it a n2 its.toArray
    obtain ⟨f0, f1, f2, f3, f4, f5⟩ := hf it (by simp)
    have ei : i = its.toArray.size := by
      rw [List.size_toArray, ← rv.length]
      exact hx.symm
    refine wpAny_pyNext_enum_endD DR he (show _ from ei ▸ ⟨hit, isT⟩) fun h' eb => ⟨rfl, I.turned (t' := s.toks) (fun b o hb q => eb b o hb q) f0 f1 f3 f4 f5⟩
  self := fun A i s Q E st h => let ⟨⟨_, he⟩, _⟩ := st; wpAny_pyIter_enum he h
def iEnumT (K : PySem.W.Frag) (ta : TA) : TI := fun σ H R => ta σ H fun vs H1 => ∃ a xs, vs = [.ref a] ∧ SqT K H1 a xs ∧ R (Iet K a) H1
theorem pi_enumT {X : Cx} {e : Expr} {ta : TA} {p pos tpos : Pos} {elts : List Expr} {kk : Nat} (hg : Gl X "enumerate") (hm : X.mg "enumerate" = none) (ha : PA X [e] ta) (hs : starEach [e] X.env = [(false, eval e X.env)] := by rfl) :
    PI X (.Tuple elts kk tpos) (.Call (.Name "enumerate" p) [e] [] pos) (iEnumT X.K ta) := by
  refine ⟨fun pins s σ H R I h => ?_⟩
  refine Call_ (ld_blt I hg hm boot_enumerate (PyProof.Rows.callWith_type1 (thn (ha.run pos pins s σ H _ I h) fun us s1 y => ?_) hs rfl))
  obtain ⟨vs, H1, I1, r1, a, xs, rfl, hq, q⟩ := y
  cases r1 with
  | cons r rr =>
    cases rr
    cases r
    obtain ⟨its, rv, isT, hz⟩ := I1.tuple hq
    have lt : a < s1.heap.objs.size := by
      obtain ⟨o, ho, _⟩ := isT
      exact Heap.lt_size ho
    refine ShE.call_enumT isT fun h' he hit hsz hk => wpAny_pyIter_enum he ?_
    have I2 : Inv X pins σ H1 { s1 with heap := h' } := I1.kept (t' := s1.toks) hk
    refine ⟨s1.heap.objs.size + 1, [s1.heap.objs.size + 1, s1.heap.objs.size], _, _, H1, rfl, I2, turn_enumT a (s1.heap.objs.size + 1) s1.heap.objs.size,
      ⟨⟨.none, he⟩, hit, Nat.succ_ne_self _, Nat.ne_of_lt lt, Nat.ne_of_lt (Nat.lt_succ_of_lt lt)⟩, fun b hb => ?_, q⟩
    have le : s1.heap.objs.size ≤ b := by
      have two : b = s1.heap.objs.size + 1 ∨ b = s1.heap.objs.size := by simpa using hb
      rcases two with z | z
      · rw [z]
        exact Nat.le_succ _
      · rw [z]
        exact Nat.le_refl _
    exact I1.fpOk le (I1.hok.fresh le)
end Sho

set_option Elab.async false
set_option linter.all false
set_option maxRecDepth 100000
set_option maxHeartbeats 2000000
namespace Sh1
open PySem L2 Sho NdefX
/-! ### stays as data -/
abbrev StaysV (H : Hp) (vs : List V) (xs : List Stay) : Prop := PySem.Paired (StayV H) vs xs
theorem StayV.same {H H' : Hp} {v : V} {x : Stay} (s : Same H H') (h : StayV H v x) : StayV H' v x := by
  obtain ⟨t, e, ht⟩ := h
  exact ⟨t, e, s _ _ ht⟩
theorem StaysV.same {H H' : Hp} (s : Same H H') : ∀ {vs : List V} {xs : List Stay}, StaysV H vs xs → StaysV H' vs xs
  | _, _, .nil => .nil
  | _, _, .cons h r => .cons (h.same s) (StaysV.same s r)
theorem pair_len {α β : Type} {R : α → β → Prop} : ∀ {as : List α} {bs : List β}, PySem.Paired R as bs → as.length = bs.length
  | _, _, .nil => rfl
  | _, _, .cons _ r => congrArg Nat.succ (pair_len r)
theorem pair_get {α β : Type} {R : α → β → Prop} : ∀ {as : List α} {bs : List β} {i : Nat} {a : α}, PySem.Paired R as bs → as[i]? = some a → ∃ b, bs[i]? = some b ∧ R a b
  | _, _, i, a, .nil, h => by simp at h
  | _, _, 0, a, .cons h r, e => by
    simp at e
    subst e
    exact ⟨_, rfl, h⟩
  | _, _, i + 1, a, .cons h r, e => by
    simp at e
    obtain ⟨b, e2, r2⟩ := pair_get r e
    exact ⟨b, by simpa using e2, r2⟩
theorem log_small {i : Nat} (h : i ≤ sizeLine) : ((i : Int)).natAbs.log2 < 1920 := by
  rw [Int.natAbs_natCast]
  rw [sizeLine_eq] at h
  by_cases z : i = 0
  · rw [z]
    decide
  · refine (Nat.log2_lt z).mpr (Nat.lt_of_le_of_lt h ?_)
    exact Nat.lt_of_lt_of_le (show 16777216 < 2 ^ 25 by decide) (Nat.pow_le_pow_right (by decide) (by decide))
/-! ### tests whose answers are known -/
theorem ans_or {A B : TT} {σ : L2.St} {H : Hp} {Q : Bool → Hp → Prop} (a b : Bool) (hA : ∀ R : Bool → Hp → Prop, (∀ H', Same H H' → R a H') → A σ H R)
    (hB : ∀ H1, Same H H1 → a = false → ∀ R : Bool → Hp → Prop, (∀ H', Same H1 H' → R b H') → B σ H1 R) (hQ : ∀ H', Same H H' → Q (a || b) H') : tOr A B σ H Q := by
  refine hA _ fun H1 s1 => ?_
  cases a with
  | true =>
    refine iteT ?_
    have := hQ H1 s1
    rw [Bool.true_or] at this
    exact this
  | false =>
    refine iteF (hB H1 s1 rfl _ fun H2 s2 => ?_)
    have := hQ H2 (s1.trans s2)
    rw [Bool.false_or] at this
    exact this
/-! ### the first invalid stay -/
def badStay (i : Nat) (seen : List Str) (x : Stay) : Bool := decide ((i : Int) = 24) || (seen.any (fun y => y == x.1) || !okStay x.1 x.2.1 x.2.2)
def firstBadFrom : Nat → List Str → List Stay → Option Nat
  | _, _, [] => none
  | i, seen, x :: r => if badStay i seen x = true then some i else firstBadFrom (i + 1) (seen ++ [x.1]) r
def firstBad (xs : List Stay) : Option Nat := firstBadFrom 0 [] xs
theorem inV_strs (z : Str) (l : List Str) : inV (.str z) (l.map V.str) = l.any (fun y => y == z) := by
  unfold inV
  rw [List.any_map]
  rfl
theorem flat_strs (l : List Str) : (l.map V.str).all flatV = true := by
  rw [List.all_map]
  exact List.all_eq_true.mpr fun _ _ => rfl
section
variable {P : Program} {w : World} {K : PySem.W.Frag} {mg : Str → Option Value} {base : Heap}
/-- names of a reasonable length -/
def Short (xs : List Stay) : Prop := ∀ x ∈ xs, x.1.length ≤ 100000 ∧ x.1.cps.all (· < 0x110000) = true
def spCheck (CI : Addr) : Sp := fun vs H Q E => ∃ (a : Addr) (ws : List V) (xs : List Stay), vs = [.ref a, .int 24] ∧ H a = some (.tup ws) ∧ StaysV H ws xs ∧ Short xs ∧ xs.length ≤ sizeLine ∧
  (firstBad xs = none → ∀ H', Same H H' → Q .non H') ∧
  ∀ i, firstBad xs = some i → ∀ (H' : Hp) (d : Addr), Same H H' → H d = none → H' d = some (.xd [(("index" : Str), .int (i : Nat))]) → E (.ref CI) (some d) H'
theorem scCheck : FnScope ["stays", "most", "names", "index", "name", "come", "go"] ["stays", "most"] (defScope sCheck) := ⟨rfl, rfl, rfl, by decide +kernel, rfl, by decide +kernel, by decide +kernel⟩
theorem ok_check {f fS CI : Addr} {fd fdS : FuncData} (F : Fun K "_check_stays" "_check_stays" sCheck f fd) (B : Blt mg) (EC : ErrC P K mg "InvalidStay" "index" nfInv CI)
    (GS : FnOk P w K mg base CX0 3 fS fdS ["name", "come", "go"] spIsStay) (mS : mg "is_stay" = some (.ref fS)) (kS : PySem.W.keepIn K (.ref fS) = true) (bS : Binds K fdS ["name", "come", "go"] []) :
    FnOk P w K mg base (L2.CX P w) 4 f fd ["stays", "most"] (spCheck CI) := by
  refine F.okX scCheck (fun vs H Q E h => ?_) (fun cdv A outer s H vs Q E hr h => ?_)
  · obtain ⟨a, ws, xs, rfl, _⟩ := h
    rfl
  · obtain ⟨a, ws, xs, rfl, ha, hxs, hsh, hz, kOk, kBad⟩ := h
    have nd := scCheck.nd
    refine ⟨_, pss_cons (ps_set (i := 2) nd rfl (Or.inl rfl) (pe_lst pa_nil)) (pss_one (ps_for (passes_of rfl) rfl (pi_enumT (by rfl) B.enum (pa_cons (pv 0) pa_nil))
      (pg_tup rfl (pgs_cons (pg_name (i := 3) nd rfl (Or.inl rfl)) (pgs_cons (pg_tup rfl (pgs_cons (pg_name (i := 4) nd rfl (Or.inl rfl)) (pgs_cons (pg_name (i := 5) nd rfl (Or.inl rfl)) (pgs_cons (pg_name (i := 6) nd rfl (Or.inl rfl)) pgs_nil)))) pgs_nil)))
      (pss_cons (ps_if (PW.pt (pw_or (pt_cmpR op_eq (pv 3) (pv 1) (nomark _)) (pw_or (pt_cmpR op_in_seq (pv 4) (pv 2) rfl) (pw_or1 (pt_not (pt_val (pe_call GS hr rfl mS kS bS .nil pass0 (pa_cons (pv 4) (pa_cons (pv 5) (pa_cons (pv 6) pa_nil))))))))))
          (pss_one (ps_raise rfl (takes_of rfl rfl rfl rfl) (pmk_inv (k := 0) EC (hr.mono (by decide)) passL (by rfl) (pk_cons (pv 3) pk_nil) rfl rfl rfl))) pss_nil)
        (pss_one (ps_expr (pe_bm PySem.F.plainAttrs_list PySem.F.slot_list_append PySem.F.type_list_append mt_append (pv 2) (pa_cons (pv 4) pa_nil))))))), ?_⟩
    refine ⟨Nat.zero_le _, fun L hL => ?_⟩
    have s1 : Same H (upd H L (.lst [])) := fun b o e => by rw [upd_ne (ne_of_none e hL)]; exact e
    refine ⟨_, rfl, a, ws, rfl, SqT.of (s1 _ _ ha), for_it walk_enumT (fun i σ H2 => ∃ o3 o4 o5 o6, σ = [some (.ref a), some (.int 24), some (.ref L), o3, o4, o5, o6] ∧ Same H H2 ∧
      H2 L = some (.lst ((xs.take i).map fun x => .str x.1)) ∧ firstBadFrom i ((xs.take i).map fun x => x.1) (xs.drop i) = firstBad xs)
      ⟨none, none, none, none, rfl, s1, upd_same, rfl⟩ (fun i σ H2 _ ⟨_, _, _, _, _, s2, _⟩ => SqT.of (s2 _ _ ha)) ?_ ?_⟩
    · rintro i y σ H2 H3 hi ⟨o3, o4, o5, o6, rfl, s2, hL2, hb⟩ ⟨T, y1, y2, rfl, hT, rfl, e1, e2⟩
      cases e1
      obtain ⟨x, hx, t, rfl, ht⟩ := pair_get hxs e2
      have s3 : Same H2 (upd H2 T (.tup [.int (i : Nat), .ref t])) := fun b o e => by rw [upd_ne (ne_of_none e hT)]; exact e
      have hx1 : x.1.length ≤ 100000 := (hsh x (List.mem_of_getElem? hx)).1
      refine ⟨T, _, rfl, SqT.of upd_same, rfl, _, _, rfl, _, _, rfl, t, _, rfl, SqT.of (s3 _ _ (s2 _ _ ht)), rfl, _, _, rfl, _, _, rfl, _, _, rfl, rfl, rfl, ?_⟩
      have hL3 := s3 _ _ hL2
      refine ans_or (decide ((i : Int) = 24)) (((xs.take i).map fun x => x.1).any (fun y => y == x.1) || !okStay x.1 x.2.1 x.2.2) (fun R h => ⟨_, rfl, _, rfl, rfl, _, rfl, ?_⟩) (fun H4 s4 _ R h => ?_) fun H4 s4 => ?_
      · have e : decide (V.int (i : Int) = V.int 24) = decide ((i : Int) = 24) := by
          rw [dec_int]
          rfl
        rw [e]
        exact h _ (Same.refl _)
      · refine ans_or _ _ (fun R h => ⟨_, rfl, _, rfl, L, _, rfl, .inl (SqL.of (s4 _ _ hL3)), rfl, ?_, _, rfl, ?_⟩) (fun H5 s5 _ R h => ⟨_, rfl, _, rfl, _, rfl, x.1, x.2.1, x.2.2, rfl, Nat.le_trans hx1 (by decide), fun H6 s6 => ⟨_, rfl, h _ s6⟩⟩) h
        · have e : (xs.take i).map (fun x => V.str x.1) = ((xs.take i).map fun x => x.1).map V.str := by
            rw [List.map_map]
            rfl
          rw [e]
          exact flat_strs _
        · have e : (xs.take i).map (fun x => V.str x.1) = ((xs.take i).map fun x => x.1).map V.str := by
            rw [List.map_map]
            rfl
          rw [e, if_neg Bool.false_ne_true, inV_strs]
          exact h _ (Same.refl _)
      · have hdrop : xs.drop i = x :: xs.drop (i + 1) := by
          have lt := (List.getElem?_eq_some_iff.mp hx)
          obtain ⟨lt, e⟩ := lt
          rw [List.drop_eq_getElem_cons lt, e]
        rw [hdrop] at hb
        unfold firstBadFrom at hb
        have s24 : Same H H4 := (s2.trans s3).trans s4
        by_cases hbad : badStay i ((xs.take i).map fun x => x.1) x = true
        · rw [if_pos hbad] at hb
          have e : (decide ((i : Int) = 24) || (((xs.take i).map fun x => x.1).any (fun y => y == x.1) || !okStay x.1 x.2.1 x.2.2)) = true := hbad
          rw [e]
          refine iteT ⟨_, rfl, _, rfl, .inr ⟨_, rfl, ?_⟩, fun d hd => ?_⟩
          · have lt : i < xs.length := (List.getElem?_eq_some_iff.mp hx).1
            exact log_small (Nat.le_trans (Nat.le_of_lt lt) hz)
          · refine kBad i hb.symm _ d (fun b o z => ?_) (s24.free hd) upd_same
            rw [upd_ne (ne_of_none (s24 _ _ z) hd)]
            exact s24 _ _ z
        · rw [if_neg hbad] at hb
          have e : (decide ((i : Int) = 24) || (((xs.take i).map fun x => x.1).any (fun y => y == x.1) || !okStay x.1 x.2.1 x.2.2)) = false := Bool.eq_false_iff.mpr hbad
          rw [e]
          have hL4 := s4 _ _ hL3
          refine iteF ⟨_, rfl, .inl ⟨rfl, _, SqL.of hL4⟩, _, rfl, L, _, _, rfl, rfl, hL4, ?_, ?_⟩
          · rw [List.length_map, List.length_take]
            have : i < ws.length := hi
            have := pair_len hxs
            omega
          · have take1 : xs.take (i + 1) = xs.take i ++ [x] := by rw [List.take_add_one, hx]; rfl
            refine ⟨_, _, _, _, rfl, fun b o z => ?_, ?_, ?_⟩
            · rw [upd_ne (ne_of_none z hL)]
              exact s24 _ _ z
            · rw [upd_same, take1, List.map_append]
              rfl
            · rw [take1, List.map_append]
              exact hb
    · rintro σ H2 ⟨o3, o4, o5, o6, rfl, s2, hL2, hb⟩
      refine kOk ?_ _ s2
      rw [← hb, pair_len hxs, List.drop_length]
      rfl
end
end Sh1
set_option Elab.async false
set_option linter.all false
set_option maxRecDepth 100000
set_option maxHeartbeats 2000000
namespace Sh1
open PySem L2 Sho NdefX
/-- a Party of the stays xs stands at p -/
def PartyAt (C : Addr) (H : Hp) (p : Addr) (xs : List Stay) : Prop := ∃ dx a ws, H p = some (.ins C dx [(("_stays" : Str), .ref a)]) ∧ H a = some (.tup ws) ∧ StaysV H ws xs
theorem PartyAt.same {C : Addr} {H H' : Hp} {p : Addr} {xs : List Stay} (s : Same H H') (h : PartyAt C H p xs) : PartyAt C H' p xs := by
  obtain ⟨dx, a, ws, h1, h2, h3⟩ := h
  exact ⟨dx, a, ws, s _ _ h1, s _ _ h2, h3.same s⟩
theorem lk_stays (a : V) : List.lookup ("_stays" : Str) [(("_stays" : Str), a)] = some a := by simp [List.lookup]
theorem no_max (a : V) : List.lookup ("MAX_GUESTS" : Str) [(("_stays" : Str), a)] = none := by
  have e : (("MAX_GUESTS" : Str) == ("_stays" : Str)) = false := by decide +kernel
  simp [List.lookup, e]
/-- what the written part says of the class -/
structure PartyC (K : PySem.W.Frag) (mg : Str → Option Value) (C : Addr) : Prop where
  gm : mg "Party" = some (.ref C)
  cl : Cls K C
  nS : NoAttr K C "_stays"
  max : ∃ t, Con K C "MAX_GUESTS" (.int 24) (.int 24 t)
  ca : PySem.W.findIn K (.ref C) "__class__" = some (some (.builtin "object.__class__"))
  cn : PySem.W.specialIn K (.builtin "object.__class__") "__get__" = some (some (.builtin "getset_descriptor.__get__"))
  ct : PySem.W.takesIn K (.builtin "object.__class__") = some true
  mo : PySem.W.mroIn K C (.type "object") = some true
  kS : PySem.W.kitOne K (.ref C) (.ref C) = some true
  kT : PySem.W.kitOne K (.type "tuple") (.ref C) = some false
  sT : PySem.W.subIn K (.type "tuple") (.ref C) = some false
section
variable {P : Program} {w : World} {K : PySem.W.Frag} {mg : Str → Option Value} {base : Heap}
/-! ### Party.__init__ -/
def spPInit (C CI : Addr) : Sp := fun vs H Q E => ∃ (x dx a : Addr) (ws : List V) (xs : List Stay), vs = [.ref x, .ref a] ∧ H x = some (.ins C dx []) ∧ H a = some (.tup ws) ∧ StaysV H ws xs ∧ Short xs ∧ xs.length ≤ sizeLine ∧
  (firstBad xs = none → ∀ H', H' x = some (.ins C dx [(("_stays" : Str), .ref a)]) → (∀ b o, H b = some o → b ≠ x → H' b = some o) → Q .non H') ∧
  ∀ i, firstBad xs = some i → ∀ (H' : Hp) (d : Addr), Same H H' → H d = none → H' d = some (.xd [(("index" : Str), .int (i : Nat))]) → E (.ref CI) (some d) H'
theorem scPInit : FnScope ["self", "stays"] ["self", "stays"] (defScope sPInit) := ⟨rfl, rfl, rfl, by decide +kernel, rfl, by decide +kernel, by decide +kernel⟩
/-- a def of the class with a star parameter -/
structure FunS (K : PySem.W.Frag) (x qual : Str) (st : Stmt) (f : Addr) : Prop where
  ex : ∃ (oc : Value) (od : Option Addr) (doc pm : Value) (an : Option Addr) (cdv ct : Value) (osl : Array (Option Value)),
    K.lookup f = some ⟨oc, od, .func (PySem.W.fnOf x qual (defArgs st) (defBody st) (defScope st) .none .none doc pm an cdv ct), osl⟩ ∧ PySem.W.codeIn K cdv qual = true
theorem ok_pinit {f C CI fC : Addr} {fdC : FuncData} (F : FunS K "__init__" "Party.__init__" sPInit f) (PC : PartyC K mg C)
    (GC : FnOk P w K mg base (L2.CX P w) 4 fC fdC ["stays", "most"] (spCheck CI)) (mC : mg "_check_stays" = some (.ref fC)) (kC : PySem.W.keepIn K (.ref fC) = true) (bC : Binds K fdC ["stays", "most"] []) :
    FnR P w K mg base (L2.CX P w) 5 f (fun vs H Q E => ∃ ws rest, vs = ws ++ rest ∧ ws.length = (["self"] : List Str).length ∧ rest.length ≤ sizeLine ∧ ∀ p, H p = none → spPInit C CI (ws ++ [V.ref p]) (upd H p (.tup rest)) Q E) := by
  obtain ⟨oc, od, doc, pm, an, cdv, ct, osl, lk, hcd⟩ := F.ex
  refine StX.fn_star (ps := ["self"]) (pv := "stays") lk hcd scPInit StX.cxUp (StX.bind_star1 (B := fun us => bindArgs (PySem.W.fnOf "__init__" "Party.__init__" (defArgs sPInit) (defBody sPInit) (defScope sPInit) .none .none doc pm an cdv ct) ⟨us, []⟩) (p1 := "self") (pv := "stays") (fun a => rfl) fun a r rs => rfl) fun A outer s H vs Q E hr h => ?_
  obtain ⟨x, dx, a, ws, xs, rfl, hx, ha, hxs, hsh, hz, kOk, kBad⟩ := h
  obtain ⟨t24, c24⟩ := PC.max
  refine ⟨_, pss_cons (ps_expr (pe_call GC hr rfl mC kC bC .nil (passes_call (takes_of rfl rfl rfl rfl) fun _ _ _ _ z => z) (pa_cons (pv 1) (pa_cons (pe_con (pv 0) rfl) pa_nil)))) (pss_one (ps_fld (pv 0) (pv 1) rfl)), ?_⟩
  refine ⟨_, rfl, _, rfl, x, C, dx, [], .int 24, _, rfl, hx, PC.cl, c24, rfl, a, ws, xs, rfl, ha, hxs, hsh, hz, fun ok H' s' => ?_, kBad⟩
  refine ⟨_, rfl, _, rfl, x, C, dx, [], rfl, s' _ _ hx, PC.cl, PC.nS, by decide, ?_⟩
  exact kOk ok _ upd_same fun b o e hb => by rw [upd_ne hb]; exact s' _ _ e
abbrev spPNew (C CI : Addr) : Sp := fun vs H Q E => ∃ ws rest, vs = ws ++ rest ∧ ws.length = (["self"] : List Str).length ∧ rest.length ≤ sizeLine ∧ ∀ p, H p = none → spPInit C CI (ws ++ [V.ref p]) (upd H p (.tup rest)) Q E
/-- a new Party of these stays, or the error of the first invalid one -/
theorem party_new {C CI : Addr} {H : Hp} {Q : VK} {E : XK} {ys : List V} {xs : List Stay} (hxs : StaysV H ys xs) (hsh : Short xs) (hz : ys.length ≤ sizeLine)
    (ok : firstBad xs = none → ∀ (p : Addr) (H' : Hp), Same H H' → H p = none → PartyAt C H' p xs → Q (.ref p) H')
    (bad : ∀ i, firstBad xs = some i → ∀ (H' : Hp) (d : Addr), Same H H' → H d = none → H' d = some (.xd [(("index" : Str), .int (i : Nat))]) → E (.ref CI) (some d) H') :
    ∀ x dx, H x = none → H dx = none → dx ≠ x → spPNew C CI (V.ref x :: ys) (upd (upd H dx (.own x)) x (.ins C dx [])) (fun v H2 => v = .non ∧ Q (.ref x) H2) E := by
  intro x dx hx hdx ne
  refine ⟨[.ref x], ys, rfl, rfl, hz, fun p hp => ?_⟩
  have px : p ≠ x := fun z => by
    rw [z, upd_same] at hp
    cases hp
  have hp0 : H p = none := by
    rw [upd_ne px] at hp
    by_cases pd : p = dx
    · rw [pd]
      exact hdx
    · rw [upd_ne pd] at hp
      exact hp
  have pd : p ≠ dx := fun z => by
    rw [upd_ne px, z, upd_same] at hp
    cases hp
  have same : Same H (upd (upd (upd H dx (.own x)) x (.ins C dx [])) p (.tup ys)) := fun b o e => by
    rw [upd_ne (ne_of_none e hp0), upd_ne (ne_of_none e hx), upd_ne (ne_of_none e hdx)]
    exact e
  refine ⟨x, dx, p, ys, xs, rfl, by rw [upd_ne (Ne.symm px), upd_same], upd_same, hxs.same same, hsh, by rw [← pair_len hxs]; exact hz, fun h0 H' h1 h2 => ⟨rfl, ?_⟩, fun i hi H' d s' hd e => ?_⟩
  · have s2 : Same H H' := fun b o e => h2 b o (same b o e) (ne_of_none e hx)
    exact ok h0 x H' s2 hx ⟨dx, p, ys, h1, h2 _ _ upd_same px, hxs.same s2⟩
  · exact bad i hi H' d (same.trans s') (same.free hd) e
/-! ### the properties -/
theorem scPStays : FnScope ["self"] ["self"] (defScope sPStays) := ⟨rfl, rfl, rfl, by decide +kernel, rfl, by decide +kernel, by decide +kernel⟩
theorem ok_pstays {f C : Addr} {fd : FuncData} (F : Fun K "stays" "Party.stays" sPStays f fd) (PC : PartyC K mg C) : FnOk P w K mg base CX0 1 f fd ["self"] (getSp C "_stays") := by
  refine F.ok scPStays (fun vs H Q E h => ?_) (fun cdv A outer s H vs Q E hr h => ?_)
  · obtain ⟨a, dx, fs, v, rfl, _⟩ := h
    rfl
  · obtain ⟨a, dx, fs, v, rfl, h1, h2, k⟩ := h
    refine ⟨_, pss_one (ps_ret (pe_fld (pv 0) rfl)), _, rfl, a, C, dx, fs, v, rfl, h1, PC.cl, PC.nS, h2, k⟩
def spPNames (C : Addr) : Sp := fun vs H Q _ => ∃ (p : Addr) (xs : List Stay), vs = [.ref p] ∧ PartyAt C H p xs ∧ xs.length ≤ sizeLine ∧ ∀ H' t, Same H H' → H t = none → H' t = some (.tup (xs.map fun x => .str x.1)) → Q (.ref t) H'
theorem scPNames : FnScope ["self", "name", "come", "go"] ["self"] (defScope sPNames) := ⟨rfl, rfl, rfl, by decide +kernel, rfl, by decide +kernel, by decide +kernel⟩
theorem ok_pnames {f C : Addr} {fd : FuncData} (F : Fun K "names" "Party.names" sPNames f fd) (B : Blt mg) (PC : PartyC K mg C) : FnOk P w K mg base CX0 1 f fd ["self"] (spPNames C) := by
  refine F.ok scPNames (fun vs H Q E h => ?_) (fun cdv A outer s H vs Q E hr h => ?_)
  · obtain ⟨p, xs, rfl, _⟩ := h
    rfl
  · obtain ⟨p, xs, rfl, ⟨dx, a, ws, h1, h2, h3⟩, hz, k⟩ := h
    have nd := scPNames.nd
    refine ⟨_, pss_one (ps_ret (pe_callTy call_tuple_of (by rfl) B.tuple (by decide +kernel) (pa_cons (pe_lc (own := [("name", 1), ("come", 2), ("go", 3)]) (g := gTup K 3 (gCons (gName 1) (gCons (gName 2) (gCons (gName 3) gNil)))) (tt := tYes) rfl nd
      (pi_tup (pe_fld (pv 0) rfl)) (blkOk_by (own := [("name", 1), ("come", 2), ("go", 3)]) (N := ["self", "name", "come", "go"]) (sc := defScope sPNames) (by decide +kernel))
      (fun _ _ _ _ _ => pg_tup rfl (pgs_cons (pg_name (i := 1) nd rfl (Or.inl rfl)) (pgs_cons (pg_name (i := 2) nd rfl (Or.inl rfl)) (pgs_cons (pg_name (i := 3) nd rfl (Or.inl rfl)) pgs_nil))))
      (fun _ _ _ _ _ => pts_nil) (fun _ _ _ _ _ => pv 1)) pa_nil))), ?_⟩
    refine ⟨_, rfl, p, C, dx, _, .ref a, rfl, h1, PC.cl, PC.nS, lk_stays _, a, rfl, ⟨_, SqT.of h2⟩, fun D hD => ?_⟩
    refine lc_map walk_tup (fun i => (xs[i]?).map fun x => .str x.1) hD (by rw [pair_len h3]; exact hz) (fun H1 s1 => SqT.of (s1 _ _ h2)) (fun i x H1 H' hi s1 y R k1 => ?_) (fun i hi => ⟨_, by rw [List.getElem?_eq_getElem (by rw [← pair_len h3]; exact hi)]; rfl⟩) fun H1 s1 e1 => ?_
    · obtain ⟨rfl, e2⟩ := y
      obtain ⟨z, hz2, t, rfl, ht⟩ := pair_get h3 e2
      refine ⟨t, _, rfl, SqT.of (s1 _ _ ht), rfl, _, _, rfl, _, _, rfl, _, _, rfl, rfl, rfl, _, rfl, ?_⟩
      exact k1 _ _ (Same.refl _) (by rw [hz2]; rfl)
    · rw [pair_len h3, gather_map xs fun x => V.str x.1] at e1
      refine ⟨D, _, rfl, .inl ⟨SqL.of e1, fun l hl => ?_⟩⟩
      refine k _ l (fun b o e => ?_) (s1.free hl) upd_same
      rw [upd_ne (ne_of_none (s1 _ _ e) hl)]
      exact s1 _ _ e
end
end Sh1
set_option Elab.async false
set_option linter.all false
set_option maxRecDepth 100000
set_option maxHeartbeats 2000000
/-! Small words that every law's text uses. -/
namespace Shg
open PySem L2 Sho
theorem pair_len {α β : Type} {R : α → β → Prop} : ∀ {as : List α} {bs : List β}, PySem.Paired R as bs → as.length = bs.length
  | _, _, .nil => rfl
  | _, _, .cons _ r => congrArg Nat.succ (pair_len r)
theorem pair_get {α β : Type} {R : α → β → Prop} : ∀ {as : List α} {bs : List β} {i : Nat} {a : α}, PySem.Paired R as bs → as[i]? = some a → ∃ b, bs[i]? = some b ∧ R a b
  | _, _, i, a, .nil, h => by simp at h
  | _, _, 0, a, .cons h r, e => by
    simp at e
    subst e
    exact ⟨_, rfl, h⟩
  | _, _, i + 1, a, .cons h r, e => by
    simp at e
    obtain ⟨b, e2, r2⟩ := pair_get r e
    exact ⟨b, by simpa using e2, r2⟩
theorem pair_mono {α β : Type} {R S : α → β → Prop} (k : ∀ a b, R a b → S a b) : ∀ {as : List α} {bs : List β}, PySem.Paired R as bs → PySem.Paired S as bs
  | _, _, .nil => .nil
  | _, _, .cons h r => .cons (k _ _ h) (pair_mono k r)
theorem pair_app {α β : Type} {R : α → β → Prop} : ∀ {as : List α} {bs : List β} {cs : List α} {ds : List β}, PySem.Paired R as bs → PySem.Paired R cs ds → PySem.Paired R (as ++ cs) (bs ++ ds)
  | _, _, _, _, .nil, k => k
  | _, _, _, _, .cons h r, k => .cons h (pair_app r k)
theorem same_upd {p : Addr} {H : Hp} {o : HO} (hp : H p = none) : Same H (upd H p o) := fun b u e => by rw [upd_ne (ne_of_none e hp)]; exact e
theorem asg_seq {te : TE} {g : TG} {u : TS} {D : Ends} {σ : L2.St} {H : Hp} (h : te σ H fun x H1 => g x σ H1 (u D)) : tSeq (tAsg te g) u D σ H := h
theorem asg_one {te : TE} {g : TG} {D : Ends} {σ : L2.St} {H : Hp} (h : te σ H fun x H1 => g x σ H1 D.nx) : tAsg te g D σ H := h
theorem cons_of {te : TE} {ta : L2.TA} {σ : L2.St} {H : Hp} {Q : List V → Hp → Prop} (h : te σ H fun v H1 => ta σ H1 fun vs H2 => Q (v :: vs) H2) : tCons te ta σ H Q := h
theorem name_of {i : Nat} {v : V} {σ : L2.St} {H : Hp} {N : L2.St → Hp → Prop} {r : VK} {b c : L2.St → Hp → Prop} (h : N (σ.set i (some v)) H) : gName i v σ H (L2.Ends.nx { nx := N, rt := r, bk := b, ct := c }) := h
theorem name_at {i : Nat} {v : V} {σ : L2.St} {H : Hp} {N : L2.St → Hp → Prop} (h : N (σ.set i (some v)) H) : gName i v σ H N := h
theorem lst_of {t : L2.TA} {σ : L2.St} {H : Hp} {Q : VK} (h : t σ H fun xs H1 => xs.length ≤ sizeLine ∧ ∀ p, H1 p = none → Q (.ref p) (upd H1 p (.lst xs))) : tLst t σ H Q := h
theorem nx_of {N : L2.St → Hp → Prop} {r : VK} {b c : L2.St → Hp → Prop} {σ : L2.St} {H : Hp} (h : N σ H) : L2.Ends.nx { nx := N, rt := r, bk := b, ct := c } σ H := h
theorem asg_val {te : TE} {g : TG} {u : TS} {D : Ends} {σ : L2.St} {H : Hp} (v : V) (h1 : ∀ R : VK, (∀ H', Same H H' → R v H') → te σ H R) (h2 : ∀ H', Same H H' → g v σ H' (u D)) : tSeq (tAsg te g) u D σ H := h1 _ h2
theorem asg_rel {te : TE} {g : TG} {u : TS} {D : Ends} {σ : L2.St} {H : Hp} (P : V → Hp → Prop) (h1 : ∀ R : VK, (∀ v H', P v H' → R v H') → te σ H R) (h2 : ∀ v H', P v H' → g v σ H' (u D)) : tSeq (tAsg te g) u D σ H := h1 _ h2
theorem if_rel {c : TT} {A u : TS} {D : Ends} {σ : L2.St} {H : Hp} (P : Hp → Prop) (h1 : ∀ R : Bool → Hp → Prop, (∀ H', P H' → R false H') → c σ H R) (h2 : ∀ H', P H' → u D σ H') : tSeq (tIfS c A tNext) u D σ H :=
  h1 _ fun H' p => iteF (h2 H' p)
theorem if_rel1 {c : TT} {A : TS} {D : Ends} {σ : L2.St} {H : Hp} (P : Hp → Prop) (h1 : ∀ R : Bool → Hp → Prop, (∀ H', P H' → R false H') → c σ H R) (h2 : ∀ H', P H' → D.nx σ H') : tIfS c A tNext D σ H :=
  h1 _ fun H' p => iteF (h2 H' p)
theorem ok_no {P : Program} {w : World} {K : PySem.W.Frag} {mg : Str → Option Value} {base : Heap} {CX : CXT} {k : Nat} {f : Addr} {fd : FuncData} {ps : List Str} : FnOk P w K mg base CX k f fd ps (fun _ _ _ _ => False) :=
  ⟨fun _ _ _ _ h => h.elim, fun _ _ _ _ _ _ _ _ _ _ _ _ _ h => h.elim⟩
theorem free_by {sn os : List (Str × NameKind)} (h : (sn.all fun y => !decide (y.2 = .free) || (decide (os.lookup y.1 = some .cell) || decide (os.lookup y.1 = some .free))) = true) :
    ∀ y ∈ sn, y.2 = .free → os.lookup y.1 = some .cell ∨ os.lookup y.1 = some .free := fun y hy e => by
  have q := List.all_eq_true.mp h y hy
  rw [decide_eq_true e] at q
  simpa using q
abbrev scL (l : List (Str × NameKind)) : Scope := { kind := .function, names := l, isGenerator := false, isCoroutine := false }
theorem ne_lst {L b : Addr} {H : Hp} {xs : List V} {o : HO} (hL : H L = some (.lst xs)) (e : H b = some o) (n : ∀ ys, o ≠ .lst ys) : b ≠ L := fun z => by
  rw [z, hL] at e
  exact n xs (Option.some.inj e).symm
theorem seq_nat {j n : Nat} (h : j < n) : seqIndex? (j : Int) n = some j := by
  have e0 : (if (j : Int) < 0 then (j : Int) + n else (j : Int)) = (j : Int) := if_neg (by omega)
  show (if (decide (0 ≤ (if (j : Int) < 0 then (j : Int) + n else (j : Int))) && decide ((if (j : Int) < 0 then (j : Int) + n else (j : Int)) < (n : Int))) = true then some (if (j : Int) < 0 then (j : Int) + n else (j : Int)).toNat else none) = some j
  rw [e0]
  have e : (decide (0 ≤ (j : Int)) && decide ((j : Int) < (n : Int))) = true := by simp; omega
  rw [if_pos e]
  simp
theorem ixN_nat {n j : Nat} (hj : j < n) : ixN n (j : Int) = some j := by
  unfold ixN
  rw [if_pos (by omega), if_pos (by omega)]
  simp
theorem gather_filter {α : Type} (xs : List α) (p : α → Bool) (f : α → V) : gather (fun i => (xs[i]?).bind fun x => if p x = true then some (f x) else none) xs.length = (xs.filter p).map f := by
  rw [gather_list]
  induction xs with
  | nil => rfl
  | cons x xs ih =>
    rw [List.filterMap_cons, List.filter_cons]
    cases h : p x with
    | true =>
      simp only [if_true, List.map_cons, ih]
    | false =>
      simp only [Bool.false_eq_true, if_false, ih]
/-- an expression read in one of two ways -/
theorem pe_either {X : Cx} {e : Expr} {t1 t2 : TE} (h1 : PE X e t1) (h2 : PE X e t2) : PE X e (fun σ H Q => t1 σ H Q ∨ t2 σ H Q) :=
  ⟨fun pins s σ H Q I h => h.elim (h1.run pins s σ H Q I) (h2.run pins s σ H Q I)⟩
/-- the builtins that the text calls -/
structure Blt (mg : Str → Option Value) : Prop where
  len : mg "len" = none
  all : mg "all" = none
  isi : mg "isinstance" = none
  bool : mg "bool" = none
  tuple : mg "tuple" = none
  list : mg "list" = none
  range : mg "range" = none
  enum : mg "enumerate" = none
  int : mg "int" = none
  sup : mg "super" = none
  sorted : mg "sorted" = none
  dict : mg "dict" = none
  str : mg "str" = none
  min : mg "min" = none
  max : mg "max" = none
  ve : mg "ValueError" = none
  set : mg "set" = none
  sum : mg "sum" = none
  any : mg "any" = none
/-- all but two objects stay -/
def But2 (l S : Addr) (H H' : Hp) : Prop := ∀ b o, H b = some o → b ≠ l → b ≠ S → H' b = some o
theorem But2.refl {l S : Addr} (H : Hp) : But2 l S H H := fun _ _ e _ _ => e
theorem But2.trans {l S : Addr} {H H1 H2 : Hp} (a : But2 l S H H1) (b : But2 l S H1 H2) : But2 l S H H2 := fun c o e n m => b c o (a c o e n m) n m
theorem But2.of {l S : Addr} {H H' : Hp} (s : Same H H') : But2 l S H H' := fun b o e _ _ => s b o e
theorem But2.upd1 {l S : Addr} {H : Hp} {o : HO} : But2 l S H (upd H l o) := fun b u e nb _ => by rw [upd_ne nb]; exact e
theorem But2.upd2 {l S : Addr} {H : Hp} {o : HO} : But2 l S H (upd H S o) := fun b u e _ nb => by rw [upd_ne nb]; exact e
/-- all but two objects and the tables stay -/
def Keep2 (l S : Addr) (H H' : Hp) : Prop := ∀ b o, H b = some o → b ≠ l → b ≠ S → (∀ ps, o ≠ .tbl ps) → H' b = some o
theorem Keep2.trans {l S : Addr} {H H1 H2 : Hp} (a : Keep2 l S H H1) (b : Keep2 l S H1 H2) : Keep2 l S H H2 := fun c o e n m t => b c o (a c o e n m t) n m t
theorem Keep2.of {l S : Addr} {H H' : Hp} (s : Same H H') : Keep2 l S H H' := fun b o e _ _ _ => s b o e
theorem Keep2.but {l S : Addr} {H H' : Hp} (s : But2 l S H H') : Keep2 l S H H' := fun b o e n m _ => s b o e n m
theorem Keep2.ext {l S : Addr} {H H' : Hp} (s : LamX.ExtN H H') : Keep2 l S H H' := fun b o e _ _ t => s b o e t
/-- a def whose code object is known -/
structure FunL (K : PySem.W.Frag) (x qual : Str) (st : Stmt) (f c : Addr) (fd : FuncData) : Prop where
  ex : ∃ (oc : Value) (od : Option Addr) (kV doc pm : Value) (an : Option Addr) (ct : Value) (osl : Array (Option Value)),
    fd = PySem.W.fnOf x qual (defArgs st) (defBody st) (defScope st) .none kV doc pm an (.ref c) ct ∧ K.lookup f = some ⟨oc, od, .func (PySem.W.fnOf x qual (defArgs st) (defBody st) (defScope st) .none kV doc pm an (.ref c) ct), osl⟩ ∧ PySem.W.codeIn K (.ref c) qual = true
theorem FunL.okX {P : Program} {w : World} {K : PySem.W.Frag} {mg : Str → Option Value} {base : Heap} {x qual : Str} {st : Stmt} {f c : Addr} {fd : FuncData} {N ps : List Str} {k : Nat} {sp : Sp} (F : FunL K x qual st f c fd) (S : FnScope N ps (defScope st)) (len : ∀ vs H Q E, sp vs H Q E → vs.length = ps.length)
    (hbody : ∀ (A : Around) (outer : List Env) (s : Shared) (H : Hp) (vs : List V) (Q : VK) (E : XK), Room k (A.deeper (PyProof.Rows.envOfC qual (defScope st) s.heap.objs.size f (.ref c))) → sp vs H Q E →
      ∃ t, PSs (cxOf (L2.CX P w) P w K mg base N qual (defScope st) f (.ref c) A outer s H E) (defBody st) t ∧ t { nx := fun _ H' => Q .non H', rt := Q } (L2.start N vs) H) : FnOk P w K mg base (L2.CX P w) (k + 1) f fd ps sp := by
  obtain ⟨oc, od, kV, doc, pm, an, ct, osl, rfl, lk, hcd⟩ := F.ex
  exact fn_of lk hcd S len fun A outer s H vs Q E hr hsp => hbody A outer s H vs Q E hr hsp
theorem FunL.ok0 {P : Program} {w : World} {K : PySem.W.Frag} {mg : Str → Option Value} {base : Heap} {x qual : Str} {st : Stmt} {f c : Addr} {fd : FuncData} {N ps : List Str} {k : Nat} {sp : Sp} (F : FunL K x qual st f c fd) (S : FnScope N ps (defScope st)) (len : ∀ vs H Q E, sp vs H Q E → vs.length = ps.length)
    (hbody : ∀ (A : Around) (outer : List Env) (s : Shared) (H : Hp) (vs : List V) (Q : VK) (E : XK), Room k (A.deeper (PyProof.Rows.envOfC qual (defScope st) s.heap.objs.size f (.ref c))) → sp vs H Q E →
      ∃ t, PSs (cxOf CX0 P w K mg base N qual (defScope st) f (.ref c) A outer s H E).nox (defBody st) t ∧ t { nx := fun _ H' => Q .non H', rt := Q } (L2.start N vs) H) : FnOk P w K mg base CX0 (k + 1) f fd ps sp := by
  obtain ⟨oc, od, kV, doc, pm, an, ct, osl, rfl, lk, hcd⟩ := F.ex
  refine fn_of lk hcd S len fun A outer s H vs Q E hr hsp => ?_
  obtain ⟨t, h, q⟩ := hbody A outer s H vs Q E hr hsp
  exact ⟨t, h.nox, q⟩
end Shg
set_option Elab.async false
set_option linter.all false
set_option maxRecDepth 100000
set_option maxHeartbeats 2000000
namespace Sh1
open PySem L2 Sho NdefX He Shh
/-! Facts of the head about Party, InvalidStay, UnknownGuest. -/
section
variable {K : Shh.Fr} {h : Heap} {mg : Str → Option Value}
def cvalB (K : Shh.Fr) (C : Addr) (f : Str) (i : Int) : Bool := match PySem.W.findCls K (.ref C) (.type "type") f with
  | some (.val (.int j _)) => decide (j = i)
  | _ => false
theorem cvalB_ok {C : Addr} {f : Str} {i : Int} (c : cvalB K C f i = true) : ∃ u, ClX.CVal K C (.type "type") f (.int i) u := by
  unfold cvalB at c
  split at c
  · rename_i j t e
    rw [of_decide_eq_true c] at e
    exact ⟨_, e, ⟨_, rfl⟩⟩
  · cases c
def partyB (K : Shh.Fr) (C : Addr) : Bool := PySem.W.plainGet K C Str.empty && (PySem.W.hasDictIn K C && (PySem.W.plainOver K C && (eqO (PySem.W.findIn K (.ref C) "__setattr__") (some (some (.builtin "object.__setattr__"))) &&
  (eqO (PySem.W.findIn K (.ref C) "_stays") (some none) && (conB K "Party" "MAX_GUESTS" (.int 24) && (eqO (PySem.W.findIn K (.ref C) "__class__") (some (some (.builtin "object.__class__"))) &&
  (eqO (PySem.W.specialIn K (.builtin "object.__class__") "__get__") (some (some (.builtin "getset_descriptor.__get__"))) && (decide (PySem.W.takesIn K (.builtin "object.__class__") = some true) && (decide (PySem.W.mroIn K C (.type "object") = some true) &&
  (decide (PySem.W.kitOne K (.ref C) (.ref C) = some true) && (decide (PySem.W.kitOne K (.type "tuple") (.ref C) = some false) && (decide (PySem.W.subIn K (.type "tuple") (.ref C) = some false) && (PySem.W.selfFirst K C && (PySem.W.makesIn K C && (PySem.W.keepIn K (.ref C) &&
  (PySem.W.readsIn K C (.type "type") && (eqO (PySem.W.specialIn K (.ref C) "__getattribute__") (some (some (.builtin "type.__getattribute__"))) && cvalB K C "MAX_GUESTS" 24)))))))))))))))))
structure PartyF (K : Shh.Fr) (mg : Str → Option Value) (C : Addr) : Prop where
  pc : PartyC K mg C
  self : PySem.W.selfFirst K C = true
  makes : PySem.W.makesIn K C = true
  kp : PySem.W.keepIn K (.ref C) = true
  rd : ClX.CRead K C (.type "type")
  mx : ∃ u, ClX.CVal K C (.type "type") "MAX_GUESTS" (.int 24) u
theorem partyB_ok (gm : mg "Party" = some (.ref (ga K "Party"))) (c : partyB K (ga K "Party") = true) : PartyF K mg (ga K "Party") := by
  obtain ⟨c1, c⟩ := ba c
  obtain ⟨c2, c⟩ := ba c
  obtain ⟨c3, c⟩ := ba c
  obtain ⟨c4, c⟩ := ba c
  obtain ⟨c5, c⟩ := ba c
  obtain ⟨c6, c⟩ := ba c
  obtain ⟨c7, c⟩ := ba c
  obtain ⟨c8, c⟩ := ba c
  obtain ⟨c9, c⟩ := ba c
  obtain ⟨c10, c⟩ := ba c
  obtain ⟨c11, c⟩ := ba c
  obtain ⟨c12, c⟩ := ba c
  obtain ⟨c13, c⟩ := ba c
  obtain ⟨c14, c⟩ := ba c
  obtain ⟨c15, c⟩ := ba c
  obtain ⟨c16, c⟩ := ba c
  obtain ⟨c17, c⟩ := ba c
  obtain ⟨c18, c19⟩ := ba c
  have mx : ∃ t, Con K (ga K "Party") "MAX_GUESTS" (.int 24) (.int 24 t) := by
    obtain ⟨u, q⟩ := conB_ok c6 (by decide)
    obtain ⟨t, e⟩ : ∃ t, u = .int 24 t := by
      have r := q.rel
      cases u with
      | int j t =>
        obtain ⟨t', e⟩ := (show ∃ t', Value.int j t = .int 24 t' from r)
        exact ⟨t', e⟩
      | _ =>
        obtain ⟨t', e⟩ := r
        cases e
    rw [e] at q
    exact ⟨t, q⟩
  exact ⟨⟨gm, ⟨c1, c2, c3, eqO_ok c4⟩, eqO_ok c5, mx, eqO_ok c7, eqO_ok c8, of_decide_eq_true c9, of_decide_eq_true c10, of_decide_eq_true c11, of_decide_eq_true c12, of_decide_eq_true c13⟩, c14, c15, c16, ⟨c17, eqO_ok c18⟩, cvalB_ok c19⟩
/-! ### InvalidStay, UnknownGuest -/
abbrev aInv (K : Shh.Fr) : Addr := ga K "InvalidStay"
abbrev aUnk (K : Shh.Fr) : Addr := ga K "UnknownGuest"
abbrev dnErr (x : Str) (qual : Str) (st : Stmt) : Dn := ⟨fun K => eInit K x, "__init__", qual, st, fun K => [(("__class__" : Str), cellA K (eInit K x))]⟩
theorem errC_inv {P : Program} (E : ErrF "/claim/cut.py" K "InvalidStay" "index") (D : FunF K "__init__" "InvalidStay.__init__" sInvInit [(("__class__" : Str), cellA K (eInit K "InvalidStay"))] (eInit K "InvalidStay")) (hf : P.main.file = "/claim/cut.py") (sup : mg "super" = none)
    (h2 : (P.main.scope.names.lookup ("super" : Str)).isSome = false) (gm : mg "InvalidStay" = some (.ref (aInv K))) : ErrC P K mg "InvalidStay" "index" nfInv (aInv K) :=
  ⟨⟨_, _, _, err_txt E D hf sup ⟨_, rfl, rfl⟩ h2 (by decide +kernel) (by decide +kernel) (by decide +kernel), E.ini, E.ity⟩, E.sup, E.xf, E.no, gm, E.exm⟩
theorem errC_unk {P : Program} (E : ErrF "/claim/cut.py" K "UnknownGuest" "name") (D : FunF K "__init__" "UnknownGuest.__init__" sUnkInit [(("__class__" : Str), cellA K (eInit K "UnknownGuest"))] (eInit K "UnknownGuest")) (hf : P.main.file = "/claim/cut.py") (sup : mg "super" = none)
    (h2 : (P.main.scope.names.lookup ("super" : Str)).isSome = false) (gm : mg "UnknownGuest" = some (.ref (aUnk K))) : ErrC P K mg "UnknownGuest" "name" nfUnk (aUnk K) :=
  ⟨⟨_, _, _, err_txt E D hf sup ⟨_, rfl, rfl⟩ h2 (by decide +kernel) (by decide +kernel) (by decide +kernel), E.ini, E.ity⟩, E.sup, E.xf, E.no, gm, E.exm⟩
end
end Sh1
set_option Elab.async false
set_option linter.all false
set_option maxRecDepth 100000
set_option maxHeartbeats 2000000
/-! Facts of the head for laws without the ten errors. -/
namespace Shd
open PySem L2 Sho NdefX He Shh Shg
section
variable {K : Shh.Fr} {h : Heap} {mg : Str → Option Value}
abbrev bltNames : List Str := ["len", "all", "isinstance", "bool", "tuple", "list", "range", "enumerate", "int", "super", "sorted", "dict", "str", "min", "max", "ValueError", "set", "sum", "any"]
theorem blt_ok (X : K.In h) (G : h.Ns mainGlobals mg) (c : freeB K bltNames = true) : Shg.Blt mg := by
  have k : ∀ x, x ∈ bltNames → mg x = none := fun x hx => freeB_ok X G c hx
  exact ⟨k _ (by simp), k _ (by simp), k _ (by simp), k _ (by simp), k _ (by simp), k _ (by simp), k _ (by simp), k _ (by simp), k _ (by simp), k _ (by simp), k _ (by simp), k _ (by simp), k _ (by simp), k _ (by simp), k _ (by simp), k _ (by simp), k _ (by simp), k _ (by simp), k _ (by simp)⟩
end
theorem _root_.Shh.FunF.funL9 {K : Shh.Fr} {x qual : Str} {st : Stmt} {f : Addr} (F : FunF K x qual st [] f) : ∃ fd, Shg.FunL K x qual st f (codeA K f) fd ∧
    (∀ ps : List Str, (∀ (kV doc pm : Value) (an : Option Addr) (cdv ct : Value) (us : List Value), us.length = ps.length → bindArgs (PySem.W.fnOf x qual (defArgs st) (defBody st) (defScope st) .none kV doc pm an cdv ct) ⟨us, []⟩ = pure (ps.zip us)) → Binds K fd ps []) ∧
    ∀ ps : List Str, (∀ (kV doc pm : Value) (an : Option Addr) (cdv ct : Value) (us : List Value), us.length = ps.length → bindArgs (PySem.W.fnOf x qual (defArgs st) (defBody st) (defScope st) .none kV doc pm an cdv ct) ⟨us, []⟩ = pure (ps.zip us)) → ∀ (s : Shared) (us : List Value), us.length = ps.length → BindsTo s fd ⟨us, []⟩ (ps.zip us) := by
  obtain ⟨oc, od, doc, pm, an, ct, osl, lk, hcd⟩ := F.ex
  exact ⟨_, ⟨oc, od, .none, doc, pm, an, ct, osl, rfl, lk, hcd⟩, fun ps h => .all (h .none doc pm an _ ct), fun ps h s us hl => .of_eq (h .none doc pm an _ ct us hl)⟩
abbrev dn (x : Str) (st : Stmt) : Dn := ⟨fun K => ga K x, x, x, st, fun _ => []⟩
def tabA (K : Shh.Fr) (x : Str) : Addr := tabOf K (codeA K (ga K x))
end Shd
set_option Elab.async false
set_option linter.all false
set_option maxRecDepth 100000
set_option maxHeartbeats 2000000
set_option autoImplicit false
/-! Chords that do not cross: the table of quiet_count, numbers only. -/
namespace Qu
/-- the most chords within [f, e) -/
def Mt (G : Nat → Int) : Nat → Nat → Nat → Nat
  | 0, _, _ => 0
  | k + 1, f, e => if e ≤ f then 0 else if (f : Int) < G f ∧ G f < (e : Int) then max (1 + Mt G k (f + 1) (G f).toNat + Mt G k ((G f).toNat + 1) e) (Mt G k (f + 1) e) else Mt G k (f + 1) e
theorem Mt_none (G : Nat → Int) : ∀ (k f e : Nat), e ≤ f → Mt G k f e = 0
  | 0, _, _, _ => rfl
  | k + 1, f, e, h => by
    unfold Mt
    rw [if_pos h]
theorem Mt_fuel (G : Nat → Int) : ∀ (k k' f e : Nat), e - f ≤ k → e - f ≤ k' → Mt G k f e = Mt G k' f e
  | 0, k', f, e, h, _ => by
    rw [Mt_none G k' f e (by omega)]
    rfl
  | k + 1, 0, f, e, _, h => by
    rw [Mt_none G (k + 1) f e (by omega)]
    rfl
  | k + 1, k' + 1, f, e, h1, h2 => by
    unfold Mt
    by_cases he : e ≤ f
    · rw [if_pos he, if_pos he]
    · rw [if_neg he, if_neg he, Mt_fuel G k k' (f + 1) e (by omega) (by omega)]
      by_cases hg : (f : Int) < G f ∧ G f < (e : Int)
      · rw [if_pos hg, if_pos hg, Mt_fuel G k k' (f + 1) (G f).toNat (by omega) (by omega), Mt_fuel G k k' ((G f).toNat + 1) e (by omega) (by omega)]
      · rw [if_neg hg, if_neg hg]
/-- what chords are -/
structure Chords (G : Nat → Int) (N : Nat) : Prop where
  inj : ∀ i j : Nat, i < N → j < N → (i : Int) < G i → (j : Int) < G j → G i = G j → i = j
  term : ∀ i j : Nat, i < N → (i : Int) < G i → (j : Int) = G i → ¬ (j : Int) < G j
structure Apart (G : Nat → Int) (f e : Nat) (S : List Nat) : Prop where
  nd : S.Nodup
  bd : ∀ i ∈ S, f ≤ i ∧ (i : Int) < G i ∧ G i < (e : Int)
  nc : ∀ i ∈ S, ∀ j ∈ S, ¬ (i < j ∧ (j : Int) < G i ∧ G i < G j)
theorem len_split {α : Type} (p : α → Bool) : ∀ l : List α, l.length = (l.filter p).length + (l.filter fun x => !p x).length
  | [] => rfl
  | x :: l => by
    have := len_split p l
    rw [List.filter_cons, List.filter_cons]
    cases p x with
    | true =>
      rw [if_pos rfl, if_neg (by simp), List.length_cons, List.length_cons]
      omega
    | false =>
      rw [if_neg (by simp), if_pos (by simp), List.length_cons, List.length_cons]
      omega
theorem Apart.empty {G : Nat → Int} {f e : Nat} {S : List Nat} (h : Apart G f e S) (he : e ≤ f) : S = [] := by
  cases S with
  | nil => rfl
  | cons i S =>
    have := h.bd i List.mem_cons_self
    omega
theorem upper {G : Nat → Int} {N : Nat} (C : Chords G N) : ∀ (k f e : Nat) (S : List Nat), e - f ≤ k → e ≤ N → Apart G f e S → S.length ≤ Mt G k f e
  | 0, f, e, S, hk, _, h => by
    rw [h.empty (by omega)]
    exact Nat.le_refl _
  | k + 1, f, e, S, hk, hN, h => by
    by_cases he : e ≤ f
    · rw [h.empty he]
      exact Nat.zero_le _
    unfold Mt
    rw [if_neg he]
    by_cases hf : f ∈ S
    · obtain ⟨_, f1, f2⟩ := h.bd f hf
      rw [if_pos ⟨f1, f2⟩]
      refine Nat.le_trans ?_ (Nat.le_max_left _ _)
      have l1 : S.length = (S.erase f).length + 1 := by
        rw [List.length_erase_of_mem hf]
        have := List.length_pos_of_mem hf
        omega
      have mem : ∀ i, i ∈ S.erase f → i ∈ S ∧ i ≠ f := fun i hi => ⟨List.mem_of_mem_erase hi, fun z => by
        subst z
        exact (List.Nodup.not_mem_erase h.nd) hi⟩
      have l2 := len_split (fun i : Nat => decide ((i : Int) < G f)) (S.erase f)
      have u1 := upper C k (f + 1) (G f).toNat ((S.erase f).filter fun i => decide ((i : Int) < G f)) (by omega) (by omega) ⟨(h.nd.erase f).filter _, fun i hi => by
        obtain ⟨h1, h2⟩ := List.mem_filter.mp hi
        obtain ⟨h3, h4⟩ := mem i h1
        have h2 := of_decide_eq_true h2
        obtain ⟨b1, b2, b3⟩ := h.bd i h3
        have n := h.nc f hf i h3
        have : G i ≠ G f := fun z => h4 (C.inj i f (by omega) (by omega) b2 f1 z)
        omega, fun i hi j hj => h.nc i (mem i (List.mem_filter.mp hi).1).1 j (mem j (List.mem_filter.mp hj).1).1⟩
      have u2 := upper C k ((G f).toNat + 1) e ((S.erase f).filter fun i => !decide ((i : Int) < G f)) (by omega) hN ⟨(h.nd.erase f).filter _, fun i hi => by
        obtain ⟨h1, h2⟩ := List.mem_filter.mp hi
        obtain ⟨h3, h4⟩ := mem i h1
        have h2 : ¬ (i : Int) < G f := by
          intro z
          rw [decide_eq_true z] at h2
          cases h2
        obtain ⟨b1, b2, b3⟩ := h.bd i h3
        have : (i : Int) ≠ G f := fun z => C.term f i (by omega) f1 z b2
        omega, fun i hi j hj => h.nc i (mem i (List.mem_filter.mp hi).1).1 j (mem j (List.mem_filter.mp hj).1).1⟩
      omega
    · have u := upper C k (f + 1) e S (by omega) hN ⟨h.nd, fun i hi => by
        obtain ⟨b1, b2, b3⟩ := h.bd i hi
        have : i ≠ f := fun z => hf (z ▸ hi)
        omega, h.nc⟩
      split
      · exact Nat.le_trans u (Nat.le_max_right _ _)
      · exact u
theorem Apart.wide {G : Nat → Int} {f f' e e' : Nat} {S : List Nat} (h : Apart G f e S) (hf : f' ≤ f) (he : e ≤ e') : Apart G f' e' S := ⟨h.nd, fun i hi => by
  have := h.bd i hi
  omega, h.nc⟩
theorem reached {G : Nat → Int} : ∀ (k f e : Nat), ∃ S, Apart G f e S ∧ S.length = Mt G k f e
  | 0, f, e => ⟨[], ⟨List.nodup_nil, fun _ h => (by cases h), fun _ h => (by cases h)⟩, rfl⟩
  | k + 1, f, e => by
    by_cases he : e ≤ f
    · rw [Mt_none G (k + 1) f e he]
      exact ⟨[], ⟨List.nodup_nil, fun _ h => (by cases h), fun _ h => (by cases h)⟩, rfl⟩
    unfold Mt
    rw [if_neg he]
    obtain ⟨S0, A0, l0⟩ := reached (G := G) k (f + 1) e
    by_cases hg : (f : Int) < G f ∧ G f < (e : Int)
    · rw [if_pos hg]
      by_cases hm : Mt G k (f + 1) e ≤ 1 + Mt G k (f + 1) (G f).toNat + Mt G k ((G f).toNat + 1) e
      · rw [Nat.max_eq_left hm]
        obtain ⟨S1, A1, l1⟩ := reached (G := G) k (f + 1) (G f).toNat
        obtain ⟨S2, A2, l2⟩ := reached (G := G) k ((G f).toNat + 1) e
        refine ⟨f :: (S1 ++ S2), ⟨?_, ?_, ?_⟩, by rw [List.length_cons, List.length_append, l1, l2]; omega⟩
        · rw [List.nodup_cons, List.nodup_append]
          refine ⟨fun z => ?_, A1.nd, A2.nd, fun a ha b hb e => ?_⟩
          · rcases List.mem_append.mp z with z | z
            · have := A1.bd f z; omega
            · have := A2.bd f z; omega
          · have := A1.bd a ha
            have := A2.bd b hb
            omega
        · intro i hi
          rcases List.mem_cons.mp hi with rfl | hi
          · exact ⟨Nat.le_refl _, hg⟩
          · rcases List.mem_append.mp hi with z | z
            · have := A1.bd i z; omega
            · have := A2.bd i z; omega
        · intro i hi j hj
          rcases List.mem_cons.mp hi with ei | hi2
          · subst ei
            rcases List.mem_cons.mp hj with ej | hj2
            · omega
            · rcases List.mem_append.mp hj2 with z | z
              · have := A1.bd j z; omega
              · have := A2.bd j z; omega
          · rcases List.mem_cons.mp hj with ej | hj2
            · subst ej
              rcases List.mem_append.mp hi2 with z | z
              · have := A1.bd i z; omega
              · have := A2.bd i z; omega
            · rcases List.mem_append.mp hi2 with z | z
              · rcases List.mem_append.mp hj2 with y | y
                · exact A1.nc i z j y
                · have := A1.bd i z
                  have := A2.bd j y
                  omega
              · rcases List.mem_append.mp hj2 with y | y
                · have := A2.bd i z
                  have := A1.bd j y
                  omega
                · exact A2.nc i z j y
      · rw [Nat.max_eq_right (by omega)]
        exact ⟨S0, A0.wide (by omega) (Nat.le_refl _), l0⟩
    · rw [if_neg hg]
      exact ⟨S0, A0.wide (by omega) (Nat.le_refl _), l0⟩
end Qu
set_option Elab.async false
set_option linter.all false
set_option maxRecDepth 100000
set_option maxHeartbeats 4000000
set_option autoImplicit false
/-! d.items() of a dict with tuple keys, in a `for` and in a comprehension. -/
namespace Sho
open PySem PySem.Spec PyProof.Rows L2
section
variable {X : Cx} {pins : List (Addr × Obj)} {σ : L2.St} {H : Hp} {s : Shared} {d : Addr} {o : Obj}
theorem frzT2 {kvs : List (List L2.Key × V)} (I : Inv X pins σ H s) (h : H d = some (.frz o (.dT kvs))) :
    (d == sysModules) = false ∧ s.heap.get? d = some o ∧ o.ExactDict ∧ ∃ (es : Array DictEntry) (ep : Nat), o.data = .dict es ep ∧ es.size = kvs.length ∧
      ∀ (i : Nat) (k : List L2.Key) (v : V), kvs[i]? = some (k, v) → ∃ (en : DictEntry) (q : Addr), es[i]? = some en ∧ en.key = .ref q ∧ RelV v en.val ∧ H q = some (.tup (k.map kV)) := by
  obtain ⟨hd, z, hs, xs, pr, o', es, ep, ho, hx, hdt, he, _⟩ := I.hok d _ h
  rw [hd] at ho
  cases ho
  refine ⟨hs, hd, hx, es, ep, hdt, ?_, fun i k v e => ?_⟩
  · have l1 : es.size = xs.length := size_of_entries he
    have l2 : kvs.length = xs.length := Paired.length pr
    omega
  · obtain ⟨b, hb, e1, e2, e3⟩ := paired_get pr e
    have q := entry_at he i
    rw [hb] at q
    exact ⟨_, b.2.1, q, rfl, e3, e2⟩
end
/-- the pairs, each a new tuple of the key's own tuple and the value -/
def Itit (d : Addr) (o : Obj) (kvs : List (List L2.Key × V)) : It :=
  ⟨fun i H => H d = some (.frz o (.dT kvs)) ∧ i < kvs.length, fun i H x H' => ∃ (T q : Addr) (k : List L2.Key) (v : V), kvs[i]? = some (k, v) ∧ x = .ref T ∧ H T = none ∧ H q = some (.tup (k.map kV)) ∧ H' = upd H T (.tup [.ref q, v]), fun i H => H d = some (.frz o (.dT kvs)) ∧ kvs.length ≤ i⟩
section
variable {P : Program} {w : World} {K : PySem.W.Frag} {d : Addr} {o : Obj} {es : Array DictEntry} {ep : Nat}
theorem turn_itemsT {kvs : List (List L2.Key × V)} {elts : List Expr} {kk : Nat} {tpos : Pos} (it : Addr) (hod : o.data = .dict es ep) :
    Turn P w K (.Tuple elts kk tpos) (Itit d o kvs) [it] it (fun i h => ∃ ok ov, IsItemIter h it d i kvs.length ep ok ov) where
  mem := by simp
  obj := fun i h st b hb => by
    have e : b = it := by simpa using hb
    subst e
    obtain ⟨ok, ov, e⟩ := st
    exact ⟨_, e, fun v z => nomatch z⟩
  keep := fun i h h' st k => let ⟨ok, ov, e⟩ := st; ⟨ok, ov, k it (by simp) _ e⟩
  item := by
    intro X hP hw hK hc i pins s σ H E I hf st hg
    subst hP hw hK
    obtain ⟨hd, hi⟩ := hg
    obtain ⟨hs, hgd, hx, es', ep', hdt, hsz, ent⟩ := frzT2 I hd
    obtain ⟨rfl, rfl⟩ := dict_ep hod hdt
    obtain ⟨⟨k, v⟩, hkv⟩ : ∃ p, kvs[i]? = some p := ⟨kvs[i], List.getElem?_eq_getElem hi⟩
    obtain ⟨en, q, hen, hkey, hval, hq⟩ := ent i k v hkv
    obtain ⟨ok, ov, he⟩ := st
    rw [← hsz] at he
    have hi' : i < es'.size := by omega
    have een : es'[i] = en := by
      rw [Array.getElem?_eq_getElem hi'] at hen
      exact Option.some.inj hen
    have hlt : it < s.heap.objs.size := Heap.lt_size he
    refine DT.nextI he ⟨o, hgd, hx, hdt⟩ hi' fun h' ho hT hz hk => ?_
    rw [een] at ho hT
    refine ⟨_, rfl, wpAny_letOwnedTupleGo_items (s := { s with heap := h' }) ho fun h'' he' sb => ?_⟩
    have hT2 : h''.get? s.heap.objs.size = some { cls := .type "tuple", data := .seq #[en.key, en.val] } := (sb.2 _ (Nat.ne_of_gt hlt)).trans hT
    have rk : RelV (V.ref q) en.key := hkey
    have new : ObjOk X.prog X.w (upd H s.heap.objs.size (.tup [.ref q, v])) h'' s.heap.objs.size (.tup [.ref q, v]) :=
      ⟨by show 2 ≤ sizeLine; decide, [en.key, en.val], .cons rk (.cons hval .nil), ⟨_, hT2, rfl, _, rfl⟩⟩
    have I1 : Inv X pins σ (upd H s.heap.objs.size (.tup [.ref q, v])) { s with heap := h'' } :=
      I.turnedNew (t' := s.toks) (ch := [it]) (fun b ob hb e => (sb.2 b (by simpa using hb)).trans (hk b ob (by simpa using hb) e)) hf (Nat.le_refl _) new
    refine ⟨.ref s.heap.objs.size, _, I1, rfl, ⟨_, q, k, v, hkv, rfl, I.hok.fresh (Nat.le_refl _), hq, rfl⟩, ⟨en.key, en.val, ?_⟩, fun b hb => ?_⟩
    · rw [← hsz]; exact he'
    · have e : b = it := by simpa using hb
      rw [e, upd_ne (Nat.ne_of_lt hlt)]
      exact (hf it (by simp)).1
  done := by
    intro X hP hw hK hc i pins s σ H E I hf st hg
    subst hP hw hK
    obtain ⟨hd, hi⟩ := hg
    obtain ⟨f0, f1, f2, f3, f4, f5⟩ := hf it (by simp)
    obtain ⟨hs, hgd, hx, es', ep', hdt, hsz, ent⟩ := frzT2 I hd
    obtain ⟨rfl, rfl⟩ := dict_ep hod hdt
    obtain ⟨ok, ov, he⟩ := st
    rw [← hsz] at he
    exact DT.endI (I.ok.hd hc) he ⟨o, hgd, hx, hdt⟩ (by omega) fun h' eb => ⟨rfl, I.turned (t' := s.toks) (fun b ob hb e => eb b ob hb e) f0 f1 f3 f4 f5⟩
  self := fun A i s Q E st h => let ⟨_, _, e⟩ := st; PySem.W.kcp_self e h
end
def iItemsT (td : TE) : TI := fun σ H R => td σ H fun x H1 => ∃ d o kvs, x = .ref d ∧ H1 d = some (.frz o (.dT kvs)) ∧ R (Itit d o kvs) H1
section
variable {X : Cx} {e : Expr} {td : TE} {apos cpos : Pos}
theorem pi_itemsT {elts : List Expr} {kk : Nat} {tpos : Pos} (he : PE X e td) (hbase : attributeBase e "items" X.env (eval e X.env) = eval e X.env := by rfl) (hline : (apos.endLine == cpos.line) = true := by rfl) :
    PI X (.Tuple elts kk tpos) (.Call (.Attribute e "items" apos) [] [] cpos) (iItemsT td) := by
  refine ⟨fun pins s σ H R I h => ?_⟩
  refine wpAny_Call_method (T := "dict") (id := "dict.items") hbase rfl hline PySem.F.plainAttrs_dict PySem.F.slot_dict_items PySem.F.type_dict_items (thn (he.run pins s σ H _ I h) fun u s1 ⟨x, H1, I1, rx, d, o, kvs, ex, hd, q⟩ => ?_)
  subst ex
  obtain rfl : u = Value.ref d := rx
  obtain ⟨hs, hgd, hx, es, ep, hdt, hsz, ent⟩ := frzT2 I1 hd
  have hm : DT.Raw s1.heap d es ep := ⟨o, hgd, hx, hdt⟩
  have I2 : Inv X pins σ H1 { s1 with heap := s1.heap.push { cls := .type "dict_items", data := .fields #[.ref d] } } := I1.kept (t' := s1.toks) fun b ob q => Heap.get?_push_of_some _ q
  refine ⟨hm.typeIs, ?_, ?_⟩
  · rintro a ⟨⟩
    exact ⟨o, hgd, hx.2.1⟩
  · have fin : wpAny (model X.prog X.w) X.A (pyIter (.ref s1.heap.objs.size)) (PIE X pins σ (.Tuple elts kk tpos) R) X.xe { s1 with heap := s1.heap.push { cls := .type "dict_items", data := .fields #[.ref d] } } := by
      refine DT.iterI (d := d) ⟨_, Heap.get?_push_size _ rfl, rfl, rfl⟩ (hm.push _) ?_
      refine pi_one (tk := s1.toks) I2 _ (turn_itemsT _ hdt) ⟨.none, .none, ?_⟩ q
      rw [← hsz]
      exact Heap.get?_push_size _ rfl
    show wpAny _ _ (callWith cpos (.builtin "dict.items") [.ref d] [] []) _ X.xe s1
    exact method_meetsIn PySem.F.slot_dict_items PySem.F.entry_dict_items rfl (PySem.evalArgs_none ⟨rfl, hm.typeIs, PySem.F.args_dict_items_1 _, _, DT.meetsItems (es := es) (ep := ep) hs, hm, fin⟩)
end
end Sho
set_option Elab.async false
set_option linter.all false
set_option maxRecDepth 100000
set_option maxHeartbeats 4000000
set_option autoImplicit false
/-! {k: v for target in iter if ..} whose keys are tuples. -/
namespace Sho
open PySem PySem.Spec PyProof.Rows L2
/-- one entry more, the key a tuple -/
theorem d_dictSetT {X : Cx} {pins : List (Addr × Obj)} {σ : L2.St} {H : Hp} {s : Shared} {E : Value → Shared → Prop} {D b : Addr} {kvs : List (List L2.Key × V)} {k : List L2.Key} {v : V} {u r : Value} {Q : Unit → Shared → Prop} (hu : X.A.units < cLine) (I : Inv X pins σ H s) (hD : H D = some (.dT kvs)) (hb : H b = some (.tup (k.map kV))) (hz : kvs.length < sizeLine)
    (ry : RelV (.ref b) u) (rv : RelV v r) (h : ∀ s', Inv X pins σ (upd H D (.dT (putK kvs k v))) s' → Q () s') : wpAny (model X.prog X.w) X.A (dictSet D u r) Q E s := by
  cases (show u = Value.ref b from ry)
  obtain ⟨z, hd, xs, rel, dd⟩ := dt_of I.hok hD
  have hx : xs.length ≤ sizeLine := by rw [← Paired.length rel]; exact z
  have hl : (putK kvs k v).length ≤ sizeLine := by have := length_putK kvs k v; omega
  refine wpAny_dictSet_heap (hsz := hx) (show (tupleKind (mixKind X.prog X.w)).room X.A from hu) (key_of I.hok hb) dd fun h' dd' hs => h _ ?_
  obtain ⟨q, es, ep, hq, h2, h3, h4, _, h5⟩ := dd'
  refine d_write I (by rw [hD]; exact True.intro) hs ⟨q, hq⟩ ⟨hl, hd, _, (rel.put k hb rv).keeps fun c ys ec => ?_, q, es, ep, hq, h2, h3, h4, h5⟩
  rw [upd_ne (ne_of ec hD (fun z => nomatch z))]
  exact ec
/-- the reading: D is the new dict -/
def tDcT (wi : TI) (g : TG) (tt : TT) (tk tv : TE) (vs : List Nat) : TE := fun σ H Q => wi σ H fun J H1 => ∀ D, H1 D = none → ∃ W : Nat → Nat → Hp → Prop, (∃ m, W 0 m (upd H1 D (.dT []))) ∧ ∀ i m H, W i m H →
  (J.stop i H ∧ Q (.ref D) H) ∨ (J.go i H ∧ ∃ Nx : Hp → Prop, (∀ H', Nx H' → ∃ m', m' < m ∧ W (i + 1) m' H') ∧ ∀ x H', J.yld i H x H' → g x (wipe σ vs) H' fun σ2 H2 => wipe σ2 vs = wipe σ vs ∧ tt σ2 H2 fun b H3 =>
    if b = true then tk σ2 H3 fun y H4 => tv σ2 H4 fun z H5 => ∃ kvs k q, y = V.ref q ∧ H5 q = some (.tup (k.map kV)) ∧ H5 D = some (.dT kvs) ∧ kvs.length < sizeLine ∧ Nx (upd H5 D (.dT (putK kvs k z))) else Nx H3)
section
variable {X : Cx}
theorem dcT_core {pins : List (Addr × Obj)} {s : Shared} {σ : L2.St} {H : Hp} {Q : VK} {kx vx tg iter : Expr} {ifs : List Expr} {scope : Scope} {own : List (Str × Nat)} {pos pos' : Pos} {wi : TI} {g : TG} {tt : TT} {tk tv : TE} {use : Option (Value → Sem Unit)} {Qf : Value → Shared → Prop}
    (hu : X.A.units < cLine) (hc : X.calm = true) (hN : X.N.Nodup) (I : Inv X pins σ H s) (hi : PI X tg iter wi) (ok : BlkOk X.N X.env.scope scope own)
    (hg : ∀ (s : Shared) (H : Hp) (C : Addr) (cl : List (Str × Addr)) (fp : List Addr), PG (X.blk s H scope (compEnvC scope cl C X.env) fp) tg g) (ht : ∀ (s : Shared) (H : Hp) (C : Addr) (cl : List (Str × Addr)) (fp : List Addr), PTs (X.blk s H scope (compEnvC scope cl C X.env) fp) ifs tt)
    (hk : ∀ (s : Shared) (H : Hp) (C : Addr) (cl : List (Str × Addr)) (fp : List Addr), PE (X.blk s H scope (compEnvC scope cl C X.env) fp) kx tk)
    (he : ∀ (s : Shared) (H : Hp) (C : Addr) (cl : List (Str × Addr)) (fp : List Addr), PE (X.blk s H scope (compEnvC scope cl C X.env) fp) vx tv) (hs : ∀ x, foldedSetIterable iter X.env x = pure x) (h : tDcT wi g tt tk tv (own.map (·.2)) σ H Q)
    (out : ∀ D C s' m H', Inv X pins σ H' s' → Q (.ref D) H' → s'.heap.Ns C m → FpOk X pins H' C → compPost (model X.prog X.w) X.A X.xe use Qf (.ref D) C (.ok .next) s') :
    wpAny (model X.prog X.w) X.A (comprehension (.DictComp kx vx [⟨tg, iter, ifs, 0⟩] scope pos) scope X.env pos' newDict false (eval iter X.env) use) Qf X.xe s := by
  have free : ∀ y ∈ scope.names, y.2 = .free → ∃ c, X.env.cells.lookup y.1 = some c := fun y hy e => (ok.free y hy e).elim (fun k => I.ok.has _ (.inl k)) fun k => I.ok.has _ (.inr k)
  refine wpAny_comprehension_free (use := use) rfl hs (closure_ok free) ok.kind (fun y hy e => by rw [ok.uniq y hy, e]) (thn (hi.run pins s σ H _ I h) fun xv s1 hx => thn hx fun itv s2 h2 => ?_)
  obtain ⟨it, fp, tn, J, H2, rfl, I2, T, st2, f2, q⟩ := h2
  refine wpAny_newObj_type (newEnv_comp ?_)
  have hD0 : H2 s2.heap.objs.size = none := I2.hok.fresh (Nat.le_refl _)
  generalize hD : s2.heap.objs.size = D at hD0
  obtain ⟨W, ⟨m0, w0⟩, turn⟩ := q D hD0
  generalize es3 : ({ s2 with heap := s2.heap.push { cls := .type "dict", data := .dict #[] } } : Shared) = s3
  have h3 : s3.heap = s2.heap.push { cls := .type "dict", data := .dict #[] } := by rw [← es3]
  have I3 : Inv X pins σ (upd H2 D (.dT [])) s3 := by
    rw [← es3]
    refine I2.laid (t' := s2.toks) (fun b o e => Heap.get?_push_of_some _ e) (Nat.le_of_eq hD) ?_
    rw [← hD]
    exact dt_empty s2.heap I2.big
  have low : ∀ b ∈ fp, b < s2.heap.objs.size := fun b hb => let ⟨_, e, _⟩ := T.obj _ _ st2 b hb; Heap.lt_size e
  have f3 : ∀ b ∈ fp, FpOk X pins (upd H2 D (.dT [])) b ∧ b < s3.heap.objs.size := fun b hb => by
    have l := low b hb
    exact ⟨⟨by rw [upd_ne (by rw [← hD]; exact Nat.ne_of_lt l)]; exact (f2 b hb).1, (f2 b hb).2⟩, by rw [h3, Heap.size_push]; exact Nat.lt_succ_of_lt l⟩
  have st3 : tn 0 s3.heap := T.keep _ _ _ st2 fun b _ o e => by rw [h3]; exact Heap.get?_push_of_some _ e
  have I4 := block_start I3 ok hN f3
  have n0 : ∀ b ∈ fp, (upd H2 D (.dT [])) b = none := fun b hb => (f3 b hb).1.1
  generalize eH3 : upd H2 D (.dT []) = H3 at I3 I4 w0 n0 f3
  generalize ecl : cellsFrom (s3.heap.objs.size + 1) scope.names (cloFrom X.env.cells scope.names []) = cl at I4
  have pg := hg s3 H3 s3.heap.objs.size cl fp
  have pt := ht s3 H3 s3.heap.objs.size cl fp
  have pk := hk s3 H3 s3.heap.objs.size cl fp
  have pe := he s3 H3 s3.heap.objs.size cl fp
  show codeAny _ _ (.compStart (.DictComp kx vx [⟨tg, iter, ifs, 0⟩] scope pos) 0 (.ref it) (.ref D) (compEnvC scope cl s3.heap.objs.size X.env)) (compPost (model X.prog X.w) X.A X.xe use Qf (.ref D) s3.heap.objs.size) { s3 with heap := pushCells (s3.heap.push { cls := .type "dict", data := .dict #[] }) scope.names }
  generalize ece : compEnvC scope cl s3.heap.objs.size X.env = ce at I4 pg pt pk pe ⊢
  have cL : ce.locals = s3.heap.objs.size := by subst ece; rfl
  generalize es4 : ({ s3 with heap := pushCells (s3.heap.push { cls := .type "dict", data := .dict #[] }) scope.names } : Shared) = s4 at I4 ⊢
  have st4 : tn 0 s4.heap := T.keep _ _ _ st3 fun b _ o e => by rw [← es4]; exact pushCells_keeps _ _ _ _ (Heap.get?_push_of_some _ e)
  have mine : ∀ {σ' : L2.St} {H' : Hp} {s' : Shared}, Inv (X.blk s3 H3 scope ce fp) [] σ' H' s' → (∀ b ∈ fp, H' b = none) → ∀ b ∈ fp, FpOk (X.blk s3 H3 scope ce fp) [] H' b := fun {σ' H' s'} J' hn b hb =>
    ⟨hn b hb, (J'.ok.exf b hb).1, J'.ok.exfs b hb, .inl hb, fun x c e => (J'.ok.exf b hb).2 x c e, fun p hp => absurd (show p ∈ ([] : List (Addr × Obj)) ++ [] from hp) (by simp)⟩
  have loop : codeAny (model X.prog X.w) X.A (.compLoop (.DictComp kx vx [⟨tg, iter, ifs, 0⟩] scope pos) 0 (.ref it) (.ref D) ce) (compPost (model X.prog X.w) X.A X.xe use Qf (.ref D) s3.heap.objs.size) s4 := by
    refine compLoop_anyD (fun n s' => ∃ i H', Inv (X.blk s3 H3 scope ce fp) [] (wipe σ (own.map (·.2))) H' s' ∧ tn i s'.heap ∧ (∀ b ∈ fp, H' b = none) ∧ W i n H') ?_ m0 ⟨0, H3, I4, st4, n0, w0⟩
    rintro n s5 ⟨i, H5, I5, st5, n5, w5⟩
    rcases turn i n H5 w5 with ⟨stop, qq⟩ | ⟨go, Nx, hNx, step⟩
    · refine thnF (T.done (X.blk s3 H3 scope ce fp) rfl rfl rfl hc i [] s5 _ H5 (fun _ _ => False) I5 (mine I5 n5) st5 stop) fun r s6 ⟨hr, I6⟩ => ?_
      subst hr
      have I7 : Inv X pins σ H5 s6 := I3.call' (ch := fp) I6.os I6.base I6.hok I6.bare fun b hb => ⟨(f3 b hb).1.2.2.2.1, (f3 b hb).1.2.1, (f3 b hb).1.2.2.2.2.1, (f3 b hb).1.2.2.2.2.2⟩
      have nC : H5 s3.heap.objs.size = none := by rw [← cL]; exact I6.free
      obtain ⟨m, hn, _⟩ := I6.loc
      have hn : s6.heap.Ns ce.locals m := hn
      rw [cL] at hn
      exact out D s3.heap.objs.size s6 m H5 I7 qq hn (I3.fpOk (Nat.le_refl _) nC)
    · refine thnF (T.item (X.blk s3 H3 scope ce fp) rfl rfl rfl hc i [] s5 _ H5 (fun _ _ => False) I5 (mine I5 n5) st5 go) fun r s6 ⟨u, hr, h6⟩ => ?_
      subst hr
      refine thnF h6 fun _ s7 ⟨x, H7, I7, r7, y7, st7, n7⟩ => ?_
      refine thnF (pg.run _ s7 _ H7 x u _ (I7.pinned (mine I7 n7) (T.obj _ _ st7)) r7 (step x H7 y7)) fun _ s8 ⟨σ8, H8, I8, hw, q8⟩ => ?_
      refine thnF (pt.run _ s8 σ8 H8 _ I8 q8) fun b s9 ⟨H9, I9, q9⟩ => ?_
      have fin : ∀ {s' : Shared} {H' : Hp}, Inv (X.blk s3 H3 scope ce fp) ([] ++ pinsAt fp s7.heap) σ8 H' s' → Nx H' → ∃ m, m < n ∧ ∃ i H', Inv (X.blk s3 H3 scope ce fp) [] (wipe σ (own.map (·.2))) H' s' ∧ tn i s'.heap ∧ (∀ b ∈ fp, H' b = none) ∧ W i m H' := fun {s' H'} J' nx => by
        obtain ⟨m', hm, w'⟩ := hNx H' nx
        have kept : ∀ b ∈ fp, ∀ o, s7.heap.get? b = some o → s'.heap.get? b = some o ∧ H' b = none := fun b hb o e =>
          have z := J'.pin (b, o) (List.mem_append_right _ (List.mem_append_right _ (mem_pinsAt hb e)))
          ⟨z.1, z.2.1⟩
        refine ⟨m', hm, i + 1, H', (J'.unpinned (pins := [])).weak (by rw [← hw, wipe_length]) (fun j v e => (wipe_some (hw ▸ e : (wipe σ8 (own.map (·.2)))[j]? = some (some v))).1), T.keep _ _ _ st7 fun b hb o e => (kept b hb o e).1, fun b hb => ?_, w'⟩
        obtain ⟨o, e, _⟩ := T.obj _ _ st7 b hb
        exact (kept b hb o e).2
      cases b with
      | false =>
        simp only [Bool.false_eq_true, if_false] at q9 ⊢
        exact fin I9 q9
      | true =>
        simp only [if_true] at q9 ⊢
        refine thnF (pk.run _ s9 σ8 H9 _ I9 q9) fun z s10 ⟨yk, H10, I10, r10, q10⟩ => ?_
        refine thnF (pe.run _ s10 σ8 H10 _ I10 q10) fun z2 s11 ⟨yv, H11, I11, r11, kvs, k, qa, ek, eq, hD11, hz11, nx⟩ => ?_
        subst ek
        exact d_dictSetT (X := X.blk s3 H3 scope ce fp) hu I11 hD11 eq hz11 r10 r11 fun s12 I12 => fin I12 nx
  exact codeAny_compStart_dict loop (T.self X.A 0 _ _ _ st4 loop)
theorem pe_dcT {kx vx tg iter : Expr} {ifs : List Expr} {scope : Scope} {own : List (Str × Nat)} {pos : Pos} {wi : TI} {g : TG} {tt : TT} {tk tv : TE} (hu : X.A.units < cLine) (hc : X.calm = true) (hN : X.N.Nodup) (hi : PI X tg iter wi) (ok : BlkOk X.N X.env.scope scope own)
    (hg : ∀ (s : Shared) (H : Hp) (C : Addr) (cl : List (Str × Addr)) (fp : List Addr), PG (X.blk s H scope (compEnvC scope cl C X.env) fp) tg g) (ht : ∀ (s : Shared) (H : Hp) (C : Addr) (cl : List (Str × Addr)) (fp : List Addr), PTs (X.blk s H scope (compEnvC scope cl C X.env) fp) ifs tt)
    (hk : ∀ (s : Shared) (H : Hp) (C : Addr) (cl : List (Str × Addr)) (fp : List Addr), PE (X.blk s H scope (compEnvC scope cl C X.env) fp) kx tk)
    (he : ∀ (s : Shared) (H : Hp) (C : Addr) (cl : List (Str × Addr)) (fp : List Addr), PE (X.blk s H scope (compEnvC scope cl C X.env) fp) vx tv) (hs : ∀ x, foldedSetIterable iter X.env x = pure x := by intro _; rfl) :
    PE X (.DictComp kx vx [⟨tg, iter, ifs, 0⟩] scope pos) (tDcT wi g tt tk tv (own.map (·.2))) := by
  refine ⟨fun pins s σ H Q I h => ?_⟩
  rw [arm_eval_DictComp]
  refine dcT_core hu hc hN I hi ok hg ht hk he hs h fun D C s' m H' J q hn fc => ⟨m, hn, fun h'' sb => ?_⟩
  obtain ⟨g0, g1, g2, g3, g4, g5⟩ := fc
  exact ⟨.ref D, H', J.turned (t' := s'.toks) (fun b o hb e => (sb.2 b hb).trans e) g0 g1 g3 g4 g5, rfl, q⟩
/-- name = {..} on one line, the name a local -/
theorem ps_setDcT {i : Nat} {y : Str} {py spos : Pos} {kx vx tg iter : Expr} {ifs : List Expr} {scope : Scope} {own : List (Str × Nat)} {pos : Pos} {wi : TI} {g : TG} {tt : TT} {tk tv : TE} (hu : X.A.units < cLine) (hc : X.calm = true) (hN : X.N.Nodup) (hy : X.N[i]? = some y) (hyl : X.env.scope.names.lookup y = some .local)
    (hsw : swapsWith (.DictComp kx vx [⟨tg, iter, ifs, 0⟩] scope pos) (some (.Name y py)) spos.line X.env = pure true) (hi : PI X tg iter wi) (ok : BlkOk X.N X.env.scope scope own)
    (hg : ∀ (s : Shared) (H : Hp) (C : Addr) (cl : List (Str × Addr)) (fp : List Addr), PG (X.blk s H scope (compEnvC scope cl C X.env) fp) tg g) (ht : ∀ (s : Shared) (H : Hp) (C : Addr) (cl : List (Str × Addr)) (fp : List Addr), PTs (X.blk s H scope (compEnvC scope cl C X.env) fp) ifs tt)
    (hk : ∀ (s : Shared) (H : Hp) (C : Addr) (cl : List (Str × Addr)) (fp : List Addr), PE (X.blk s H scope (compEnvC scope cl C X.env) fp) kx tk)
    (he : ∀ (s : Shared) (H : Hp) (C : Addr) (cl : List (Str × Addr)) (fp : List Addr), PE (X.blk s H scope (compEnvC scope cl C X.env) fp) vx tv) (hs : ∀ x, foldedSetIterable iter X.env x = pure x := by intro _; rfl) :
    PS X (.Assign [.Name y py] (.DictComp kx vx [⟨tg, iter, ifs, 0⟩] scope pos) spos) (tAsg (tDcT wi g tt tk tv (own.map (·.2))) (gName i)) := by
  refine ⟨fun pins s σ H D I h => ?_⟩
  rw [exec_Assign_Name_used _ _ _ _ hsw]
  refine wpAny_bind (wpAny_standAt (wpAny_bind ?_))
  have h : tDcT wi g tt tk tv (own.map (·.2)) σ H (fun x H1 => gName i x σ H1 D.nx) := h
  show wpAny _ X.A (do let _ ← comprehension (.DictComp kx vx [⟨tg, iter, ifs, 0⟩] scope pos) scope X.env (firstIterPos [⟨tg, iter, ifs, 0⟩] pos) newDict false (eval iter X.env) (some (assign (.Name y py) X.env))) _ _ s
  refine wpAny_bind (thn (dcT_core (Qf := fun _ s' => SP X pins D .next s') hu hc hN I hi ok hg ht hk he hs h fun L C s' m H' J q hn fc => ?_) fun _ s' hq => wpAny_pure (wpAny_pure hq))
  show wpAny _ _ (assign (.Name y py) X.env (.ref L)) _ _ _
  refine wpAny_assign_Name (store_ok2 (v := V.ref L) J hN hy (.inl hyl) rfl (fun s2 J2 ⟨a, sb, ha⟩ => ?_) (.inr hyl))
  obtain ⟨g0, g1, g2, g3, g4, g5⟩ := fc
  have nCa : C ≠ a := ha.elim (fun z => by rw [z]; exact g1) fun z e => g4 y a z e.symm
  exact ⟨m, hn.sameBut sb nCa, fun h3 sb3 => ⟨_, H', J2.turned (t' := s2.toks) (fun b o hb e => (sb3.2 b hb).trans e) g0 g1 g3 g4 g5, q⟩⟩
theorem swD_true {kx vx : Expr} {gs : List Comprehension} {scope : Scope} {pos py : Pos} {y : Str} {l : Nat} {env : Env} (hk : env.scope.kind = .function) (hy : env.scope.names.lookup y = some .local) (hl : (py.line == pos.line) = true)
    (ha : (scope.names.any fun (n, k) => n == y && (k == .local || k == .cell)) = false) : swapsWith (.DictComp kx vx gs scope pos) (some (.Name y py)) l env = pure true := by
  have hb : env.blockKind = .function := by unfold Env.blockKind; rw [hk]; rfl
  have ky : env.kindOf y = some .local := hy
  unfold swapsWith
  simp only [hb, ky, ha, Expr.pos, hl]
  rfl
end
end Sho
set_option Elab.async false
set_option linter.all false
set_option maxRecDepth 100000
set_option maxHeartbeats 2000000
/-! name = {k: v for ..} on one line, keys ints or texts. -/
namespace Shg
open PySem L2 PySem.Spec PyProof.Rows Sho
section
variable {X : Cx}
theorem ps_setDcK {i : Nat} {y : Str} {py spos : Pos} {kx vx tg iter : Expr} {ifs : List Expr} {scope : Scope} {own : List (Str × Nat)} {pos : Pos} {wi : TI} {g : TG} {tt : TT} {tk tv : TE} (hc : X.calm = true) (hN : X.N.Nodup) (hy : X.N[i]? = some y) (hyl : X.env.scope.names.lookup y = some .local)
    (hsw : swapsWith (.DictComp kx vx [⟨tg, iter, ifs, 0⟩] scope pos) (some (.Name y py)) spos.line X.env = pure true) (hi : PI X tg iter wi) (ok : BlkOk X.N X.env.scope scope own)
    (hg : ∀ (s : Shared) (H : Hp) (C : Addr) (cl : List (Str × Addr)) (fp : List Addr), PG (X.blk s H scope (compEnvC scope cl C X.env) fp) tg g) (ht : ∀ (s : Shared) (H : Hp) (C : Addr) (cl : List (Str × Addr)) (fp : List Addr), PTs (X.blk s H scope (compEnvC scope cl C X.env) fp) ifs tt)
    (hk : ∀ (s : Shared) (H : Hp) (C : Addr) (cl : List (Str × Addr)) (fp : List Addr), PE (X.blk s H scope (compEnvC scope cl C X.env) fp) kx tk)
    (he : ∀ (s : Shared) (H : Hp) (C : Addr) (cl : List (Str × Addr)) (fp : List Addr), PE (X.blk s H scope (compEnvC scope cl C X.env) fp) vx tv) (hs : ∀ x, foldedSetIterable iter X.env x = pure x := by intro _; rfl) :
    PS X (.Assign [.Name y py] (.DictComp kx vx [⟨tg, iter, ifs, 0⟩] scope pos) spos) (tAsg (tDc wi g tt tk tv (own.map (·.2))) (gName i)) := by
  refine ⟨fun pins s σ H D I h => ?_⟩
  rw [exec_Assign_Name_used _ _ _ _ hsw]
  refine wpAny_bind (wpAny_standAt (wpAny_bind ?_))
  have h : tDc wi g tt tk tv (own.map (·.2)) σ H (fun x H1 => gName i x σ H1 D.nx) := h
  show wpAny _ X.A (do let _ ← comprehension (.DictComp kx vx [⟨tg, iter, ifs, 0⟩] scope pos) scope X.env (firstIterPos [⟨tg, iter, ifs, 0⟩] pos) newDict false (eval iter X.env) (some (assign (.Name y py) X.env))) _ _ s
  refine wpAny_bind (thn (dc_core (Qf := fun _ s' => SP X pins D .next s') hc hN I hi ok hg ht hk he hs h fun L C s' m H' J q hn fc => ?_) fun _ s' hq => wpAny_pure (wpAny_pure hq))
  show wpAny _ _ (assign (.Name y py) X.env (.ref L)) _ _ _
  refine wpAny_assign_Name (store_ok2 (v := V.ref L) J hN hy (.inl hyl) rfl (fun s2 J2 ⟨a, sb, ha⟩ => ?_) (.inr hyl))
  obtain ⟨g0, g1, g2, g3, g4, g5⟩ := fc
  have nCa : C ≠ a := ha.elim (fun z => by rw [z]; exact g1) fun z e => g4 y a z e.symm
  exact ⟨m, hn.sameBut sb nCa, fun h3 sb3 => ⟨_, H', J2.turned (t' := s2.toks) (fun b o hb e => (sb3.2 b hb).trans e) g0 g1 g3 g4 g5, q⟩⟩
end
end Shg
set_option Elab.async false
set_option linter.all false
set_option maxRecDepth 100000
set_option maxHeartbeats 4000000
/-! sorted(xs, key=lambda ..): a stable order by whole numbers. -/
namespace Sho
open PySem PySem.Spec PyProof.Rows L2 LamX NdefX

/-! ### the order -/
section
variable {α β : Type}
def insK (p : Int × α) : List (Int × α) → List (Int × α)
  | [] => [p]
  | q :: r => if p.1 ≤ q.1 then p :: q :: r else q :: insK p r
def sortK : List (Int × α) → List (Int × α)
  | [] => []
  | p :: r => insK p (sortK r)
/-- ys in the order of their numbers kz; who stands first stays first among equals -/
def sortV (kz : List Int) (ys : List α) : List α := (sortK (kz.zip ys)).map Prod.snd
theorem insK_perm (p : Int × α) : ∀ l, (insK p l).Perm (p :: l)
  | [] => .refl _
  | q :: r => by
    unfold insK
    split
    · exact .refl _
    · exact ((insK_perm p r).cons q).trans (.swap p q r)
theorem sortK_perm : ∀ l : List (Int × α), (sortK l).Perm l
  | [] => .refl _
  | p :: r => (insK_perm p (sortK r)).trans ((sortK_perm r).cons p)
theorem insK_pair (p : Int × α) : ∀ {l : List (Int × α)}, l.Pairwise (fun a b => a.1 ≤ b.1) → (insK p l).Pairwise (fun a b => a.1 ≤ b.1)
  | [], _ => List.pairwise_singleton _ _
  | q :: r, h => by
    have hh := List.pairwise_cons.mp h
    unfold insK
    split
    · rename_i le
      refine List.pairwise_cons.mpr ⟨fun b hb => ?_, h⟩
      rcases List.mem_cons.mp hb with rfl | hb
      · exact le
      · exact Int.le_trans le (hh.1 b hb)
    · rename_i le
      refine List.pairwise_cons.mpr ⟨fun b hb => ?_, insK_pair p hh.2⟩
      rcases List.mem_cons.mp ((insK_perm p r).mem_iff.mp hb) with rfl | hb
      · omega
      · exact hh.1 b hb
theorem sortK_pair : ∀ l : List (Int × α), (sortK l).Pairwise (fun a b => a.1 ≤ b.1)
  | [] => .nil
  | p :: r => insK_pair p (sortK_pair r)
theorem insK_filter (p : Int × α) (c : Int) : ∀ l : List (Int × α), (insK p l).filter (fun q => q.1 == c) = (p :: l).filter (fun q => q.1 == c)
  | [] => rfl
  | q :: r => by
    unfold insK
    split
    · rfl
    · rename_i le
      have ih := insK_filter p c r
      rw [List.filter_cons, ih, List.filter_cons (x := p), List.filter_cons (x := p), List.filter_cons (x := q)]
      by_cases h1 : (p.1 == c) = true
      · have h2 : (q.1 == c) = false := by
          have := beq_iff_eq.mp h1
          simp only [beq_eq_false_iff_ne, ne_eq]
          omega
        simp [h1, h2]
      · simp [h1]
theorem sortK_filter (c : Int) : ∀ l : List (Int × α), (sortK l).filter (fun q => q.1 == c) = l.filter (fun q => q.1 == c)
  | [] => rfl
  | p :: r => by
    show (insK p (sortK r)).filter _ = _
    rw [insK_filter, List.filter_cons, List.filter_cons, sortK_filter c r]
/-- a sorted list that keeps equals in order is the only one -/
theorem stable_one : ∀ {l m : List (Int × α)}, l.Pairwise (fun a b => a.1 ≤ b.1) → m.Pairwise (fun a b => a.1 ≤ b.1) → (∀ c, l.filter (fun q => q.1 == c) = m.filter (fun q => q.1 == c)) → l = m
  | [], [], _, _, _ => rfl
  | [], q :: m, _, _, h => by
    have := h q.1
    simp at this
  | p :: l, [], _, _, h => by
    have := h p.1
    simp at this
  | p :: l, q :: m, hl, hm, h => by
    have hl' := List.pairwise_cons.mp hl
    have hm' := List.pairwise_cons.mp hm
    have mem1 : p ∈ (q :: m) := by
      have e := h p.1
      have : p ∈ (p :: l).filter (fun z => z.1 == p.1) := List.mem_filter.mpr ⟨List.mem_cons_self, by simp⟩
      rw [e] at this
      exact (List.mem_filter.mp this).1
    have mem2 : q ∈ (p :: l) := by
      have e := h q.1
      have : q ∈ (q :: m).filter (fun z => z.1 == q.1) := List.mem_filter.mpr ⟨List.mem_cons_self, by simp⟩
      rw [← e] at this
      exact (List.mem_filter.mp this).1
    have e1 : q.1 ≤ p.1 := by
      rcases List.mem_cons.mp mem1 with z | z
      · rw [z]; exact Int.le_refl _
      · exact hm'.1 _ z
    have e2 : p.1 ≤ q.1 := by
      rcases List.mem_cons.mp mem2 with z | z
      · rw [z]; exact Int.le_refl _
      · exact hl'.1 _ z
    have ek : p.1 = q.1 := Int.le_antisymm e2 e1
    have hp : p = q := by
      have e := h p.1
      rw [List.filter_cons, List.filter_cons] at e
      simp only [beq_self_eq_true, ek, if_true] at e
      exact (List.cons.inj e).1
    subst hp
    rw [stable_one hl'.2 hm'.2 fun c => ?_]
    have e := h c
    rw [List.filter_cons, List.filter_cons] at e
    split at e
    · exact (List.cons.inj e).2
    · exact e
theorem sortK_one {l m : List (Int × α)} (hm : m.Pairwise (fun a b => a.1 ≤ b.1)) (h : ∀ c, m.filter (fun q => q.1 == c) = l.filter (fun q => q.1 == c)) : m = sortK l :=
  stable_one hm (sortK_pair l) fun c => (h c).trans (sortK_filter c l).symm
theorem sortV_length {kz : List Int} {ys : List α} (h : kz.length = ys.length) : (sortV kz ys).length = ys.length := by
  unfold sortV
  rw [List.length_map, (sortK_perm _).length_eq, List.length_zip, h, Nat.min_self]
end

/-! ### list.sort by a key, whatever stands around -/
section
variable {prog : Program} {w : World} {A : Around} {E : Value → Shared → Prop} {a : Addr} {vs : List Value} {kz : List Int}
/-- all objects of a heap but three -/
def rest3 (h : Heap) (L x y : Addr) : List (Addr × Obj) := (List.range h.objs.size).filterMap fun b => if b = L ∨ b = x ∨ b = y then none else (h.get? b).map fun o => (b, o)
theorem mem_rest3 {h : Heap} {L x y b : Addr} {o : Obj} (h1 : b ≠ L) (h2 : b ≠ x) (h3 : b ≠ y) (e : h.get? b = some o) : (b, o) ∈ rest3 h L x y :=
  List.mem_filterMap.mpr ⟨b, List.mem_range.mpr (Heap.lt_size e), by simp [h1, h2, h3, e]⟩
theorem of_rest3 {h : Heap} {L x y : Addr} {p : Addr × Obj} (hp : p ∈ rest3 h L x y) : p.1 ≠ L ∧ p.1 ≠ x ∧ p.1 ≠ y ∧ h.get? p.1 = some p.2 := by
  obtain ⟨b, _, e⟩ := List.mem_filterMap.mp hp
  split at e
  · cases e
  · rename_i hn
    cases q : h.get? b with
    | none =>
      rw [q] at e
      cases e
    | some o =>
      rw [q] at e
      cases e
      exact ⟨fun z => hn (.inl z), fun z => hn (.inr (.inl z)), fun z => hn (.inr (.inr z)), q⟩

/-- the end: from the list of the numbers -/
theorem sortkey_end {s : Shared} {kS L : Addr} {m : Str → Option Value} {keys : Array Value} {e e1 : Nat} {P : PySem.Fin → Shared → Prop} (hn : s.heap.Ns L m) (hkL : kS ≠ L) (haL : a ≠ L) (hka : kS ≠ a)
    (hkS : s.heap.get? kS = some (seqObj "list" keys e)) (ha : s.heap.get? a = some (seqObj "list" #[] e1)) (hk : IntsAre keys.toList kz) (hlen : kz.length = vs.length) (hZ : vs.length ≤ sizeLine)
    (h : ∀ h' tk out c, h'.Ns L m → (∀ b o, b ≠ L → b ≠ kS → b ≠ a → s.heap.get? b = some o → h'.get? b = some o) → h'.get? a = some (seqObj "list" out c) → KskOutSt false kz vs out.toList → P (.done (.ret .none)) { s with heap := h', toks := tk }) :
    wpAny (model prog w) A (ksk_end a false vs.toArray e1 (.ref kS) keys) P E s := by
  have F := Att.fr_all hn
  refine ksk_end_St (h₀ := Att.noObjs s.heap) (news := rest3 s.heap L kS a) (L := L) (m := m) (kz := kz) (vs := vs) (e := e) F (fun p hp => ?_) hka (fun p hp => (of_rest3 hp).2.1) (fun p hp => (of_rest3 hp).2.2.1) hk hlen hZ fun h' tk out c F' N' k' => ?_
  · rcases List.mem_append.mp hp with hp | hp
    · obtain ⟨p1, _, _, p4⟩ := of_rest3 hp
      exact ⟨p4, p1, Att.noObjs_get _ _⟩
    · rcases List.mem_cons.mp hp with rfl | hp
      · exact ⟨hkS, hkL, Att.noObjs_get _ _⟩
      · rw [List.mem_singleton.mp hp]
        exact ⟨ha, haL, Att.noObjs_get _ _⟩
  · refine h h' tk out c F'.ns (fun b o b1 b2 b3 eb => ?_) (N' _ List.mem_cons_self).1 k'
    exact (N' _ (List.mem_cons_of_mem _ (mem_rest3 b1 b2 b3 eb))).1

theorem sortkey_rest {f : Value} {s : Shared} {kS L : Addr} {m : Str → Option Value} {e1 : Nat} {P : PySem.Fin → Shared → Prop} (J : Shared → Prop) (hkL : kS ≠ L) (haL : a ≠ L) (hka : kS ≠ a) (hlen : kz.length = vs.length) (hZ : vs.length ≤ sizeLine) (h0 : J s)
    (hns : ∀ s', J s' → s'.heap.Ns L m)
    (hkS : s.heap.get? kS = some (seqObj "list" #[] 0)) (ha : s.heap.get? a = some (seqObj "list" #[] e1))
    (hup : ∀ s' g, J s' → J { s' with heap := s'.heap.update kS (Obj.mapSeq g) })
    (turn : ∀ (i : Nat) (v : Value) (k : Int), vs[i]? = some v → kz[i]? = some k → ∀ s', J s' →
      wpAny (model prog w) A (call f [v]) (fun u s2 => ∃ t, u = .int k t ∧ J s2 ∧ (∀ o, s'.heap.get? kS = some o → s2.heap.get? kS = some o) ∧ (∀ o, s'.heap.get? a = some o → s2.heap.get? a = some o)) (fun _ _ => False) s')
    (h : ∀ s' h' tk out c, J s' → h'.Ns L m → (∀ b o, b ≠ L → b ≠ kS → b ≠ a → s'.heap.get? b = some o → h'.get? b = some o) → h'.get? a = some (seqObj "list" out c) → KskOutSt false kz vs out.toList → P (.done (.ret .none)) { s' with heap := h', toks := tk }) :
    wpAny (model prog w) A (ksk_rest a f false vs.toArray e1 (.ref kS)) P E s := by
  have hZ2 := hZ
  rw [sizeLine_eq] at hZ2
  unfold ksk_rest
  refine wpAny_bind (wpAny_rule ?_)
  first
    | rw [List.forIn_toArray]
    | (rw [← Array.forIn_toList]; simp only [List.toList_toArray])
  refine wpAny_bind (ksk_fold (fun i s' => ∃ kA e, J s' ∧ s'.heap.get? kS = some (seqObj "list" kA e) ∧ s'.heap.get? a = some (seqObj "list" #[] e1) ∧ IntsAre kA.toList (kz.take i)) vs 0 s
    ⟨#[], 0, h0, hkS, ha, by simpa using IntsAre.nil⟩ ?step ?done)
  case step =>
    rintro j x s' hx ⟨kA, e, hJ, gk, ga, hk⟩
    simp only [Nat.zero_add] at hk ⊢
    have hj := (List.getElem?_eq_some_iff.mp hx).1
    obtain ⟨k, hkj⟩ : ∃ k, kz[j]? = some k := ⟨_, List.getElem?_eq_getElem (by omega)⟩
    have hz : kA.size ≤ vs.length := by
      have h1 := hk.length
      rw [Array.length_toList, List.length_take] at h1
      omega
    refine wpAny_bind (wpAny_attempt (wpAny_mono (turn j x k hx hkj s' hJ) (fun v s2 he => ?_) fun _ _ hF => hF.elim))
    obtain ⟨t2, rfl, J2, q1, q2⟩ := he
    try dsimp only
    have gk2 := q1 _ gk
    have ek : kz.take (j + 1) = kz.take j ++ [k] := by rw [List.take_add_one, hkj]; simp
    have ea : (kA.push (Value.int k t2)).toList = kA.toList ++ [Value.int k t2] := by simp
    refine wpAny_bind (listUpdate_at gk2 rfl ?_ (by rw [sizeLine_eq]; omega) (Nat.le_trans (Nat.le_of_eq (Array.size_push ..)) (by rw [sizeLine_eq]; omega)))
    refine wpAny_pure ⟨rfl, kA.push (.int k t2), _, hup s2 _ J2, get?_update_seq gk2 (·.push (.int k t2)), ?_, by rw [ea, ek]; exact ksk_snoc hk⟩
    exact ((Heap.SameBut.update s2.heap kS _).2 a hka.symm).trans (q2 _ ga)
  case done =>
    rintro s' ⟨kA, e, hJ, gk, ga, hk⟩
    have hk' : IntsAre kA.toList kz := by
      have e3 : kz.take (0 + vs.length) = kz := List.take_of_length_le (by omega)
      rw [e3] at hk
      exact hk
    try dsimp only
    refine wpAny_bind (listItems_at gk rfl ?_)
    exact sortkey_end (hns s' hJ) hkL haL hka gk ga hk' hlen hZ fun h' tk out c n1 n2 n3 n4 => h s' h' tk out c hJ n1 n2 n3 n4
end

/-! ### at the layer -/
theorem abs_of {x : V} {u : Value} (r : L2.RelV x u) : absV u = some x := RelV.abs r
def unV (u : Value) : V := (absV u).getD .non
theorem unV_of {x : V} {u : Value} (r : L2.RelV x u) : unV u = x := by
  unfold unV
  rw [abs_of r]
  rfl
theorem zip_unV : ∀ {ys : List V} {us : List Value} (kz : List Int), Vals ys us → (kz.zip us).map (fun p => (p.1, unV p.2)) = kz.zip ys
  | _, _, [], _ => rfl
  | _, _, _ :: _, .nil => by simp
  | _, _, k :: kz, .cons r rs => by
    simp only [List.zip_cons_cons, List.map_cons]
    rw [unV_of r, zip_unV kz rs]
theorem vals_mem : ∀ {ys : List V} {us : List Value} {u : Value}, Vals ys us → u ∈ us → L2.RelV (unV u) u
  | _, _, _, .cons r rs, h => by
    rcases List.mem_cons.mp h with rfl | h
    · rw [unV_of r]
      exact r
    · exact vals_mem rs h
theorem vals_un : ∀ {us : List Value}, (∀ u ∈ us, L2.RelV (unV u) u) → Vals (us.map unV) us
  | [], _ => .nil
  | u :: us, h => .cons (h u List.mem_cons_self) (vals_un fun v hv => h v (List.mem_cons_of_mem _ hv))
theorem out_sorted {ys : List V} {vs out : List Value} {kz : List Int} (r : Vals ys vs) (hl : kz.length = vs.length) (h : KskOutSt false kz vs out) : Vals (sortV kz ys) out := by
  obtain ⟨ps, h1, rfl, h2, h3⟩ := h
  have mem : ∀ u ∈ ps.map Prod.snd, L2.RelV (unV u) u := fun u hu => by
    obtain ⟨p, hp, rfl⟩ := List.mem_map.mp hu
    have q := h1.mem_iff.mp hp
    exact vals_mem r (List.of_mem_zip (a := p.1) (b := p.2) q).2
  have e1 : (ps.map fun p => (p.1, unV p.2)) = sortK (kz.zip ys) := by
    refine sortK_one ?_ fun c => ?_
    · refine List.pairwise_map.mpr (h2.imp fun {x y} z => ?_)
      simpa using z
    · rw [← zip_unV kz r, List.filter_map, List.filter_map]
      have e := h3 c
      exact congrArg (List.map fun p => (p.1, unV p.2)) e
  have e2 : sortV kz ys = (ps.map Prod.snd).map unV := by
    unfold sortV
    rw [← e1, List.map_map, List.map_map]
    rfl
  rw [e2]
  exact vals_un mem

/-- a list or a tuple, collected: the very heap behind it -/
theorem collect_any {prog : Program} {w : World} {A : Around} {E : Value → Shared → Prop} {s : Shared} {l : Addr} {vs : List Value} {o : Obj} {n : Nat} {T : String} {Q : List Value → Shared → Prop} (hT : T = "list" ∨ T = "tuple") (ho : s.heap.get? l = some o) (hc : o.cls = .type T) (hd : o.data = .seq vs.toArray n)
    (h : Q vs { s with heap := (s.heap.push (seqObj "list" #[] 0)).update s.heap.objs.size (Obj.mapSeq (· ++ vs.toArray)) }) (hsz : vs.length ≤ sizeLine) :
    wpAny (model prog w) A (collect (.ref l)) Q E s := by
  have new : (s.heap.push (seqObj "list" #[] 0)).get? s.heap.objs.size = some (seqObj "list" #[] 0) := Heap.get?_push_size _ rfl
  have size : vs.toArray.size ≤ sizeLine := by simpa using hsz
  have grown := Heap.get?_update_self (Obj.mapSeq (· ++ vs.toArray)) new rfl
  have fin : ∀ s', s' = { s with heap := (s.heap.push (seqObj "list" #[] 0)).update s.heap.objs.size (Obj.mapSeq (· ++ vs.toArray)) } → wpAny (model prog w) A (load s.heap.objs.size >>= fun o => match o.data with
      | .seq xs _ => pure xs.toList
      | _ => unsupported "internal:collect") Q E s' := by
    rintro _ rfl
    refine wpAny_bind (wpAny_load grown ?_)
    show wpAny _ _ (pure (#[] ++ vs.toArray).toList) _ _ _
    have e : ((#[] : Array Value) ++ vs.toArray).toList = vs := by simp
    rw [e]
    exact wpAny_pure h
  unfold collect
  refine wpAny_bind (wpAny_runValue (codeAny_builtin F.entry_proto_collect ?_))
  rw [Around.under_plainId F.plain_proto_collect _]
  refine wpAny_bind (m := newList []) (wpAny_newList (wpAny_pure ⟨plainId_quiet F.plain_list_iadd _, codeAny_builtin F.entry_list_iadd ?_⟩))
  rw [Around.under_plainId F.plain_list_iadd _]
  have run := wpAny_extend_seq (prog := prog) (w := w) (A := A) (s := { s with heap := s.heap.push (seqObj "list" #[] 0) }) (R := fun r s' => r = .ok (.ret (.ref s.heap.objs.size)) ∧ s' = { s with heap := (s.heap.push (seqObj "list" #[] 0)).update s.heap.objs.size (Obj.mapSeq (· ++ vs.toArray)) })
    s.heap.objs.size l (.ref s.heap.objs.size) 0 hT new (Heap.get?_push_of_some _ ho) hc hd ⟨rfl, rfl⟩ size
  refine wpAny_mono run (fun f s' q => ?_) fun _ _ q => nomatch q.1
  cases f with
  | done r =>
    obtain ⟨e, q⟩ := q
    cases e
    exact fin _ q
  | again c => exact ⟨q.1, codeAny_mono q.2 fun r s'' z => by
      obtain ⟨rfl, z⟩ := z
      exact fin _ z⟩
section
variable {X : Cx} {k : Nat}
/-- sorted(xs, key=f): f a lambda, hands back whole numbers and leaves all as it was -/
def rSortL (X : Cx) (k : Nat) : List V → List V → Hp → VK → Prop := fun xs zs H Q => ∃ (a f : Addr) (Z : LF) (ys : List V) (kz : List Int), xs = [V.ref a] ∧ zs = [V.ref f] ∧ (SqL X.K H a ys ∨ SqT X.K H a ys) ∧ LamAt H f Z ∧ kz.length = ys.length ∧
  (∀ (A : Around) (outer : List Env) (s : Shared) (i : Nat) (v : V) (n : Int) (u : Value), Room k A → Env0 X.prog X.w X.K X.mg X.base A outer s H → ys[i]? = some v → kz[i]? = some n → RelV v u →
    codeAny (model X.prog X.w) A (.call (.ref f) ⟨[u], []⟩) (CR CX0 outer X.prog X.w H s (fun r H' => r = .int n ∧ H' = H) E0) s) ∧
  ∀ p, H p = none → Q (.ref p) (upd H p (.lst (sortV kz ys)))
theorem cr_sortedLam (hr : Room (k + 3) X.A) : CallRK X (.builtin "sorted") [Str.ofString "key"] (rSortL X k) := by
  rintro pins s σ H xs zs us ws Q I rx rz ⟨l, f, Z, ys, kz, rfl, rfl, hl, hf, hlen, hkey, hq⟩
  obtain ⟨us1, rfl⟩ : ∃ u, us = [u] := by cases rx with | cons r t => cases t; exact ⟨_, rfl⟩
  obtain ⟨ws1, rfl⟩ : ∃ u, ws = [u] := by cases rz with | cons r t => cases t; exact ⟨_, rfl⟩
  obtain rfl : us1 = .ref l := by cases rx with | cons r t => exact r
  obtain rfl : ws1 = .ref f := by cases rz with | cons r t => exact r
  obtain ⟨vs, T, o1, n1, rv, hT, e1, e2, e3, hZ⟩ : ∃ (vs : List Value) (T : String) (o1 : Obj) (n1 : Nat), Vals ys vs ∧ (T = "list" ∨ T = "tuple") ∧ s.heap.get? l = some o1 ∧ o1.cls = .type T ∧ o1.data = .seq vs.toArray n1 ∧ ys.length ≤ sizeLine := by
    rcases hl with hl | hl
    · obtain ⟨vs, rv, pl, hZ⟩ := I.list hl
      obtain ⟨o, n, e1, e2, _, e3⟩ := pl
      exact ⟨vs, "list", o, n, rv, .inl rfl, e1, e2, e3, hZ⟩
    · obtain ⟨vs, rv, pl, hZ⟩ := I.tuple hl
      obtain ⟨o, e1, e2, n, e3⟩ := pl
      exact ⟨vs, "tuple", o, n, rv, .inr rfl, e1, e2, e3, hZ⟩
  have hlv : kz.length = vs.length := by rw [hlen, rv.length]
  have hZv : vs.length ≤ sizeLine := by rw [← rv.length]; exact hZ
  have hZ2 := hZv
  rw [sizeLine_eq] at hZ2
  show wpAny _ _ (call (.builtin "sorted") [.ref l] [(Str.ofString "key", .ref f)]) _ _ _
  refine call_function_entry_kw kind_sorted plain_sorted entry_sorted (ksk_s1 _ _) ?_
  unfold Builtin.«sorted»
  refine wpAny_bind (m := checkCount "sorted" 1 1 _) (wpAny_pure ?_)
  refine wpAny_bind (collect_any hT e1 e2 e3 ?_ hZv)
  refine wpAny_bind (wpAny_newList ?_ (by rw [sizeLine_eq]; omega))
  generalize hh1 : ((s.heap.push (seqObj "list" #[] 0)).update s.heap.objs.size (Obj.mapSeq (· ++ vs.toArray))) = h1
  have z1 : h1.objs.size = s.heap.objs.size + 1 := by rw [← hh1, Heap.size_update, size_push']
  have k1 : ∀ b o, s.heap.get? b = some o → h1.get? b = some o := fun b o q => by
    have lt := Heap.lt_size q
    rw [← hh1, Heap.get?_update_ne _ _ _ _ (Nat.ne_of_lt lt), Heap.get?_push_ne _ _ _ (Nat.ne_of_lt lt)]
    exact q
  show wpAny _ _ _ _ _ { s with heap := h1.push (seqObj "list" vs.toArray 0) }
  have k2 : ∀ b o, s.heap.get? b = some o → (h1.push (seqObj "list" vs.toArray 0)).get? b = some o := fun b o q => Heap.get?_push_of_some _ (k1 b o q)
  have g2 : (h1.push (seqObj "list" vs.toArray 0)).get? h1.objs.size = some (seqObj "list" vs.toArray 0) := Heap.get?_push_size _ rfl
  generalize ha0 : h1.objs.size = a0 at g2 ⊢
  generalize hh2 : h1.push (seqObj "list" vs.toArray 0) = h2 at g2 k2 ⊢
  have a0s : s.heap.objs.size ≤ a0 := by omega
  have z2 : h2.objs.size = a0 + 1 := by rw [← hh2, size_push', ha0]
  refine wpAny_bind (wpAny_holding (wpAny_call_entry_kw slot_list_sort ⟨_, g2, rfl⟩ entry_list_sort ?body (ksk_l1 _ _)))
  case body =>
    show wpAny _ X.A.in1.in1 (Builtin.«list.sort» ⟨[.ref a0], [(Str.ofString "key", .ref f)]⟩) _ _ _
    rw [ksk_t1]
    unfold ksk_tree
    have sb3 := Heap.SameBut.update h2 a0 (Obj.mapSeq fun _ => (#[] : Array Value))
    obtain ⟨e1, g3⟩ : ∃ e1, (h2.update a0 (Obj.mapSeq fun _ => (#[] : Array Value))).get? a0 = some (seqObj "list" #[] e1) := ⟨_, get?_update_seq g2 fun _ => #[]⟩
    have z3 : (h2.update a0 (Obj.mapSeq fun _ => (#[] : Array Value))).objs.size = a0 + 1 := by rw [Heap.size_update, z2]
    refine wpAny_bind (listItems_at g2 rfl ?_)
    refine wpAny_bind (listUpdate_at g2 rfl ?_ (by rw [List.size_toArray, sizeLine_eq]; omega) (Nat.zero_le _))
    refine wpAny_bind (seqEpoch_at g3 rfl ?_)
    have k3 : ∀ b o, s.heap.get? b = some o → (h2.update a0 (Obj.mapSeq fun _ => (#[] : Array Value))).get? b = some o := fun b o q =>
      (sb3.2 b (Nat.ne_of_lt (Nat.lt_of_lt_of_le (Heap.lt_size q) a0s))).trans (k2 b o q)
    generalize h2.update a0 (Obj.mapSeq fun _ => (#[] : Array Value)) = h3 at g3 k3 z3
    refine wpAny_bind (wpAny_newTuple ?_ (by show vs.length ≤ _; rw [sizeLine_eq]; omega))
    refine wpAny_bind (wpAny_newList ?_ (Nat.zero_le _))
    refine wpAny_holding ?_
    have z4 : (h3.push (seqObj "tuple" vs.toArray 0)).objs.size = a0 + 2 := by rw [size_push', z3]
    have k5 : ∀ b o, h3.get? b = some o → ((h3.push (seqObj "tuple" vs.toArray 0)).push (seqObj "list" #[] 0)).get? b = some o := fun b o q => Heap.get?_push_of_some _ (Heap.get?_push_of_some _ q)
    have gk : ((h3.push (seqObj "tuple" vs.toArray 0)).push (seqObj "list" #[] 0)).get? (h3.push (seqObj "tuple" vs.toArray 0)).objs.size = some (seqObj "list" #[] 0) := Heap.get?_push_size _ rfl
    have ga := k5 _ _ g3
    generalize hkS : (h3.push (seqObj "tuple" vs.toArray 0)).objs.size = kS at gk
    have hkS2 : kS = a0 + 2 := by rw [← hkS]; exact z4
    have h5k : ∀ b o, s.heap.get? b = some o → ((h3.push (seqObj "tuple" vs.toArray 0)).push (seqObj "list" #[] 0)).get? b = some o := fun b o q => k5 b o (k3 b o q)
    show wpAny _ _ (ksk_rest a0 (.ref f) false vs.toArray e1 (.ref kS)) _ _ { s with heap := (h3.push (seqObj "tuple" vs.toArray 0)).push (seqObj "list" #[] 0) }
    generalize (h3.push (seqObj "tuple" vs.toArray 0)).push (seqObj "list" #[] 0) = h5 at gk ga h5k
    have I5 : Inv X pins σ H { s with heap := h5 } := I.kept (t' := s.toks) h5k
    have na : H a0 = none := I.hok.fresh a0s
    have nk : H kS = none := I.hok.fresh (by omega)
    have fa := I.fpOk a0s na
    have fk := I.fpOk (b := kS) (by omega) nk
    have hka : kS ≠ a0 := by omega
    obtain ⟨m, hm, _⟩ := I5.loc
    have nstk : ∀ b, FpOk X pins H b → b ∉ frs X.stack := fun b fb hb => by
      rcases List.mem_cons.mp (I.stkSub b hb) with z | z
      · exact fb.2.1 z
      · exact fb.2.2.1 z
    have nsOne : ∀ {g : Heap} {m1 m2 : Str → Option Value}, g.Ns X.env.locals m1 → g.Ns X.env.locals m2 → m1 = m2 := by
      rintro g m1 m2 ⟨o, es, ep, q1, q2, _, q3⟩ ⟨o', es', ep', r1, r2, _, r3⟩
      rw [q1] at r1
      cases r1
      rw [q2] at r2
      cases r2
      funext y
      rw [← q3, ← r3]
    refine sortkey_rest (kz := kz) (m := m) (L := X.env.locals) (fun s' => Inv X pins σ H s' ∧ s'.heap.Ns X.env.locals m) fk.2.1 fa.2.1 hka hlv hZv ⟨I5, hm⟩ (fun s' q => q.2) gk ga (fun s' g q => ?_) (fun i v n hv hn s' q => ?_)
      fun s' h' tk out c q n1 n2 n3 n4 => ?_
    · have sb := Heap.SameBut.update s'.heap kS (Obj.mapSeq g)
      refine ⟨q.1.turned (t' := s'.toks) (fun b o hb e => (sb.2 b hb).trans e) nk fk.2.1 fk.2.2.2.1 fk.2.2.2.2.1 fk.2.2.2.2.2, ?_⟩
      exact q.2.sameBut sb (Ne.symm fk.2.1)
    · obtain ⟨I', hm'⟩ := q
      obtain ⟨y, hy⟩ : ∃ y, ys[i]? = some y := by
        cases e : ys[i]? with
        | some y => exact ⟨y, rfl⟩
        | none =>
          rw [rv.none_of e] at hv
          cases hv
      obtain ⟨v2, hv2, ry⟩ := rv.get hy
      rw [hv] at hv2
      cases hv2
      have e0 := I'.env0.in1.in1
      have room : Room k X.A.in1.in1 := (((hr.mono (show k + 2 ≤ k + 3 by omega)).in1).in1).mono (Nat.le_refl _)
      have run := hkey X.A.in1.in1 X.stack s' i y n v room e0 hy hn ry
      refine wpAny_call (codeAny_mono run fun r s2 hq2 => ?_)
      cases r with
      | error e => exact False.elim hq2
      | ok fl =>
        cases fl with
        | ret u =>
          have hq3 : CE X.stack X.prog X.w H s' (fun r H' => r = .int n ∧ H' = H) u s2 := hq2
          have un := hq3
          obtain ⟨_, _, _, _, un, _⟩ := un
          obtain ⟨w2, H2, I2, r2, rfl, rfl⟩ := I'.after hq3
          obtain ⟨t, rfl⟩ := (show ∃ t, u = Value.int n t from r2)
          refine ⟨t, rfl, ⟨I2, ?_⟩, fun o e => un.keep kS o e nk (nstk kS fk) (by simp), fun o e => un.keep a0 o e na (nstk a0 fa) (by simp)⟩
          obtain ⟨o, es, ep, ho, hd, hs, hf'⟩ := hm'
          by_cases hL : X.env.locals ∈ frs X.stack
          · obtain ⟨sl, e2⟩ := un.slot _ o ho I'.free hL (by simp)
            exact ⟨_, es, ep, e2, hd, hs, hf'⟩
          · exact ⟨o, es, ep, un.keep _ o ho I'.free hL (by simp), hd, hs, hf'⟩
        | next => exact False.elim hq2
        | brk => exact False.elim hq2
        | cont => exact False.elim hq2
    · obtain ⟨I', hm'⟩ := q
      have rout : Vals (sortV kz ys) out.toList := out_sorted rv hlv n4
      have ex : ∀ b o, b ≠ X.env.locals → b ∉ [kS, a0] → s'.heap.get? b = some o → h'.get? b = some o := fun b o b1 b2 e => by
        simp only [List.mem_cons, List.not_mem_nil, or_false, not_or] at b2
        exact n2 b o b1 b2.1 b2.2 e
      have tr : ∀ b u, H b = some u → b ≠ a0 := fun b u e z => by rw [z, na] at e; cases e
      have up : ∀ b u, H b = some u → upd H a0 (.lst (sortV kz ys)) b = some u := fun b u e => by rw [upd_ne (tr b u e)]; exact e
      have off : ∀ b u, H b = some u → b ≠ X.env.locals ∧ b ∉ [kS, a0] := fun b u e => by
        refine ⟨fun z => ?_, fun z => ?_⟩
        · rw [z, I'.free] at e
          cases e
        · simp only [List.mem_cons, List.not_mem_nil, or_false] at z
          rcases z with z | z
          · rw [z, nk] at e
            cases e
          · exact tr b u e z
      refine ⟨_, rfl, ?_⟩
      refine wpAny_pure ⟨_, rfl, .ref a0, upd H a0 (.lst (sortV kz ys)), ?_, rfl, hq a0 na⟩
      refine I'.step (g' := s'.gens) (d' := s'.drawn) (t' := tk) (h' := h') (ch := [kS, a0]) (fun b hb => ?_) (fun b o b1 _ b3 e _ => ex b o b1 b3 e) (fun b o b1 _ b3 e _ => ⟨o.slots, ex b o b1 b3 e⟩)
        (fun b o b3 e n => ?_) (fun b o b3 e => ?_) (fun b u e => up b _ e) (fun b o u e => up b _ e) (fun b ps e => ⟨#[], by rw [up b _ e]; simp⟩) (fun m' hm2 => ?_) (fun b u e => ?_) I'.bare
      · simp only [List.mem_cons, List.not_mem_nil, or_false] at hb
        rcases hb with rfl | rfl
        · exact ⟨fk.2.2.2.1, fk.2.1, fk.2.2.2.2.1, fk.2.2.2.2.2⟩
        · exact ⟨fa.2.2.2.1, fa.2.1, fa.2.2.2.2.1, fa.2.2.2.2.2⟩
      · simp only [List.mem_cons, List.not_mem_nil, or_false, not_or] at b3
        rw [upd_ne b3.2]
        exact n
      · by_cases bL : b = X.env.locals
        · rw [bL]
          obtain ⟨o', _, _, q, _⟩ := n1
          exact ⟨o', q⟩
        · exact ⟨o, ex b o bL b3 e⟩
      · rw [nsOne hm2 hm']
        exact n1
      · by_cases hb : b = a0
        · subst hb
          rw [upd_same] at e
          cases e
          have el : (sortV kz ys).length ≤ sizeLine := by
            rw [sortV_length hlen]
            exact hZ
          exact ⟨el, out.toList, c, rout, by rw [n3]⟩
        · rw [upd_ne hb] at e
          refine (I'.hok b u e).stay (fun d v hd q => ?_) (fun d q => up d _ q) fun d xs q => up d _ q
          rcases hd with rfl | hd
          · exact ex _ v (off _ _ e).1 (off _ _ e).2 q
          · exact ex _ v (off _ _ hd).1 (off _ _ hd).2 q
end
end Sho
set_option Elab.async false
set_option linter.all false
set_option maxRecDepth 100000
set_option maxHeartbeats 4000000
/-! Rows (name, come, go, ..); bottom_up, lifted_from. -/
namespace Sh1
open PySem L2 Sho NdefX Shg
/-! ### the stable sort commutes with maps -/
theorem insK_map {α β : Type} (f : α → β) (p : Int × α) : ∀ l : List (Int × α), insK (p.1, f p.2) (l.map fun q => (q.1, f q.2)) = (insK p l).map fun q => (q.1, f q.2)
  | [] => rfl
  | q :: r => by
    show (if p.1 ≤ q.1 then (p.1, f p.2) :: (q.1, f q.2) :: _ else (q.1, f q.2) :: insK (p.1, f p.2) (r.map fun q => (q.1, f q.2))) = (if p.1 ≤ q.1 then p :: q :: r else q :: insK p r).map _
    split
    · rfl
    · rw [insK_map f p r]
      rfl
theorem sortK_map {α β : Type} (f : α → β) : ∀ l : List (Int × α), sortK (l.map fun q => (q.1, f q.2)) = (sortK l).map fun q => (q.1, f q.2)
  | [] => rfl
  | p :: r => by
    show insK (p.1, f p.2) (sortK (r.map fun q => (q.1, f q.2))) = (insK p (sortK r)).map _
    rw [sortK_map f r, insK_map]
theorem sortV_map {α β : Type} (f : α → β) (kz : List Int) (ys : List α) : sortV kz (ys.map f) = (sortV kz ys).map f := by
  unfold sortV
  have e : kz.zip (ys.map f) = (kz.zip ys).map fun q => (q.1, f q.2) := by
    rw [List.zip_map_right]
    rfl
  rw [e, sortK_map, List.map_map, List.map_map]
  rfl
/-! ### rows -/
structure Rw where
  nm : Str
  come : Int
  go : Int
  more : List Int
  deriving DecidableEq
def rwV (r : Rw) : List V := .str r.nm :: .int r.come :: .int r.go :: r.more.map V.int
def RwAt (H : Hp) (v : V) (r : Rw) : Prop := ∃ t, v = .ref t ∧ H t = some (.tup (rwV r))
theorem RwAt.ext {H H' : Hp} (e : LamX.ExtN H H') {v : V} {r : Rw} (h : RwAt H v r) : RwAt H' v r := by
  obtain ⟨t, rfl, ht⟩ := h
  exact ⟨t, rfl, e _ _ ht fun _ z => nomatch z⟩
theorem RwAt.same {H H' : Hp} (e : Same H H') {v : V} {r : Rw} (h : RwAt H v r) : RwAt H' v r := h.ext (LamX.ExtN.of e)
def rwD (r : Rw) : PyData := .tuple (.str r.nm :: .int r.come :: .int r.go :: r.more.map PyData.int)
theorem eqv_ints : ∀ xs ys : List Int, PyData.eqvAll (xs.map PyData.int) (ys.map PyData.int) = decide (xs = ys)
  | [], [] => rfl
  | [], _ :: _ => rfl
  | _ :: _, [] => rfl
  | x :: xs, y :: ys => by
    show ((x == y) && PyData.eqvAll (xs.map PyData.int) (ys.map PyData.int)) = _
    rw [eqv_ints xs ys, Bool.eq_iff_iff]
    simp
theorem eqv_rw (a b : Rw) : PyData.eqv (rwD a) (rwD b) = decide (a = b) := by
  obtain ⟨a1, a2, a3, a4⟩ := a
  obtain ⟨b1, b2, b3, b4⟩ := b
  show ((a1 == b1) && ((a2 == b2) && ((a3 == b3) && PyData.eqvAll (a4.map PyData.int) (b4.map PyData.int)))) = _
  rw [eqv_ints, Bool.eq_iff_iff]
  simp
abbrev OkRw (r : Rw) : Prop := r.nm.cps.all (· < 0x110000) = true
theorem lay_ints : ∀ xs : List Int, PyData.canLayAll0 (xs.map PyData.int) = true
  | [] => rfl
  | x :: xs => by
    show (true && PyData.canLayAll0 (xs.map PyData.int)) = true
    rw [lay_ints xs]
    rfl
theorem depth_ints : ∀ xs : List Int, PyData.depthAll (xs.map PyData.int) = 0
  | [] => rfl
  | x :: xs => by
    show max (PyData.depth (.int x)) (PyData.depthAll (xs.map PyData.int)) = 0
    rw [depth_ints xs]
    rfl
theorem depth_rw (r : Rw) : PyData.depth (rwD r) = 1 := by
  show PyData.depthAll (.str r.nm :: .int r.come :: .int r.go :: r.more.map PyData.int) + 1 = 1
  have e : PyData.depthAll (.str r.nm :: .int r.come :: .int r.go :: r.more.map PyData.int) = 0 := by
    show max (PyData.depth (.str r.nm)) (max (PyData.depth (.int r.come)) (max (PyData.depth (.int r.go)) (PyData.depthAll (r.more.map PyData.int)))) = 0
    rw [depth_ints]
    rfl
  rw [e]
theorem lay_rw {r : Rw} (h : OkRw r) : PyData.canLay0 (rwD r) = true := by
  show (PyData.canLay0 (.str r.nm) && (true && (true && PyData.canLayAll0 (r.more.map PyData.int)))) = true
  rw [lay_ints]
  simp only [Bool.and_true]
  exact h
theorem shaped_rw {r : Rw} (h : OkRw r) : SeqAt.shaped (rwD r) = true := by
  unfold SeqAt.shaped
  rw [lay_rw h, depth_rw]
  rfl
theorem lay_rws : ∀ {rs : List Rw}, (∀ r ∈ rs, OkRw r) → PyData.canLayAll0 (rs.map rwD) = true
  | [], _ => rfl
  | r :: rs, h => by
    show (PyData.canLay0 (rwD r) && PyData.canLayAll0 (rs.map rwD)) = true
    rw [lay_rw (h r List.mem_cons_self), lay_rws fun x hx => h x (List.mem_cons_of_mem _ hx)]
    rfl
theorem depth_rws : ∀ rs : List Rw, PyData.depthAll (rs.map rwD) ≤ 1
  | [] => Nat.zero_le _
  | r :: rs => by
    show max (PyData.depth (rwD r)) (PyData.depthAll (rs.map rwD)) ≤ 1
    have := depth_rws rs
    rw [depth_rw]
    omega
theorem shaped_rws {rs : List Rw} (h : ∀ r ∈ rs, OkRw r) : SeqAt.shaped (.list (rs.map rwD)) = true := by
  unfold SeqAt.shaped
  have h1 : PyData.canLay0 (.list (rs.map rwD)) = true := lay_rws h
  have h2 : PyData.depth (.list (rs.map rwD)) ≤ 64 := Nat.le_trans (Nat.succ_le_succ (depth_rws rs)) (by decide)
  rw [h1, decide_eq_true h2]
  rfl
end Sh1
set_option Elab.async false
set_option linter.all false
set_option maxRecDepth 100000
set_option maxHeartbeats 4000000
namespace Sh1
open PySem L2 Sho NdefX Shg
abbrev qBot : Str := "bottom_up.<locals>.<lambda>"
theorem sql_grows {K : PySem.W.Frag} {H H' : Hp} {a : Addr} {xs : List V} (e : LamX.ExtN H H') (h : SqL K H a xs) : SqL K H' a xs := by
  rcases h with (h | ⟨o, h⟩) | h
  · exact .inl (.inl (e _ _ h fun _ z => nomatch z))
  · exact .inl (.inr ⟨o, e _ _ h fun _ z => nomatch z⟩)
  · exact .inr h
theorem sqt_grows {K : PySem.W.Frag} {H H' : Hp} {a : Addr} {xs : List V} (e : LamX.ExtN H H') (h : SqT K H a xs) : SqT K H' a xs := by
  rcases h with (h | ⟨o, h⟩) | h
  · exact .inl (.inl (e _ _ h fun _ z => nomatch z))
  · exact .inl (.inr ⟨o, e _ _ h fun _ z => nomatch z⟩)
  · exact .inr h
/-- a key lambda: its tuple's item j -/
theorem key_item {P : Program} {w : World} {K : PySem.W.Frag} {mg : Str → Option Value} {base : Heap} {Z : LF} {f : Addr} {H : Hp} {j : Nat} {x : Str} (l : LamAt H f Z) (S : NScope [x] [x] [] Z.F.scope) (hcl : Z.F.cl = []) (hb : ∀ (pm ctv u : Value), bindArgs (Z.fd pm ctv) ⟨[u], []⟩ = pure [(x, u)])
    (body : ∀ (A : Around) (outer : List Env) (s : Shared), PE (lcx CX0 P w K mg base [x] Z f A outer s H E0) Z.e (tOp (rIxT K) (tVar 0) (tC (.int (j : Int)))))
    {A : Around} {outer : List Env} {s : Shared} {v : V} {n : Int} {u : Value} (hr : Room 1 A) (e0 : Env0 P w K mg base A outer s H) (hv : ∃ t ws, v = .ref t ∧ H t = some (.tup ws) ∧ ws[j]? = some (.int n)) (ru : RelV v u) :
    codeAny (model P w) A (.call (.ref f) ⟨[u], []⟩) (CR CX0 outer P w H s (fun r H' => r = .int n ∧ H' = H) E0) s := by
  obtain ⟨pm, ctv, ho⟩ := lamO_at e0.hok l.o
  obtain ⟨t, ws, rfl, ht, hw⟩ := hv
  have C : CellsAt Z.F.cl [] [] s.heap H := by
    rw [hcl]
    exact ⟨rfl, fun _ _ e => (nomatch e), fun _ _ _ e => (nomatch e), fun i y e => (nomatch e)⟩
  refine lam_call (ps := [x]) (us := [u]) (vs := [.ref t]) S hr e0 ho (codeO_at e0.hok l.c) (.of_eq (hb pm ctv u)) rfl C (.cons ru .nil) (fun _ => body A outer s) ?_
  exact ⟨_, rfl, t, ws, _, .int n, rfl, rfl, SqT.of ht, atI_nat hw, rfl, rfl⟩
section
variable {P : Program} {w : World} {K : PySem.W.Frag} {mg : Str → Option Value} {base : Heap}
def spBottom (K : PySem.W.Frag) (T : List (Addr × Str)) : Sp := fun vs H Q _ => ∃ (a : Addr) (ys : List V) (kz : List Int), vs = [.ref a] ∧ (SqL K H a ys ∨ SqT K H a ys) ∧ kz.length = ys.length ∧
  (∀ (i : Nat) (v : V) (n : Int), ys[i]? = some v → kz[i]? = some n → ∃ t ws, v = .ref t ∧ H t = some (.tup ws) ∧ ws[1]? = some (.int n)) ∧ LamX.Tabs T H ∧
  ∀ p H', Grows T H H' → H' p = some (.lst (sortV kz ys)) → Q (.ref p) H'
theorem scBottom : FnScope ["stays"] ["stays"] (defScope sBottomUp) := ⟨rfl, rfl, rfl, by decide +kernel, rfl, by decide +kernel, by decide +kernel⟩
theorem ok_bottom {f c TP : Addr} {fd : FuncData} {T : List (Addr × Str)} (F : Shg.FunL K "bottom_up" "bottom_up" sBottomUp f c fd) (B : Shg.Blt mg) (TB : LamX.TabB base mg c TP) (hm : (TP, qBot) ∈ T) (hu : ∀ p ∈ T, p.1 = TP → p.2 = qBot) :
    FnOk P w K mg base CX0 5 f fd ["stays"] (spBottom K T) := by
  refine Shg.FunL.ok0 F scBottom (fun vs H Q E h => ?_) (fun A outer s H vs Q E hr h => ?_)
  · obtain ⟨a, ys, kz, rfl, _⟩ := h
    rfl
  · obtain ⟨a, ys, kz, rfl, ha, hl, hk, hT, k⟩ := h
    refine ⟨_, pss_one (ps_ret (pe_callBK (cr_sortedLam (k := 1) hr) (by rfl) B.sorted (by decide +kernel) (pa_cons (pv 0) pa_nil) (pk_cons (pe_lam TB rfl hm hu (Shg.free_by (os := (defScope sBottomUp).names) (by decide +kernel))) pk_nil))), ?_⟩
    refine ⟨_, rfl, hT, fun f0 c0 H1 G1 n0 l0 => ⟨a, f0, _, ys, kz, rfl, rfl, ha.imp (sql_grows G1.ext) (sqt_grows G1.ext), l0, hl, fun A' outer' s' i v n u hr' e0 hv hn ru => ?_, fun p hp => ?_⟩⟩
    · obtain ⟨t, ws, e, ht, hw⟩ := hk i v n hv hn
      exact key_item (j := 1) l0 (nscope_by (sc := Shg.scL [("stay", .local)]) (by decide +kernel)) rfl (fun _ _ _ => rfl) (fun A outer s => pe_ix ix_tup (pv 0) pe_int (fun _ _ => rfl)) hr' e0 ⟨t, ws, e, G1.ext _ _ ht (fun _ z => nomatch z), hw⟩ ru
    · exact k p _ (G1.trans (Grows.upd hp)) upd_same
end
end Sh1
/-! bottom_up: told in P2b0, which a law without parties can use too. -/
set_option Elab.async false
set_option linter.all false
set_option maxRecDepth 100000
set_option maxHeartbeats 4000000
namespace Sh1
open PySem L2 Sho NdefX Shg
theorem Grows.of {T : List (Addr × Str)} {H H' : Hp} (s : Same H H') : Grows T H H' := ⟨LamX.ExtN.of s, fun t => LamX.Tabs.ext t s⟩
/-- paired in another order: what a list of pairs says -/
theorem zip_paired {α β : Type} {R : α → β → Prop} {as : List α} {bs : List β} (h : PySem.Paired R as bs) : ∀ q ∈ as.zip bs, R q.1 q.2 := by
  induction h with
  | nil => intro q hq; cases hq
  | cons x r ih =>
    intro q hq
    rcases List.mem_cons.mp hq with rfl | hq
    · exact x
    · exact ih q hq
theorem paired_of {α β : Type} {R : α → β → Prop} : ∀ {l : List (α × β)}, (∀ q ∈ l, R q.1 q.2) → PySem.Paired R (l.map (·.1)) (l.map (·.2))
  | [], _ => .nil
  | q :: l, h => .cons (h q List.mem_cons_self) (paired_of fun x hx => h x (List.mem_cons_of_mem _ hx))
theorem insK_mem {α : Type} {p : Int × α} : ∀ {l : List (Int × α)} {q : Int × α}, q ∈ insK p l ↔ q = p ∨ q ∈ l
  | [], q => by simp [insK]
  | r :: l, q => by
    unfold insK
    split
    · simp
    · rw [List.mem_cons, insK_mem]
      simp only [List.mem_cons]
      constructor
      · rintro (h | h | h)
        · exact .inr (.inl h)
        · exact .inl h
        · exact .inr (.inr h)
      · rintro (h | h | h)
        · exact .inr (.inl h)
        · exact .inl h
        · exact .inr (.inr h)
theorem sortK_mem {α : Type} : ∀ {l : List (Int × α)} {q : Int × α}, q ∈ sortK l ↔ q ∈ l
  | [], q => by simp [sortK]
  | r :: l, q => by
    unfold sortK
    rw [insK_mem, sortK_mem, List.mem_cons]
theorem insK_length {α : Type} {p : Int × α} : ∀ {l : List (Int × α)}, (insK p l).length = l.length + 1
  | [] => rfl
  | r :: l => by
    unfold insK
    split
    · rfl
    · rw [List.length_cons, insK_length, List.length_cons]
theorem sortK_length {α : Type} : ∀ {l : List (Int × α)}, (sortK l).length = l.length
  | [] => rfl
  | r :: l => by
    unfold sortK
    rw [insK_length, sortK_length, List.length_cons]
/-- rows in the order of coming -/
def bot (rs : List Rw) : List Rw := sortV (rs.map Rw.come) rs
def RwsV (H : Hp) (ws : List V) (rs : List Rw) : Prop := PySem.Paired (RwAt H) ws rs
theorem RwsV.ext {H H' : Hp} (e : LamX.ExtN H H') {ws : List V} {rs : List Rw} (h : RwsV H ws rs) : RwsV H' ws rs := pair_mono (fun _ _ k => k.ext e) h
theorem zip_self_snd {α β : Type} : ∀ {as : List α} {bs : List β}, as.length = bs.length → (as.zip bs).map (·.2) = bs ∧ (as.zip bs).map (·.1) = as
  | [], [], _ => ⟨rfl, rfl⟩
  | [], _ :: _, h => by simp at h
  | _ :: _, [], h => by simp at h
  | a :: as, b :: bs, h => by
    obtain ⟨h1, h2⟩ := zip_self_snd (as := as) (bs := bs) (by simpa using h)
    exact ⟨by rw [List.zip_cons_cons, List.map_cons, h1], by rw [List.zip_cons_cons, List.map_cons, h2]⟩
theorem bot_paired {H : Hp} {ws : List V} {rs : List Rw} (h : RwsV H ws rs) : RwsV H (sortV (rs.map Rw.come) ws) (bot rs) := by
  have hl := pair_len h
  obtain ⟨e2, e1⟩ := zip_self_snd hl
  have a : sortV (rs.map Rw.come) ws = (sortV (rs.map Rw.come) (ws.zip rs)).map (·.1) := by
    rw [← sortV_map, e1]
  have b : bot rs = (sortV (rs.map Rw.come) (ws.zip rs)).map (·.2) := by
    unfold bot
    rw [← sortV_map, e2]
  rw [a, b]
  refine paired_of fun q hq => ?_
  unfold sortV at hq
  obtain ⟨x, hx, rfl⟩ := List.mem_map.mp hq
  have := sortK_mem.mp hx
  exact zip_paired h _ (List.of_mem_zip this).2
theorem bot_mem {rs : List Rw} {r : Rw} : r ∈ bot rs ↔ r ∈ rs := by
  unfold bot sortV
  constructor
  · intro h
    obtain ⟨x, hx, rfl⟩ := List.mem_map.mp h
    exact (List.of_mem_zip (sortK_mem.mp hx)).2
  · intro h
    refine List.mem_map.mpr ⟨(r.come, r), sortK_mem.mpr ?_, rfl⟩
    induction rs with
    | nil => cases h
    | cons x rs ih =>
      rw [List.map_cons, List.zip_cons_cons]
      rcases List.mem_cons.mp h with rfl | h
      · exact List.mem_cons_self
      · exact List.mem_cons_of_mem _ (ih h)
theorem bot_length {rs : List Rw} : (bot rs).length = rs.length := by
  unfold bot sortV
  rw [List.length_map, sortK_length, List.length_zip, List.length_map]
  exact Nat.min_self _
/-- those that lie higher than the first x -/
def above (x : Rw) : List Rw → List Rw
  | [] => []
  | r :: rs => if r = x then rs else above x rs
theorem above_ix {x : Rw} : ∀ {l : List Rw}, x ∈ l → ∃ j, l[j]? = some x ∧ (∀ m, m < j → ∀ z, l[m]? = some z → z ≠ x) ∧ l.drop (j + 1) = above x l
  | [], h => nomatch h
  | r :: l, h => by
    by_cases e : r = x
    · refine ⟨0, by rw [e]; rfl, fun m hm => absurd hm (Nat.not_lt_zero _), ?_⟩
      unfold above
      rw [if_pos e]
      rfl
    · obtain ⟨j, h1, h2, h3⟩ := above_ix (x := x) (l := l) ((List.mem_cons.mp h).resolve_left fun z => e z.symm)
      refine ⟨j + 1, by simpa using h1, fun m hm z hz => ?_, ?_⟩
      · cases m with
        | zero =>
          simp at hz
          rw [← hz]
          exact e
        | succ m => exact h2 m (by omega) z (by simpa using hz)
      · unfold above
        rw [if_neg e, ← h3]
        rfl
def crosses (x r : Rw) : Bool := decide (r.come < x.go) && decide (x.go < r.go)
/-- who is lifted when x goes, from the top -/
def lifted (rs : List Rw) (x : Rw) : List Rw := (above x (bot rs)).reverse.filter (crosses x)
theorem paired_drop {α β : Type} {R : α → β → Prop} : ∀ (n : Nat) {as : List α} {bs : List β}, PySem.Paired R as bs → PySem.Paired R (as.drop n) (bs.drop n)
  | 0, _, _, h => h
  | _ + 1, _, _, .nil => .nil
  | n + 1, _, _, .cons _ r => paired_drop n r
theorem paired_rev {α β : Type} {R : α → β → Prop} : ∀ {as : List α} {bs : List β}, PySem.Paired R as bs → PySem.Paired R as.reverse bs.reverse
  | _, _, .nil => .nil
  | _, _, .cons x r => by
    rw [List.reverse_cons, List.reverse_cons]
    exact pair_app (paired_rev r) (.cons x .nil)
theorem paired_filter {α β : Type} {R : α → β → Prop} (p : β → Bool) : ∀ {ws : List α} {xs : List β}, PySem.Paired R ws xs → PySem.Paired R ((ws.zip xs).filterMap fun q => if p q.2 = true then some q.1 else none) (xs.filter p)
  | _, _, .nil => .nil
  | _, _, .cons (a := v) (b := x) h r => by
    have ih := paired_filter p r
    rw [List.zip_cons_cons, List.filterMap_cons, List.filter_cons]
    by_cases e : p x = true
    · simp only [e, if_true]
      exact .cons h ih
    · simp only [e, if_false]
      exact ih
theorem dp_rw {K : PySem.W.Frag} {H : Hp} {v : V} {r : Rw} (h : RwAt H v r) : Dp K H v (rwD r) := by
  obtain ⟨t, rfl, ht⟩ := h
  refine .tup (SqT.of ht) (.cons (.str _) (.cons (.int _) (.cons (.int _) ?_)))
  generalize r.more = l
  induction l with
  | nil => exact .nil
  | cons x l ih => exact .cons (.int _) ih
theorem dp_rws {K : PySem.W.Frag} {H : Hp} : ∀ {ws : List V} {rs : List Rw}, RwsV H ws rs → DpAll K H ws (rs.map rwD)
  | [], [], _ => .nil
  | _ :: _, _ :: _, h => by
    cases h with
    | cons x r => exact .cons (dp_rw x) (dp_rws r)
  | [], _ :: _, h => nomatch h
  | _ :: _, [], h => nomatch h
section
variable {P : Program} {w : World} {K : PySem.W.Frag} {mg : Str → Option Value} {base : Heap}
theorem units65 {k : Nat} {A : Around} (r : Room k A) : A.units + 65 < cLine := by have := r.un; omega
def spLifted (K : PySem.W.Frag) (T : List (Addr × Str)) : Sp := fun vs H Q _ => ∃ (a : Addr) (v : V) (ws : List V) (rs : List Rw) (x : Rw), vs = [.ref a, v] ∧ (SqL K H a ws ∨ SqT K H a ws) ∧ RwsV H ws rs ∧ RwAt H v x ∧ x ∈ rs ∧ (∀ r ∈ rs, OkRw r) ∧ rs.length ≤ 1000 ∧ LamX.Tabs T H ∧
  ∀ p H' ys, Grows T H H' → H' p = some (.lst ys) → RwsV H' ys (lifted rs x) → Q (.ref p) H'
/-- nothing but a table was tracked there -/
def NewN (H : Hp) (p : Addr) : Prop := ∀ o, H p = some o → ∃ ps, o = .tbl ps
def spLiftedN (K : PySem.W.Frag) (T : List (Addr × Str)) : Sp := fun vs H Q _ => ∃ (a : Addr) (v : V) (ws : List V) (rs : List Rw) (x : Rw), vs = [.ref a, v] ∧ (SqL K H a ws ∨ SqT K H a ws) ∧ RwsV H ws rs ∧ RwAt H v x ∧ x ∈ rs ∧ (∀ r ∈ rs, OkRw r) ∧ rs.length ≤ 1000 ∧ LamX.Tabs T H ∧
  ∀ p H' ys, NewN H p → Grows T H H' → H' p = some (.lst ys) → RwsV H' ys (lifted rs x) → Q (.ref p) H'
theorem scLifted : FnScope ["stays", "taker", "pile", "later", "stay"] ["stays", "taker"] (defScope sLiftedFrom) := ⟨rfl, rfl, rfl, by decide +kernel, rfl, by decide +kernel, by decide +kernel⟩
theorem ok_liftedN {f fB : Addr} {fd fdB : FuncData} {T : List (Addr × Str)} (F : Fun K "lifted_from" "lifted_from" sLiftedFrom f fd) (GB : FnOk P w K mg base CX0 5 fB fdB ["stays"] (spBottom K T)) (mB : mg "bottom_up" = some (.ref fB)) (kB : PySem.W.keepIn K (.ref fB) = true) (bB : Binds K fdB ["stays"] []) :
    FnOk P w K mg base CX0 6 f fd ["stays", "taker"] (spLiftedN K T) := by
  refine F.ok scLifted (fun vs H Q E h => ?_) (fun cdv A outer s H vs Q E hr h => ?_)
  · obtain ⟨a, v, ws, rs, x, rfl, _⟩ := h
    rfl
  · obtain ⟨a, v, ws, rs, x, rfl, ha, hw, hv, hx, hok, hlen, hT, k⟩ := h
    have nd := scLifted.nd
    refine ⟨_, pss_cons (ps_set (i := 2) nd rfl (Or.inl rfl) (pe_call GB hr rfl mB kB bB .nil pass0 (pa_cons (pv 0) pa_nil)))
      (pss_cons (ps_set (i := 3) nd rfl (Or.inl rfl) (pe_slice sl_list (pv 2) (po_some (pe_op op_add (pe_bm PySem.F.plainAttrs_list PySem.F.slot_list_index PySem.F.type_list_index (mt_indexD (units65 hr)) (pv 2) (pa_cons (pv 1) pa_nil)) pe_int)) po_none))
      (pss_one (ps_ret (pe_lc (own := [("stay", 4)]) (g := gName 4) (tt := tTest (tChain (rI0 fun i j => .bl (decide (i < j))) (rI0 fun i j => .bl (decide (i < j))) (tOp (rIxT K) (tVar 4) (tC (.int 1))) (tOp (rIxT K) (tVar 1) (tC (.int 2))) (tOp (rIxT K) (tVar 4) (tC (.int 2))))) (te := tVar 4) rfl nd (pi_list (pe_revL (pv 3))) (blkOk_by (own := [("stay", 4)]) (N := ["stays", "taker", "pile", "later", "stay"]) (sc := defScope sLiftedFrom) (by decide +kernel))
        (fun _ _ _ _ _ => pg_name (i := 4) nd rfl (Or.inl rfl)) (fun _ _ _ _ _ => pts_one (pt_chain op_lt op_lt (pe_ix ix_tup (pv 4) pe_int (fun _ _ => rfl)) (pe_ix ix_tup (pv 1) pe_int (fun _ _ => rfl)) (pe_ix ix_tup (pv 4) pe_int (fun _ _ => rfl)))) (fun _ _ _ _ _ => pv 4))))), ?_⟩
    refine ⟨_, rfl, a, ws, rs.map Rw.come, rfl, ha, ?_, ?_, hT, fun pb H1 G1 e1 => ?_⟩
    · rw [List.length_map, pair_len hw]
    · intro i y n hy hn
      obtain ⟨r, hr', t, rfl, ht⟩ := pair_get hw hy
      rw [List.getElem?_map, hr'] at hn
      exact ⟨t, _, rfl, ht, congrArg (Option.map V.int) hn⟩
    · have hb := bot_paired (hw.ext G1.ext)
      have lb := pair_len hb
      have hokb : ∀ r ∈ bot rs, OkRw r := fun r hr' => hok r (bot_mem.mp hr')
      obtain ⟨j, hj1, hj2, hj3⟩ := above_ix (bot_mem.mpr hx)
      have hjlt : j < (bot rs).length := (List.getElem?_eq_some_iff.mp hj1).1
      refine ⟨_, rfl, _, rfl, .inl ⟨rfl, _, SqL.of e1⟩, _, rfl, pb, v, rwD x, (bot rs).map rwD, j, rwD x, rfl, rfl, .lst (SqL.of e1) (dp_rws hb), dp_rw (hv.ext G1.ext), shaped_rws hokb, shaped_rw (hok x hx), ?_, ?_, ?_, ?_⟩
      · rw [List.getElem?_map, hj1]
        rfl
      · rw [eqv_rw]
        exact decide_eq_true rfl
      · intro m z' hm hz
        rw [List.getElem?_map] at hz
        obtain ⟨z, hz1, rfl⟩ := Option.map_eq_some_iff.mp hz
        rw [eqv_rw]
        exact decide_eq_false (hj2 m hm z hz1)
      · refine ⟨_, _, rfl, rfl, _, rfl, pb, _, rfl, SqL.of e1, fun p2 hp2 => ?_⟩
        have ec : cutV (sortV (rs.map Rw.come) ws) (some ((j : Int) + 1)) none = (sortV (rs.map Rw.come) ws).drop (j + 1) := by
          unfold cutV
          rw [show (some ((j : Int) + 1)) = some ((j + 1 : Nat) : Int) from rfl, HT.sIx_nat, HT.sIx_none, Nat.min_eq_left (by omega)]
          exact List.take_of_length_le (by rw [List.length_drop]; exact Nat.le_refl _)
        rw [ec]
        generalize hys : (sortV (rs.map Rw.come) ws).drop (j + 1) = ys
        have s2 : Same H1 (upd H1 p2 (.lst ys)) := same_upd hp2
        have y1 : RwsV H1 ys (above x (bot rs)) := by
          rw [← hys, ← hj3]
          exact paired_drop _ hb
        have g2 : (upd H1 p2 (.lst ys)) p2 = some (.lst ys) := upd_same
        generalize upd H1 p2 (.lst ys) = H2 at s2 g2 ⊢
        refine ⟨_, rfl, p2, ys, rfl, SqL.of g2, fun p3 hp3 => ?_⟩
        have s3 : Same H2 (upd H2 p3 (.lst ys.reverse)) := same_upd hp3
        have g3 : (upd H2 p3 (.lst ys.reverse)) p3 = some (.lst ys.reverse) := upd_same
        have s4 := s2.trans s3
        generalize upd H2 p3 (.lst ys.reverse) = H3 at s3 g3 s4 ⊢
        have y3 : RwsV H3 ys.reverse (above x (bot rs)).reverse := paired_rev (y1.ext (LamX.ExtN.of s4))
        generalize hZ : (above x (bot rs)).reverse = Z at y3
        refine ⟨p3, rfl, ⟨_, SqL.of g3⟩, fun D hD => ?_⟩
        obtain ⟨tx, rfl, htx⟩ := hv.ext (G1.ext.trans (LamX.ExtN.of s4))
        have lz : ys.reverse.length = Z.length := pair_len y3
        have ly : ys.length ≤ 1000 := by
          have := pair_len y1
          rw [← hys, List.length_drop]
          have := pair_len hw
          rw [lb, bot_length]
          omega
        refine lc_gather walk_list (fun i => ((ys.reverse.zip Z)[i]?).bind fun q => if crosses x q.2 = true then some q.1 else none) hD (by rw [List.length_reverse]; exact Nat.le_trans ly (by decide)) (fun H4 s5 => SqL.of (s5 _ _ g3)) (fun i v H4 H5 hi s5 y R k1 => ?_) fun H4 s5 e4 => ?_
        · obtain ⟨rfl, e2⟩ := y
          obtain ⟨r, hr', t', rfl, ht'⟩ := pair_get y3 e2
          have k2 := k1 _ (Same.refl _)
          have ez : (ys.reverse.zip Z)[i]? = some (.ref t', r) := by
            rw [List.getElem?_zip_eq_some]
            exact ⟨e2, hr'⟩
          rw [ez] at k2
          simp only [Option.bind_some] at k2
          have t1 := SqT.of (K := K) (s5 _ _ ht')
          have t2 := SqT.of (K := K) (s5 _ _ htx)
          refine ⟨rfl, _, rfl, t', _, 1, .int r.come, rfl, rfl, t1, atI_nat (j := 1) rfl, _, rfl, tx, _, 2, .int x.go, rfl, rfl, t2, atI_nat (j := 2) rfl, _, _, rfl, rfl, _, rfl, ?_⟩
          by_cases c1 : r.come < x.go
          · rw [if_pos (decide_eq_true c1)]
            refine ⟨_, rfl, t', _, 2, .int r.go, rfl, rfl, t1, atI_nat (j := 2) rfl, _, _, rfl, rfl, ?_⟩
            by_cases c2 : x.go < r.go
            · have e : crosses x r = true := by
                unfold crosses
                rw [decide_eq_true c1, decide_eq_true c2]
                rfl
              rw [if_pos e] at k2
              exact ⟨_, rfl, ite2 (fun _ => ⟨_, rfl, k2⟩) (fun h => absurd (decide_eq_true c2) h)⟩
            · have e : crosses x r = false := by
                unfold crosses
                rw [decide_eq_true c1, decide_eq_false c2]
                rfl
              rw [if_neg (by rw [e]; exact Bool.false_ne_true)] at k2
              exact ⟨_, rfl, ite2 (fun h => absurd (of_decide_eq_true h) c2) (fun _ => k2)⟩
          · have e : crosses x r = false := by
              unfold crosses
              rw [decide_eq_false c1]
              rfl
            rw [if_neg (by rw [e]; exact Bool.false_ne_true)] at k2
            rw [if_neg (by rw [decide_eq_false c1]; exact Bool.false_ne_true)]
            exact ⟨_, rfl, iteF k2⟩
        · have ez : (ys.reverse.zip Z).length = ys.reverse.length := by
            rw [List.length_zip, lz]
            exact Nat.min_self _
          rw [← ez, gather_list] at e4
          have sv := paired_filter (crosses x) (pair_mono (fun _ _ k => RwAt.same s5 k) y3)
          rw [← hZ] at sv
          rw [← hZ] at e4
          refine k D _ _ (fun o e => Classical.byContradiction fun hn => ?_) ((G1.trans (Sh1.Grows.of s4)).trans (Sh1.Grows.of s5)) e4 sv
          have e2 := s4 _ _ (G1.ext D o e fun ps z => hn ⟨ps, z⟩)
          rw [hD] at e2
          cases e2
theorem ok_lifted {f fB : Addr} {fd fdB : FuncData} {T : List (Addr × Str)} (F : Fun K "lifted_from" "lifted_from" sLiftedFrom f fd) (GB : FnOk P w K mg base CX0 5 fB fdB ["stays"] (spBottom K T)) (mB : mg "bottom_up" = some (.ref fB)) (kB : PySem.W.keepIn K (.ref fB) = true) (bB : Binds K fdB ["stays"] []) :
    FnOk P w K mg base CX0 6 f fd ["stays", "taker"] (spLifted K T) :=
  (ok_liftedN F GB mB kB bB).imp fun vs H Q E ⟨a, v, ws, rs, x, h1, h2, h3, h4, h5, h6, h7, h8, k⟩ => ⟨a, v, ws, rs, x, h1, h2, h3, h4, h5, h6, h7, h8, fun p H' ys _ => k p H' ys⟩
end
end Sh1
set_option Elab.async false
set_option linter.all false
set_option maxRecDepth 100000
set_option maxHeartbeats 2000000
/-! bool(x), len(x), x[i], x == y of own instances by promises. -/
namespace ShB
open PySem
theorem meets_bool {prog : Program} {w : World} (v : Value) :
    MeetsIn prog w (Builtin.«bool.__new__» ⟨[.type "bool", v], []⟩) (fun A R s => wpAny (model prog w) A.in1 (truthy v) (fun b s' => R (.ok (.ret (.bool b))) s') (fun e s' => R (.error e) s') s) := by
  intro A R s h
  obtain ⟨hp, g, d, tk, os⟩ := s
  have f1 := F.conv_sub_bool
  unfold Builtin.«bool.__new__»
  repeat (any_goals (first | assumption | (with_reducible refine wpAny_mono h (fun b s' z => ?_) fun _ _ z => z) | wp_step))
  all_goals first | exact ⟨_, rfl, z⟩ | exact z | skip
theorem call_boolT {prog : Program} {w : World} {A : Around} {E : Value → Shared → Prop} {s : Shared} {v : Value} {Q : Value → Shared → Prop}
    (h : wpAny (model prog w) A.in1.in1 (truthy v) (fun b s' => Q (.bool b) s') E s) : wpAny (model prog w) A (call (.type "bool") [v]) Q E s :=
  callType_newIn F.called_bool F.newNe_bool (F.typeCall_bool_1 v) (F.newCall_bool_1 v) (fun obj => F.args_object_init_2 obj v) F.entry_bool_new (meets_bool v)
    (wpAny_mono h (fun b s' z => ⟨by rfl, z⟩) fun _ _ z => z)
end ShB

namespace Sho
open PySem PySem.Spec PyProof.Rows L2 StX
section
variable {X : Cx} {CX : CXT} {k : Nat} {f C : Addr} {sp : Sp} {E : XK}
/-- a promise, run around A (which bears the frames of X) -/
theorem run_at {A : Around} {pins : List (Addr × Obj)} {σ : L2.St} {H : Hp} {s : Shared} {Q : VK} {us : List Value} {vs : List V} (F : FnR X.prog X.w X.K X.mg X.base CX k f sp) (hr : Room k A) (e0 : Env0 X.prog X.w X.K X.mg X.base A X.stack s H) (hx : Passes CX X E)
    (I : Inv X pins σ H s) (r : Vals vs us) (h : sp vs H Q E) : wpAny (model X.prog X.w) A (call (.ref f) us) (EP X pins σ Q) X.xe s := by
  refine wpAny_call (codeAny_mono (F A X.stack s H us vs Q E hr e0 r h) fun r s' hq => ?_)
  cases r with
  | error e => exact hx pins σ H s e s' I hq
  | ok fl =>
    cases fl with
    | ret u => exact I.after hq
    | next => exact hq.elim
    | brk => exact hq.elim
    | cont => exact hq.elim
theorem inst_of {pins : List (Addr × Obj)} {σ : L2.St} {H : Hp} {s : Shared} {a : Addr} (I : Inv X pins σ H s) (h : InsAt H a C) : ∃ ox od, PySem.W.InstAt s.heap a ox C od := by
  obtain ⟨dx, fs, h⟩ := h
  obtain ⟨mA, J, _⟩ := ins_get I.hok h
  obtain ⟨od, J, _⟩ := J.look
  exact ⟨_, _, J⟩
/-- len(a), a's own __len__ -/
def rLenO (C : Addr) (sp : Sp) (E : XK) : List V → Hp → VK → Prop := fun xs H Q => ∃ a, xs = [.ref a] ∧ InsAt H a C ∧ sp [.ref a] H (fun r H' => ∃ n : Int, r = .int n ∧ 0 ≤ n ∧ n < 2 ^ 63 ∧ Q (.int n) H') E
theorem call_lenO (F : FnR X.prog X.w X.K X.mg X.base CX k f sp) (hr : Room (k + 1) X.A) (hx : Passes CX X E) (hs : PySem.W.findIn X.K (.ref C) "__len__" = some (some (.ref f))) (hf : PySem.W.isFn X.K (.ref f) = true) :
    CallR X (.builtin "len") (rLenO C sp E) := by
  rintro pins s σ H xs us Q I r ⟨a, rfl, ha, h⟩
  obtain rfl := Vals.ref1 r
  obtain ⟨ox, od, J⟩ := inst_of I ha
  obtain ⟨m, hF⟩ := I.fr
  refine PySem.W.len_K hF I.ok.mod.kin J hs hf (thn (run_at (vs := [.ref a]) F hr.in1 I.env0.in1 hx I (.cons rfl .nil) h) fun u s' q => ?_)
  obtain ⟨v, H', I', rv, n, rfl, n0, n1, q⟩ := q
  obtain ⟨t, rfl⟩ := rv
  exact ⟨⟨n0, n1⟩, .int n, H', I'.tok _, ⟨_, rfl⟩, q⟩
/-- bool(a), a's own __bool__ -/
def rBoolO (C : Addr) (sp : Sp) (E : XK) : List V → Hp → VK → Prop := fun xs H Q => ∃ a, xs = [.ref a] ∧ InsAt H a C ∧ sp [.ref a] H (fun r H' => ∃ b : Bool, r = .bl b ∧ Q (.bl b) H') E
theorem call_boolO (F : FnR X.prog X.w X.K X.mg X.base CX k f sp) (hr : Room (k + 2) X.A) (hx : Passes CX X E) (hs : PySem.W.findIn X.K (.ref C) "__bool__" = some (some (.ref f))) (hf : PySem.W.isFn X.K (.ref f) = true) :
    CallR X (.type "bool") (rBoolO C sp E) := by
  rintro pins s σ H xs us Q I r ⟨a, rfl, ha, h⟩
  obtain rfl := Vals.ref1 r
  obtain ⟨ox, od, J⟩ := inst_of I ha
  obtain ⟨m, hF⟩ := I.fr
  refine ShB.call_boolT (PySem.W.truthy_K hF I.ok.mod.kin J hs hf (thn (run_at (vs := [.ref a]) F hr.in1.in1 I.env0.in1.in1 hx I (.cons rfl .nil) h) fun u s' q => ?_))
  obtain ⟨v, H', I', rv, b, rfl, q⟩ := q
  cases rv
  exact ⟨.bl b, H', I', rfl, q⟩
/-- bool(a tuple) -/
theorem call_boolTup : CallR X (.type "bool") (fun xs H Q => ∃ (a : Addr) (zs : List V), xs = [.ref a] ∧ SqT X.K H a zs ∧ Q (.bl (!zs.isEmpty)) H) := by
  rintro pins s σ H xs us Q I r ⟨a, zs, rfl, hq, q⟩
  obtain rfl := Vals.ref1 r
  obtain ⟨its, rv, pl, hz⟩ := I.tuple hq
  have hl := line63
  have hlen := rv.length
  refine ShB.call_boolT (truthy_tuple pl (by simp only [List.size_toArray]; omega) ?_)
  exact ⟨.bl (!zs.isEmpty), H, I.tok _, by rw [isEmpty_of rv]; rfl, q⟩
/-- a[i], a's own __getitem__ -/
theorem pe_ixO {ea eb : Expr} {ta tb : TE} {pos : Pos} (F : FnR X.prog X.w X.K X.mg X.base CX k f sp) (hr : Room (k + 1) X.A) (hx : Passes CX X E) (hs : PySem.W.findIn X.K (.ref C) "__getitem__" = some (some (.ref f))) (hfn : PySem.W.fnIn X.K f = true) (hf : PySem.W.isFn X.K (.ref f) = true)
    (ha : PE X ea ta) (hb : PE X eb tb) (hsl : ∀ (a : Addr) (u : Value), subscripted eb true (.ref a) u = runValue (.builtin "lifetime.subscript" ⟨[.ref a, u], []⟩)) : PE X (.Subscript ea eb pos) (tOp (rOwnIx C sp E) ta tb) := by
  refine ⟨fun pins s σ H Q I h => ?_⟩
  refine Subscript_ (binT ha hb I h fun v u s2 x y H2 I2 rx ry q => ?_)
  obtain ⟨a, rfl, hi, h2⟩ := q
  cases rx
  obtain ⟨ox, od, J⟩ := inst_of I2 hi
  obtain ⟨m, hF⟩ := I2.fr
  exact PySem.W.sub_K hF I2.ok.mod.kin J hs hfn hf (run_at (vs := [.ref a, y]) F hr.in1 I2.env0.in1 hx I2 (.cons rfl (.cons ry .nil)) h2) (hsl a u)
/-- a == y, a's own __eq__; y of the own class, or of a built-in type -/
def TyEq (K : PySem.W.Frag) (H : Hp) (C : Addr) (y : V) : Prop := (∃ b, y = .ref b ∧ InsAt H b C) ∨ ∃ (b : Addr) (zs : List V), y = .ref b ∧ SqT K H b zs ∧ PySem.W.subIn K (.type "tuple") (.ref C) = some false
def rOwnEq (K : PySem.W.Frag) (C : Addr) (sp : Sp) (E : XK) : R2 := fun x y H Q => ∃ a, x = .ref a ∧ InsAt H a C ∧ TyEq K H C y ∧ sp [.ref a, y] H (fun r H' => ∃ b : Bool, r = .bl b ∧ Q (.bl b) H') E
theorem op_ownEq (F : FnR X.prog X.w X.K X.mg X.base CX k f sp) (hr : Room k X.A) (hx : Passes CX X E) (hs : PySem.W.findIn X.K (.ref C) "__eq__" = some (some (.ref f))) (hf : PySem.W.isFn X.K (.ref f) = true) :
    OpR X (compareOp .Eq) (rOwnEq X.K C sp E) := by
  rintro pins s σ H x y u v Q I rx ry ⟨a, rfl, ha, ht, h⟩
  cases rx
  obtain ⟨ox, od, J⟩ := inst_of I ha
  obtain ⟨m, hF⟩ := I.fr
  show wpAny (model X.prog X.w) X.A (richCompare .Eq (.ref a) v) (EP X pins σ Q) X.xe s
  have fin : ∀ (u : Value) (s' : Shared), EP X pins σ (fun r H' => ∃ b : Bool, r = .bl b ∧ Q (.bl b) H') u s' → PySem.W.CmpBack (EP X pins σ Q) u s' := fun u s' q => by
    obtain ⟨w2, H', I', rv, b, rfl, q⟩ := q
    cases rv
    exact ⟨.bl b, H', I', rfl, q⟩
  have run := run_at (vs := [.ref a, y]) F hr I.env0 hx I (.cons rfl (.cons ry .nil)) h
  rcases ht with ⟨b, rfl, hb⟩ | ⟨b, zs, rfl, hq, hsub⟩
  · cases ry
    obtain ⟨oy, od', J'⟩ := inst_of I hb
    exact PySem.W.cmp_K (op := .Eq) (tb := .ref C) hr.units0 hF I.ok.mod.kin J J'.type (by simp [PySem.W.notFirst]) hs hf (thn run fin)
  · cases ry
    obtain ⟨its, rv, ⟨o, ho, hc, _⟩, hz⟩ := I.tuple hq
    refine PySem.W.cmp_K (op := .Eq) (tb := .type "tuple") hr.units0 hF I.ok.mod.kin J (fun A Q E s k q => wpAny_typeOf_ref (k _ _ ho) (by rw [hc]; exact q)) ?_ hs hf (thn run fin)
    unfold PySem.W.notFirst
    rw [hsub]
    simp
end
end Sho
set_option Elab.async false
set_option linter.all false
set_option maxRecDepth 100000
set_option maxHeartbeats 2000000
namespace Sh1
open PySem L2 Sho NdefX
section
variable {P : Program} {w : World} {K : PySem.W.Frag} {mg : Str → Option Value} {base : Heap}
theorem no_meth (a : V) {m : Str} (h : (m == ("_stays" : Str)) = false) : List.lookup m [(("_stays" : Str), a)] = none := by simp [List.lookup, h]
/-! ### _stay_of -/
def guest (xs : List Stay) (z : Str) : Option Stay := xs.find? fun x => x.1 == z
def spStayOf (C CU : Addr) : Sp := fun vs H Q E => ∃ (p : Addr) (z : Str) (xs : List Stay), vs = [.ref p, .str z] ∧ PartyAt C H p xs ∧ z.length ≤ 100000 ∧
  (∀ x t, guest xs z = some x → H t = some (.tup [.str x.1, .int x.2.1, .int x.2.2]) → Q (.ref t) H) ∧
  (guest xs z = none → ∀ (H' : Hp) (d : Addr), Same H H' → H d = none → H' d = some (.xd [(("name" : Str), .str z)]) → E (.ref CU) (some d) H')
theorem scPStayOf : FnScope ["self", "name", "stay"] ["self", "name"] (defScope sPStayOf) := ⟨rfl, rfl, rfl, by decide +kernel, rfl, by decide +kernel, by decide +kernel⟩
theorem dec_str {a b : Str} : decide (V.str a = V.str b) = (a == b) := by
  rw [Bool.eq_iff_iff]
  simp
theorem ok_stayOf {f C CU : Addr} {fd : FuncData} (F : Fun K "_stay_of" "Party._stay_of" sPStayOf f fd) (PC : PartyC K mg C) (EC : ErrC P K mg "UnknownGuest" "name" nfUnk CU) : FnOk P w K mg base (L2.CX P w) 3 f fd ["self", "name"] (spStayOf C CU) := by
  refine F.okX scPStayOf (fun vs H Q E h => ?_) (fun cdv A outer s H vs Q E hr h => ?_)
  · obtain ⟨p, z, xs, rfl, _⟩ := h
    rfl
  · obtain ⟨p, z, xs, rfl, ⟨dx, a, ws, h1, h2, h3⟩, hz, kOk, kBad⟩ := h
    have nd := scPStayOf.nd
    refine ⟨_, pss_cons (ps_for (passes_of rfl) rfl (pi_tup (pe_fld (pv 0) rfl)) (pg_name (i := 2) nd rfl (Or.inl rfl))
        (pss_one (ps_if (pt_cmpR op_eq (pe_ix ix_tup (pv 2) pe_int (fun _ _ => rfl)) (pv 1) (nomark _)) (pss_one (ps_ret (pv 2))) pss_nil)))
      (pss_one (ps_raise rfl (takes_of rfl rfl rfl rfl) (pmk_unk (k := 0) EC (hr.mono (by decide)) passL (by rfl) (pk_cons (pv 1) pk_nil) rfl rfl rfl))), ?_⟩
    refine ⟨_, rfl, p, C, dx, _, .ref a, rfl, h1, PC.cl, PC.nS, lk_stays _, a, rfl, ⟨_, SqT.of h2⟩, for_it walk_tup (fun i σ H2 => ∃ o, σ = [some (.ref p), some (.str z), o] ∧ H2 = H ∧ guest (xs.take i) z = none)
      ⟨none, rfl, rfl, rfl⟩ (fun i σ H2 _ ⟨_, _, e, _⟩ => by rw [e]; exact SqT.of h2) ?_ ?_⟩
    · rintro i y σ H2 H3 hi ⟨o, rfl, rfl, hb⟩ ⟨rfl, e2⟩
      obtain ⟨x, hx, t, rfl, ht⟩ := pair_get h3 e2
      refine ⟨_, rfl, t, _, 0, .str x.1, rfl, rfl, SqT.of ht, atI_nat (j := 0) rfl, _, rfl, rfl, _, rfl, ?_⟩
      rw [dec_str]
      have take1 : xs.take (i + 1) = xs.take i ++ [x] := by rw [List.take_add_one, hx]; rfl
      cases e : (x.1 == z) with
      | true =>
        refine iteT ⟨_, rfl, kOk x t ?_ ht⟩
        have q : guest (xs.take (i + 1)) z = some x := by
          unfold guest at hb ⊢
          rw [take1, List.find?_append, hb]
          simp [e]
        have q2 : xs = xs.take (i + 1) ++ xs.drop (i + 1) := (List.take_append_drop _ _).symm
        unfold guest at q ⊢
        rw [q2, List.find?_append, q]
        rfl
      | false =>
        refine iteF ⟨_, rfl, rfl, ?_⟩
        unfold guest at hb ⊢
        rw [take1, List.find?_append, hb]
        simp [e]
    · rintro σ H2 ⟨o, rfl, rfl, hb⟩
      rw [pair_len h3, List.take_length] at hb
      refine ⟨_, rfl, _, rfl, .inl ⟨z, rfl, hz⟩, fun d hd => kBad hb _ d (fun b o e => ?_) hd upd_same⟩
      rw [upd_ne (ne_of_none e hd)]
      exact e
/-! ### __len__, __bool__, __contains__, __getitem__ -/
def spPLen (C : Addr) : Sp := fun vs H Q _ => ∃ (p : Addr) (xs : List Stay), vs = [.ref p] ∧ PartyAt C H p xs ∧ Q (.int (xs.length : Nat)) H
theorem scPLen : FnScope ["self"] ["self"] (defScope sPLen) := ⟨rfl, rfl, rfl, by decide +kernel, rfl, by decide +kernel, by decide +kernel⟩
theorem ok_plen {f C : Addr} {fd : FuncData} (F : Fun K "__len__" "Party.__len__" sPLen f fd) (B : Blt mg) (PC : PartyC K mg C) : FnOk P w K mg base CX0 1 f fd ["self"] (spPLen C) := by
  refine F.ok scPLen (fun vs H Q E h => ?_) (fun cdv A outer s H vs Q E hr h => ?_)
  · obtain ⟨p, xs, rfl, _⟩ := h
    rfl
  · obtain ⟨p, xs, rfl, ⟨dx, a, ws, h1, h2, h3⟩, k⟩ := h
    refine ⟨_, pss_one (ps_ret (pe_callB call_len_seq (by rfl) B.len PySem.boot_len (pa_cons (pe_fld (pv 0) rfl) pa_nil))), ?_⟩
    refine ⟨_, rfl, p, C, dx, _, .ref a, rfl, h1, PC.cl, PC.nS, lk_stays _, a, ws, rfl, .inr (SqT.of h2), ?_⟩
    rw [pair_len h3]
    exact k
def spPBool (C : Addr) : Sp := fun vs H Q _ => ∃ (p : Addr) (xs : List Stay), vs = [.ref p] ∧ PartyAt C H p xs ∧ Q (.bl (!xs.isEmpty)) H
theorem scPBool : FnScope ["self"] ["self"] (defScope sPBool) := ⟨rfl, rfl, rfl, by decide +kernel, rfl, by decide +kernel, by decide +kernel⟩
theorem ok_pbool {f C : Addr} {fd : FuncData} (F : Fun K "__bool__" "Party.__bool__" sPBool f fd) (B : Blt mg) (PC : PartyC K mg C) : FnOk P w K mg base CX0 1 f fd ["self"] (spPBool C) := by
  refine F.ok scPBool (fun vs H Q E h => ?_) (fun cdv A outer s H vs Q E hr h => ?_)
  · obtain ⟨p, xs, rfl, _⟩ := h
    rfl
  · obtain ⟨p, xs, rfl, ⟨dx, a, ws, h1, h2, h3⟩, k⟩ := h
    refine ⟨_, pss_one (ps_ret (pe_callTy call_boolTup (by rfl) B.bool (by decide +kernel) (pa_cons (pe_fld (pv 0) rfl) pa_nil))), ?_⟩
    refine ⟨_, rfl, p, C, dx, _, .ref a, rfl, h1, PC.cl, PC.nS, lk_stays _, a, ws, rfl, SqT.of h2, ?_⟩
    have e : ws.isEmpty = xs.isEmpty := by
      have := pair_len h3
      cases ws <;> cases xs <;> simp at this <;> rfl
    rw [e]
    exact k
def named (xs : List Stay) (z : Str) : Bool := xs.any fun x => x.1 == z
def spPIn (C : Addr) : Sp := fun vs H Q _ => ∃ (p : Addr) (z : Str) (xs : List Stay), vs = [.ref p, .str z] ∧ PartyAt C H p xs ∧ xs.length ≤ sizeLine ∧ ∀ H', Same H H' → Q (.bl (named xs z)) H'
theorem scPIn : FnScope ["self", "name"] ["self", "name"] (defScope sPIn) := ⟨rfl, rfl, rfl, by decide +kernel, rfl, by decide +kernel, by decide +kernel⟩
theorem ok_pin {f C fN pN : Addr} {fd fdN : FuncData} (F : Fun K "__contains__" "Party.__contains__" sPIn f fd) (PC : PartyC K mg C) (GN : FnOk P w K mg base CX0 1 fN fdN ["self"] (spPNames C)) (hN : PropOf K C "names" pN fN) (bN : Binds K fdN ["self"] []) :
    FnOk P w K mg base CX0 3 f fd ["self", "name"] (spPIn C) := by
  refine F.ok scPIn (fun vs H Q E h => ?_) (fun cdv A outer s H vs Q E hr h => ?_)
  · obtain ⟨p, z, xs, rfl, _⟩ := h
    rfl
  · obtain ⟨p, z, xs, rfl, PA, hz, k⟩ := h
    refine ⟨_, pss_one (ps_ret (pe_cmpR op_in_seq (pv 1) (pe_prop (pv 0) PC.cl hN GN hr bN .nil pass0 rfl) rfl)), ?_⟩
    obtain ⟨dx, a, ws, h1, h2, h3⟩ := id PA
    refine ⟨_, rfl, _, rfl, p, dx, _, rfl, h1, p, xs, rfl, PA, hz, fun H' t s' nt e => ?_⟩
    refine ⟨t, _, rfl, .inr (SqT.of e), rfl, ?_, ?_⟩
    · have := flat_strs (xs.map fun x => x.1)
      rw [List.map_map] at this
      exact this
    · have e2 : inV (.str z) (xs.map fun x => V.str x.1) = named xs z := by
        have := inV_strs z (xs.map fun x => x.1)
        rw [List.map_map, List.any_map] at this
        exact this
      rw [if_neg Bool.false_ne_true, e2]
      exact k _ s'
def spPIx (C CU : Addr) : Sp := fun vs H Q E => ∃ (p : Addr) (z : Str) (xs : List Stay), vs = [.ref p, .str z] ∧ PartyAt C H p xs ∧ z.length ≤ 100000 ∧
  (∀ x, guest xs z = some x → ∀ H' t, Same H H' → H t = none → H' t = some (.tup [.int x.2.1, .int x.2.2]) → Q (.ref t) H') ∧
  (guest xs z = none → ∀ (H' : Hp) (d : Addr), Same H H' → H d = none → H' d = some (.xd [(("name" : Str), .str z)]) → E (.ref CU) (some d) H')
theorem scPIx : FnScope ["self", "name"] ["self", "name"] (defScope sPIx) := ⟨rfl, rfl, rfl, by decide +kernel, rfl, by decide +kernel, by decide +kernel⟩
theorem guest_at {C : Addr} {H : Hp} {p : Addr} {xs : List Stay} {z : Str} (h : PartyAt C H p xs) : ∀ {x : Stay}, guest xs z = some x → ∃ t, H t = some (.tup [.str x.1, .int x.2.1, .int x.2.2]) := by
  obtain ⟨dx, a, ws, _, _, h3⟩ := h
  intro x hx
  have key : ∀ {ws : List V} {xs : List Stay}, StaysV H ws xs → x ∈ xs → ∃ t, H t = some (.tup [.str x.1, .int x.2.1, .int x.2.2]) := by
    intro ws xs r
    induction r with
    | nil => intro hm; cases hm
    | cons h r ih =>
      intro hm
      rcases List.mem_cons.mp hm with rfl | hm
      · obtain ⟨t, _, ht⟩ := h
        exact ⟨t, ht⟩
      · exact ih hm
  exact key h3 (List.mem_of_find?_eq_some hx)
theorem ok_pix {f C CU fS : Addr} {fd fdS : FuncData} (F : Fun K "__getitem__" "Party.__getitem__" sPIx f fd) (PC : PartyC K mg C) (GS : FnOk P w K mg base (L2.CX P w) 3 fS fdS ["self", "name"] (spStayOf C CU)) (mS : Meth K C "_stay_of" fS) (bS : Binds K fdS ["self", "name"] []) :
    FnOk P w K mg base (L2.CX P w) 4 f fd ["self", "name"] (spPIx C CU) := by
  refine F.okX scPIx (fun vs H Q E h => ?_) (fun cdv A outer s H vs Q E hr h => ?_)
  · obtain ⟨p, z, xs, rfl, _⟩ := h
    rfl
  · obtain ⟨p, z, xs, rfl, PA, hz, kOk, kBad⟩ := h
    refine ⟨_, pss_one (ps_ret (pe_slice sl_tup (pe_meth (pv 0) PC.cl mS GS hr bS .nil (passes_call (takes_of rfl rfl rfl rfl) fun _ _ _ _ z => z) (pa_cons (pv 1) pa_nil)) (po_some pe_int) po_none)), ?_⟩
    obtain ⟨dx, a, ws, h1, h2, h3⟩ := id PA
    refine ⟨_, rfl, p, dx, _, rfl, h1, no_meth _ (by decide +kernel), _, rfl, p, z, xs, rfl, PA, hz, fun x t hx ht => ?_, kBad⟩
    refine ⟨1, rfl, t, _, rfl, SqT.of ht, ?_, fun q hq => ?_⟩
    · exact fun h => absurd h.1 (by show ¬ HT.sIx 3 0 (some 1) = 0; decide +kernel)
    · refine kOk x hx _ q (fun b o e => ?_) hq ?_
      · rw [upd_ne (ne_of_none e hq)]
        exact e
      · rw [upd_same]
        rfl
end
end Sh1
set_option Elab.async false
set_option linter.all false
/-! What is asked of an own error class without an own __init__. -/
namespace Sho
open PySem L2
structure ErrO (K : PySem.W.Frag) (mg : Str → Option Value) (x : Str) (C : Addr) : Prop where
  ex : PySem.W.excIn K C [.type "ValueError", .type "Exception", .type "BaseException", .type "object"] "ValueError.__new__" = true
  gm : mg x = some (.ref C)
  kp : PySem.W.keepIn K (.ref C) = true
  be : PySem.W.subIn K (.ref C) (.type "BaseException") = some true
  ty : PySem.W.typeIn K (.ref C) = some (.type "type")
  exm : PySem.W.exmOne K (.ref C) (.ref C) = some true
theorem cat_le {a b : Str} {n m : Nat} (ha : a.length ≤ n) (hb : b.length ≤ m) : (a ++ b).length ≤ n + m := by
  rw [PySem.Str.length_append]
  omega
end Sho
set_option Elab.async false
set_option linter.all false
set_option maxRecDepth 100000
set_option maxHeartbeats 4000000
/-! Party.__call__. -/
namespace Sh1
open PySem L2 Sho NdefX Shg
def rw3 (x : Stay) : Rw := ⟨x.1, x.2.1, x.2.2, []⟩
theorem above_len (x : Rw) : ∀ l : List Rw, (above x l).length ≤ l.length
  | [] => Nat.le_refl _
  | y :: l => by
    unfold above
    split
    · simp
    · exact Nat.le_trans (above_len x l) (by simp)
theorem lifted_len (rs : List Rw) (x : Rw) : (lifted rs x).length ≤ rs.length := by
  unfold lifted
  refine Nat.le_trans (List.length_filter_le ..) ?_
  rw [List.length_reverse, ← bot_length (rs := rs)]
  exact above_len x _
theorem rws_of {H : Hp} : ∀ {ws : List V} {xs : List Stay}, StaysV H ws xs → RwsV H ws (xs.map rw3)
  | _, _, .nil => .nil
  | _, _, .cons h r => .cons h (rws_of r)
section
variable {P : Program} {w : World} {K : PySem.W.Frag} {mg : Str → Option Value} {base : Heap}
def spCallP (C CU : Addr) (T : List (Addr × Str)) : Sp := fun vs H Q E => ∃ (p : Addr) (z : Str) (xs : List Stay), vs = [.ref p, .str z] ∧ PartyAt C H p xs ∧ Short xs ∧ xs.length ≤ 100 ∧ z.length ≤ 100000 ∧ LamX.Tabs T H ∧
  (∀ x, guest xs z = some x → ∀ H', Grows T H H' → Q (.int ((lifted (xs.map rw3) (rw3 x)).length : Nat)) H') ∧
  (guest xs z = none → ∀ (H' : Hp) (d : Addr), Same H H' → H d = none → H' d = some (.xd [(("name" : Str), .str z)]) → E (.ref CU) (some d) H')
theorem scCallP : FnScope ["self", "name"] ["self", "name"] (defScope sPCall) := ⟨rfl, rfl, rfl, by decide +kernel, rfl, by decide +kernel, by decide +kernel⟩
theorem rws_ok {xs : List Stay} (hs : Short xs) : ∀ r ∈ xs.map rw3, OkRw r := fun r hr => by
  obtain ⟨x, hx, rfl⟩ := List.mem_map.mp hr
  exact (hs x hx).2
theorem ok_callP {f C CU fS fL : Addr} {fd fdS fdL : FuncData} {T : List (Addr × Str)} (F : Fun K "__call__" "Party.__call__" sPCall f fd) (B : Shg.Blt mg) (PC : PartyC K mg C)
    (GS : FnOk P w K mg base (L2.CX P w) 3 fS fdS ["self", "name"] (spStayOf C CU)) (mS : Meth K C "_stay_of" fS) (bS : Binds K fdS ["self", "name"] [])
    (GL : FnOk P w K mg base CX0 6 fL fdL ["stays", "taker"] (spLifted K T)) (mL : mg "lifted_from" = some (.ref fL)) (kL : PySem.W.keepIn K (.ref fL) = true) (bL : Binds K fdL ["stays", "taker"] []) : FnOk P w K mg base (L2.CX P w) 8 f fd ["self", "name"] (spCallP C CU T) := by
  refine F.okX scCallP (fun vs H Q E h => ?_) (fun cdv A outer s H vs Q E hr h => ?_)
  · obtain ⟨p, z, xs, rfl, _⟩ := h
    rfl
  · obtain ⟨p, z, xs, rfl, PA, hs, hl, hz, hT, kOk, kBad⟩ := h
    have pass : Passes (L2.CX P w) (cxOf (L2.CX P w) P w K mg base ["self", "name"] "Party.__call__" (defScope sPCall) f cdv A outer s H E) E := passes_call (takes_of rfl rfl rfl rfl) fun _ _ _ _ z => z
    refine ⟨_, pss_one (ps_ret (pe_callB call_len_seq (by rfl) B.len PySem.boot_len (pa_cons (pe_call GL (hr.mono (by decide)) rfl mL kL bL .nil pass0
      (pa_cons (pe_fld (pv 0) rfl) (pa_cons (pe_meth (pv 0) PC.cl mS GS (hr.mono (by decide)) bS .nil pass (pa_cons (pv 1) pa_nil)) pa_nil))) pa_nil))), ?_⟩
    obtain ⟨dx, a, ws, h1, h2, h3⟩ := id PA
    refine ⟨_, rfl, p, C, dx, _, .ref a, rfl, h1, PC.cl, PC.nS, lk_stays _, _, rfl, p, dx, _, rfl, h1, no_meth _ (by decide +kernel), _, rfl, p, z, xs, rfl, PA, hz, fun x t hx ht => ?_, kBad⟩
    refine ⟨a, .ref t, ws, xs.map rw3, rw3 x, rfl, .inr (SqT.of h2), rws_of h3, ⟨t, rfl, ht⟩, List.mem_map.mpr ⟨x, List.mem_of_find?_eq_some hx, rfl⟩, rws_ok hs, by rw [List.length_map]; omega, hT, fun pl H' ys G e r => ⟨pl, _, rfl, .inl (SqL.of e), ?_⟩⟩
    rw [pair_len r]
    exact kOk x hx H' G
end
end Sh1
set_option Elab.async false
set_option linter.all false
set_option maxRecDepth 100000
set_option maxHeartbeats 2000000
/-! `for` within the body of a generator. -/
namespace PySem
open Sem (wp)
section
variable {M : Model} {A : Around} {R : GenEnd} {Y : Protocol} {n : Nat} {s₀ : Shared} {c : Code} {fs : List Frame} {s : Shared} {env : Env}
  {K : Flow → Sem Fin} {H : Value → Sem Fin} {gd : Bool → Bool} {lv : List Value → List Value}
theorem seg_For {target iter : Expr} {body orelse : List Stmt} {pos : Pos} (hfold : ∀ x, foldedSetIterable iter env x = pure x)
    (h : wpAny M (A.over c fs) (eval iter env) (fun x s1 => wpAny M (A.over c fs) (pyIter x) (fun it s2 => ∀ p, Seg M A R Y n s₀ (.forLoop target it body orelse env) (M.den (.forLoop target it body orelse env))
      (.ret (fun r => ((match r with | .ok f => (.pure f : Sem Flow) | .error e => .raise e).onRaise fun (x : Value) => do
        if (← field x 1) == Value.none then unsupported "frame.own-activation:exception-without-traceback"
        setFlight x env.frame).wrap K H gd lv) none (gd false) (lv []) c p [] :: fs) s2) (fun x s' => Seg M A R Y n s₀ c (H x) fs s') s1) (fun x s' => Seg M A R Y n s₀ c (H x) fs s') s) :
    Seg M A R Y n s₀ c ((exec (.For target iter body orelse pos) env).wrap K H gd lv) fs s := by
  rw [exec_For]
  rw [Sem.bind_eq_wrap', Sem.wrap_wrap]
  refine seg_wrap (wpAny_standAt ?_)
  rw [Sem.bind_eq_wrap', Sem.wrap_wrap]
  refine seg_wrap (wpAny_mono h (fun x s1 h1 => ?_) fun _ _ h' => h')
  rw [Sem.bind_eq_wrap', Sem.wrap_wrap]
  refine seg_wrap ?_
  rw [hfold x]
  refine wpAny_pure ?_
  rw [Sem.bind_eq_wrap', Sem.wrap_wrap]
  refine seg_wrap (wpAny_standAt ?_)
  rw [Sem.bind_eq_wrap', Sem.wrap_wrap]
  refine seg_wrap (wpAny_holding (wpAny_mono h1 (fun it s2 h2 => ?_) fun _ _ h' => h'))
  exact seg_call h2
end
section
variable {prog : Program} {w : World} {A : Around} {R : GenEnd} {Y : Protocol} {n : Nat} {s₀ : Shared} {fs : List Frame} {s : Shared} {env : Env}
theorem seg_forLoop {target : Expr} {it : Value} {body : List Stmt}
    (h : wpAny (model prog w) (A.over (.forLoop target it body [] env) fs) (pyNext it) (fun r s1 => match r with
      | none => Seg (model prog w) A R Y n s₀ (.block [] env) (leafOf (.ok .next)) fs s1
      | some v => wpAny (model prog w) (A.over (.forLoop target it body [] env) fs) (letOwnedTupleGo target it v) (fun _ s1' => wpAny (model prog w) (A.over (.forLoop target it body [] env) fs) (assign target env v) (fun _ s2 =>
          Seg (model prog w) A R Y n s₀ (.forLoop target it body [] env) ((execs body env).wrap (fun f => match f with
            | .next | .cont => .pure (.again (.forLoop target it body [] env))
            | .brk => .pure (.done .next)
            | .ret v => .pure (.done (.ret v))) (fun e => (do noteFrame e env; theTreesLotGoes e : Sem Unit).wrap (fun _ => .raise e) .raise id id) id id) fs s2)
        (fun x s' => Seg (model prog w) A R Y n s₀ (.forLoop target it body [] env) ((do noteFrame x env; theTreesLotGoes x : Sem Unit).wrap (fun _ => .raise x) .raise id id) fs s') s1')
        (fun x s' => Seg (model prog w) A R Y n s₀ (.forLoop target it body [] env) ((do noteFrame x env; theTreesLotGoes x : Sem Unit).wrap (fun _ => .raise x) .raise id id) fs s') s1)
      (fun x s' => Seg (model prog w) A R Y n s₀ (.forLoop target it body [] env) ((do noteFrame x env; theTreesLotGoes x : Sem Unit).wrap (fun _ => .raise x) .raise id id) fs s') s) :
    Seg (model prog w) A R Y n s₀ (.forLoop target it body [] env) ((model prog w).den (.forLoop target it body [] env)) fs s := by
  show Seg _ A R Y n s₀ _ ((forTurn target it body [] env).onRaise (fun x => do noteFrame x env; theTreesLotGoes x)) fs s
  unfold forTurn
  have ce : ∀ e : Value, (do noteFrame e env; theTreesLotGoes e : Sem Unit).bind (fun _ => (.raise e : Sem Fin)) = (do noteFrame e env; theTreesLotGoes e : Sem Unit).wrap (fun _ => .raise e) .raise id id := fun e => Sem.bind_eq_wrap _ _
  rw [Sem.onRaise_eq_wrap, Sem.bind_eq_wrap', Sem.wrap_wrap]
  refine seg_wrap (wpAny_standAt ?_)
  rw [Sem.bind_eq_wrap', Sem.wrap_wrap]
  refine seg_wrap (wpAny_onRaise (wpAny_mono h (fun r s1 h1 => ?_) fun x s' hx => wpAny_standAt ?_))
  · cases r with
    | none => exact seg_again rfl h1
    | some v =>
      dsimp only
      rw [Sem.bind_eq_wrap', Sem.wrap_wrap]
      refine seg_wrap (wpAny_mono h1 (fun _ s1' h1' => ?_) fun x s' hx => ?_)
      · rw [Sem.bind_eq_wrap', Sem.wrap_wrap]
        refine seg_wrap (wpAny_mono h1' (fun _ s2 h2 => ?_) fun x s' hx => ?_)
        · rw [Sem.bind_eq_wrap', Sem.wrap_wrap]
          rw [Sem.wrap_congr (execs body env) _ _ (K' := fun f => match f with
            | .next | .cont => .pure (.again (.forLoop target it body [] env))
            | .brk => .pure (.done .next)
            | .ret v => .pure (.done (.ret v))) (H' := (fun e => (do noteFrame e env; theTreesLotGoes e : Sem Unit).wrap (fun _ => .raise e) .raise id id))
            (fun f => by cases f <;> rfl) (fun e => by exact ce e)]
          exact h2
        · show Seg _ _ _ _ _ _ _ ((do noteFrame x env; theTreesLotGoes x : Sem Unit).bind (fun _ => (.raise x : Sem Fin))) _ _
          rw [ce]
          exact hx
      · show Seg _ _ _ _ _ _ _ ((do noteFrame x env; theTreesLotGoes x : Sem Unit).bind (fun _ => (.raise x : Sem Fin))) _ _
        rw [ce]
        exact hx
  · show Seg _ _ _ _ _ _ _ ((do noteFrame x env; theTreesLotGoes x : Sem Unit).bind (fun _ => (.raise x : Sem Fin))) _ _
    rw [ce]
    exact hx
end
end PySem
namespace L2
open PySem PySem.Spec PyProof.Rows
section
variable {X : Cx} {tg : Expr}
def tGFor (wi : TI) (g : TG) (tb : TGn) : TGn := fun D ys σ H => wi σ H fun J H1 => ∃ W : Nat → Nat → List V → St → Hp → Prop, (∃ m, W 0 m ys σ H1) ∧ ∀ i m ys σ H, W i m ys σ H →
  (J.stop i H ∧ D.nx ys σ H) ∨ (J.go i H ∧ ∃ N : List V → St → Hp → Prop, (∀ ys' σ' H', N ys' σ' H' → ∃ m', m' < m ∧ W (i + 1) m' ys' σ' H') ∧ ∀ x H', J.yld i H x H' → g x σ H' fun σ2 H2 => tb { D with nx := N, ct := N, bk := D.nx } ys σ2 H2)
/-- for within the body of a generator -/
theorem gs_for {iter : Expr} {body : List Stmt} {wi : TI} {g : TG} {tb : TGn} {pos : Pos} (hp : PassesOwn (model X.prog X.w) X.A X.env X.xe) (hc : X.calm = true) (hi : PI X tg iter wi) (hg : PG X tg g) (hb : GSs X body tb)
    (hs : ∀ x, foldedSetIterable iter X.env x = pure x := by intro _; rfl) : GS X (.For tg iter body [] pos) (tGFor wi g tb) := by
  refine ⟨fun A S ip R n ys s₀ c fs K Jx gd lv s σ H D gc hn k hI ht => ?_⟩
  obtain ⟨acc, cc, r, I⟩ := hI
  refine seg_For hs ?_
  rw [gc.over]
  refine wpAny_mono (hi.run _ s σ H _ I ht) (fun v s1 h1 => wpAny_mono h1 (fun itv s2 h2 p => ?_) fun x s' hx => k.exc n s₀ x s' hx) fun x s' hx => k.exc n s₀ x s' hx
  obtain ⟨it, fp, tn, J, H2, e, I2, T, st2, f2, W, ⟨m0, w0⟩, turn⟩ := h2
  subst e
  have stat : ∀ {H' : Hp} {acc' : Array Value} {c' : Nat}, (∀ b ∈ fp, H' b = none) → ∀ b ∈ fp, FpOk X ((S, lstObj acc' c') :: ip) H' b := fun {H' acc' c'} hn b hb => by
    obtain ⟨_, f1, f3, f4, f5, f6⟩ := f2 b hb
    refine ⟨hn b hb, f1, f3, f4, f5, fun q hq => ?_⟩
    rcases List.mem_append.mp hq with hq | hq
    · exact f6 q (List.mem_append_left _ hq)
    · rcases List.mem_cons.mp hq with rfl | hq
      · exact f6 (S, lstObj acc cc) (List.mem_append_right _ List.mem_cons_self)
      · exact f6 q (List.mem_append_right _ (List.mem_cons_of_mem _ hq))
  have neS : ∀ b ∈ fp, b ≠ S := fun b hb z => by
    obtain ⟨_, _, _, _, _, f6⟩ := f2 b hb
    exact f6 (S, lstObj acc cc) (List.mem_append_right _ List.mem_cons_self) z.symm
  have gl := fun (ip' : List (Addr × Obj)) (hip : ∀ p ∈ ip', p.1 ≠ S) (kk : Result → Sem PySem.Fin) => gc_loop (ip := ip') (k := kk) (c' := .forLoop tg (.ref it) body [] X.env) (l := lv []) (kp := []) (p := p) ⟨gc.pn, hip, gc.apart, gc.over, gc.split, gc.guard, gc.gd⟩ rfl rfl
  have loop : ∀ (m i n : Nat) (ys : List V) (s₀ s : Shared) (σ : St) (H : Hp), n + ys.length = sizeLine → W i m ys σ H → GI X S ip ys σ H s → tn i s.heap → (∀ b ∈ fp, H b = none) →
      Seg (model X.prog X.w) A R (GY X S) n s₀ (.forLoop tg (.ref it) body [] X.env) ((model X.prog X.w).den (.forLoop tg (.ref it) body [] X.env))
        (.ret (fun r => ((match r with | .ok f => (.pure f : Sem Flow) | .error e => .raise e).onRaise (cameBack X.env)).wrap K Jx gd lv) none (gd false) (lv []) c p [] :: fs) s := by
    intro m
    induction m using Nat.strongRecOn with
    | ind m ih =>
      intro i n ys s₀ s σ H hn w hI st fr
      have ee : ∀ (n : Nat) (s₀ : Shared) (x : Value) (s' : Shared), X.xe x s' → Seg (model X.prog X.w) A R (GY X S) n s₀ (.forLoop tg (.ref it) body [] X.env)
          ((do noteFrame x X.env; theTreesLotGoes x : Sem Unit).wrap (fun _ => .raise x) .raise id id)
          (.ret (fun r => ((match r with | .ok f => (.pure f : Sem Flow) | .error e => .raise e).onRaise (cameBack X.env)).wrap K Jx gd lv) none (gd false) (lv []) c p [] :: fs) s' := fun n s₀ x s' hx => by
        refine seg_wrap ?_
        rw [(gl ip gc.ip _).over]
        refine wpAny_bind (wpAny_mono (hp x s' hx) (fun _ s'' hcb => wpAny_theTreesLotGoes ?_) fun y s'' hcb => ?_)
        · exact seg_leaf (.error x) (seg_cameBack gc k hcb)
        · exact seg_leaf (.error y) (seg_cameBack gc k hcb)
      refine seg_forLoop ?_
      rw [(gl ip gc.ip _).over]
      obtain ⟨acc, cc, r, I⟩ := hI
      rcases turn i m ys σ H w with ⟨stop, qn⟩ | ⟨go, N, hN, step⟩
      · refine wpAny_mono (T.done X rfl rfl rfl hc i _ s σ H X.xe I (stat fr) st stop) (fun r' s4 ⟨hr, I4⟩ => ?_) fun x s' hx => ee n s₀ x s' hx
        subst hr
        exact seg_leaf (.ok .next) (k.ok n ys s₀ s4 .next hn ⟨σ, H, ⟨acc, cc, r, I4⟩, qn⟩)
      · refine wpAny_mono (T.item X rfl rfl rfl hc i _ s σ H X.xe I (stat fr) st go) (fun r' s4 ⟨u, hr, h4⟩ => ?_) fun x s' hx => ee n s₀ x s' hx
        subst hr
        refine wpAny_mono h4 (fun _ s5 ⟨x, H5, I5, r5, y5, st5, fr5⟩ => ?_) fun x s' hx => ee n s₀ x s' hx
        have I5' := I5.pinned (stat fr5) (T.obj _ _ st5)
        refine wpAny_mono (hg.run _ s5 σ H5 x u _ I5' r5 (step x H5 y5)) (fun _ s6 ⟨σ6, H6, I6, q6⟩ => ?_) fun x s' hx => ee n s₀ x s' hx
        have hip' : ∀ p ∈ ip ++ pinsAt fp s5.heap, p.1 ≠ S := fun q hq => by
          rcases List.mem_append.mp hq with hq | hq
          · exact gc.ip q hq
          · exact neS _ (of_pinsAt hq).1
        have again : ∀ {n' : Nat} {ys' : List V} {s₀' s3 : Shared} {σ3 : St} {H3 : Hp}, n' + ys'.length = sizeLine → GI X S (ip ++ pinsAt fp s5.heap) ys' σ3 H3 s3 → N ys' σ3 H3 →
            Seg (model X.prog X.w) A R (GY X S) n' s₀' (.forLoop tg (.ref it) body [] X.env) (.pure (.again (.forLoop tg (.ref it) body [] X.env)))
              (.ret (fun r => ((match r with | .ok f => (.pure f : Sem Flow) | .error e => .raise e).onRaise (cameBack X.env)).wrap K Jx gd lv) none (gd false) (lv []) c p [] :: fs) s3 := fun {n' ys' s₀' s3 σ3 H3} hn' I3 n3 => by
          obtain ⟨acc3, c3, r3, I3⟩ := I3
          obtain ⟨m', hm, w3⟩ := hN ys' σ3 H3 n3
          refine seg_again rfl (ih m' hm (i + 1) n' ys' s₀' s3 σ3 H3 hn' w3 ⟨acc3, c3, r3, I3.unpinned (pins := (S, lstObj acc3 c3) :: ip)⟩ (T.keep _ _ _ st5 fun b hb o e => (I3.pin (b, o) (List.mem_append_right _ (List.mem_cons_of_mem _ (List.mem_append_right _ (mem_pinsAt hb e))))).1) fun b hb => ?_)
          obtain ⟨o, e, d⟩ := T.obj _ _ st5 b hb
          exact (I3.pin (b, o) (List.mem_append_right _ (List.mem_cons_of_mem _ (List.mem_append_right _ (mem_pinsAt hb e))))).2.1
        have weak : ∀ {ys' : List V} {σ3 : St} {H3 : Hp} {s3 : Shared}, GI X S (ip ++ pinsAt fp s5.heap) ys' σ3 H3 s3 → GI X S ip ys' σ3 H3 s3 := fun ⟨acc3, c3, r3, I3⟩ => ⟨acc3, c3, r3, I3.unpinned (pins := (S, lstObj acc3 c3) :: ip)⟩
        refine hb.run A S (ip ++ pinsAt fp s5.heap) R n ys s₀ _ _ _ _ id id s6 σ6 H6 { D with nx := N, ct := N, bk := D.nx } (gl _ hip' _) hn ⟨fun n' ys' s₀' s3 f hn' hs => ?_, fun n' s₀' x s3 hx => ee n' s₀' x s3 hx⟩ ⟨acc, cc, r, I6⟩ q6
        cases f with
        | next =>
          obtain ⟨σ3, H3, I3, n3⟩ := hs
          exact again hn' I3 n3
        | cont =>
          obtain ⟨σ3, H3, I3, n3⟩ := hs
          exact again hn' I3 n3
        | brk =>
          obtain ⟨σ3, H3, I3, q3⟩ := hs
          exact seg_leaf (.ok .next) (k.ok n' ys' s₀' s3 .next hn' ⟨σ3, H3, weak I3, q3⟩)
        | ret v =>
          obtain ⟨x3, σ3, H3, I3, r3, q3⟩ := hs
          exact seg_leaf (.ok (.ret v)) (k.ok n' ys' s₀' s3 (.ret v) hn' ⟨x3, σ3, H3, weak I3, r3, q3⟩)
  exact loop m0 0 n ys s₀ s2 σ H2 hn w0 ⟨acc, cc, r, I2⟩ st2 fun b hb => (f2 b hb).1
/-- one lemma for loops within generators -/
theorem gloop_any {J : It} {n : Nat} {G : Hp → Prop} {Y : Nat → Hp → V → Hp → Prop} (w : Walk J n G Y) {ys0 : List V} {σ0 : St} {H0 : Hp} {Qd : List V → St → Hp → Prop} {B : List V → St → V → Hp → (List V → St → Hp → Prop) → Prop} (Pv : Nat → List V → St → Hp → Prop) (h0 : Pv 0 ys0 σ0 H0)
    (hG : ∀ i ys σ H, i ≤ n → Pv i ys σ H → G H) (hs : ∀ i x ys σ H H', i < n → Pv i ys σ H → Y i H x H' → B ys σ x H' (Pv (i + 1))) (hd : ∀ ys σ H, Pv n ys σ H → Qd ys σ H) :
    ∃ W : Nat → Nat → List V → St → Hp → Prop, (∃ m, W 0 m ys0 σ0 H0) ∧ ∀ i m ys σ H, W i m ys σ H →
      (J.stop i H ∧ Qd ys σ H) ∨ (J.go i H ∧ ∃ N : List V → St → Hp → Prop, (∀ ys' σ' H', N ys' σ' H' → ∃ m', m' < m ∧ W (i + 1) m' ys' σ' H') ∧ ∀ x H', J.yld i H x H' → B ys σ x H' N) := by
  refine ⟨fun i m ys σ H => m = n - i ∧ i ≤ n ∧ Pv i ys σ H, ⟨n, (Nat.sub_zero n).symm, Nat.zero_le _, h0⟩, ?_⟩
  rintro i m ys σ H ⟨rfl, hi, p⟩
  have q := hG i ys σ H hi p
  rcases Nat.lt_or_ge i n with hlt | hge
  · exact .inr ⟨w.goes i H hlt q, Pv (i + 1), fun ys' σ' H' p' => ⟨n - (i + 1), by omega, rfl, hlt, p'⟩, fun x H' y => hs i x ys σ H H' hlt p (w.yields i H x H' hlt q y)⟩
  · obtain rfl : i = n := by omega
    exact .inl ⟨w.stops H q, hd ys σ H p⟩
end
end L2
set_option Elab.async false
set_option linter.all false
set_option maxRecDepth 100000
/-! One lemma for the loops of all comprehensions. -/
namespace Shg
open PySem L2
theorem loop_any {J : It} {n : Nat} {G : Hp → Prop} {Y : Nat → Hp → V → Hp → Prop} (w : Walk J n G Y) {H0 : Hp} {Qd : Hp → Prop} {B : V → Hp → (Hp → Prop) → Prop} (Pv : Nat → Hp → Prop) (h0 : Pv 0 H0) (hG : ∀ i H, i ≤ n → Pv i H → G H)
    (hs : ∀ i x H H', i < n → Pv i H → Y i H x H' → B x H' (Pv (i + 1))) (hd : ∀ H, Pv n H → Qd H) :
    ∃ W : Nat → Nat → Hp → Prop, (∃ m, W 0 m H0) ∧ ∀ i m H, W i m H →
      (J.stop i H ∧ Qd H) ∨ (J.go i H ∧ ∃ Nx : Hp → Prop, (∀ H', Nx H' → ∃ m', m' < m ∧ W (i + 1) m' H') ∧ ∀ x H', J.yld i H x H' → B x H' Nx) := by
  refine ⟨fun i m H => m = n - i ∧ i ≤ n ∧ Pv i H, ⟨n, (Nat.sub_zero n).symm, Nat.zero_le _, h0⟩, ?_⟩
  rintro i m H ⟨rfl, hi, p⟩
  have q := hG i H hi p
  rcases Nat.lt_or_ge i n with hlt | hge
  · exact .inr ⟨w.goes i H hlt q, Pv (i + 1), fun H' p' => ⟨n - (i + 1), by omega, rfl, hlt, p'⟩, fun x H' y => hs i x H H' hlt p (w.yields i H x H' hlt q y)⟩
  · obtain rfl : i = n := by omega
    exact .inl ⟨w.stops H q, hd H p⟩
end Shg
set_option Elab.async false
set_option linter.all false
set_option maxRecDepth 100000
set_option maxHeartbeats 4000000
/-! Party.crossings: a generator. -/
namespace Sh1
open PySem L2 Sho NdefX Shg
abbrev qCross : Str := "Party.crossings.<locals>.<lambda>"
/-- the takers in the order of going, who lie higher first -/
def takers (rs : List Rw) : List Rw := sortV ((bot rs).reverse.map Rw.go) (bot rs).reverse
def crossed (rs : List Rw) : List (Str × Str) := (takers rs).flatMap fun x => (lifted rs x).map fun y => (x.nm, y.nm)
def PairAt (H : Hp) (v : V) (q : Str × Str) : Prop := ∃ t, v = .ref t ∧ H t = some (.tup [.str q.1, .str q.2])
theorem flat_le {α β : Type} {f : α → List β} {n : Nat} (h : ∀ x, (f x).length ≤ n) : ∀ l : List α, (l.flatMap f).length ≤ l.length * n
  | [] => by simp
  | x :: l => by
    rw [List.flatMap_cons, List.length_append, List.length_cons, Nat.succ_mul]
    have := flat_le h l
    have := h x
    omega
theorem takers_length (rs : List Rw) : (takers rs).length = rs.length := by
  unfold takers sortV
  rw [List.length_map, sortK_length, List.length_zip, List.length_map, Nat.min_self, List.length_reverse, bot_length]
theorem takers_mem {rs : List Rw} {r : Rw} (h : r ∈ takers rs) : r ∈ rs := by
  unfold takers sortV at h
  obtain ⟨x, hx, rfl⟩ := List.mem_map.mp h
  exact bot_mem.mp (List.mem_reverse.mp (List.of_mem_zip (sortK_mem.mp hx)).2)
theorem sort_paired {H : Hp} {ws : List V} {rs : List Rw} (f : Rw → Int) (h : RwsV H ws rs) : RwsV H (sortV (rs.map f) ws) (sortV (rs.map f) rs) := by
  have hl := pair_len h
  obtain ⟨e2, e1⟩ := zip_self_snd hl
  have a : sortV (rs.map f) ws = (sortV (rs.map f) (ws.zip rs)).map (·.1) := by
    rw [← sortV_map, e1]
  have b : sortV (rs.map f) rs = (sortV (rs.map f) (ws.zip rs)).map (·.2) := by
    rw [← sortV_map, e2]
  rw [a, b]
  refine paired_of fun q hq => ?_
  unfold sortV at hq
  obtain ⟨x, hx, rfl⟩ := List.mem_map.mp hq
  have := sortK_mem.mp hx
  exact zip_paired h _ (List.of_mem_zip this).2
theorem PairAt.ext {H H' : Hp} (e : LamX.ExtN H H') {v : V} {q : Str × Str} (h : PairAt H v q) : PairAt H' v q := by
  obtain ⟨t, rfl, ht⟩ := h
  exact ⟨t, rfl, e _ _ ht fun _ z => nomatch z⟩
section
variable {P : Program} {w : World} {K : PySem.W.Frag} {mg : Str → Option Value} {base : Heap}
def spCross (C : Addr) (T : List (Addr × Str)) : SpG := fun vs H cont _ => ∃ (p : Addr) (xs : List Stay), vs = [.ref p] ∧ PartyAt C H p xs ∧ Short xs ∧ xs.length ≤ 100 ∧ LamX.Tabs T H ∧
  ∀ H' out, Grows T H H' → PySem.Paired (PairAt H') out (crossed (xs.map rw3)) → cont out H'
theorem scCross : GScope ["self", "from_top", "taker", "stay"] ["self"] (defScope sPCross) := ⟨rfl, rfl, rfl, by decide +kernel, rfl, by decide +kernel, by decide +kernel⟩
theorem ok_cross {f c TP C fB fL : Addr} {fd fdB fdL : FuncData} {T : List (Addr × Str)} (F : Shg.FunL K "crossings" "Party.crossings" sPCross f c fd) (B : Shg.Blt mg) (PC : PartyC K mg C) (TB : LamX.TabB base mg c TP) (hm : (TP, qCross) ∈ T) (hu : ∀ p ∈ T, p.1 = TP → p.2 = qCross)
    (GB : FnOk P w K mg base CX0 5 fB fdB ["stays"] (spBottom K T)) (mB : mg "bottom_up" = some (.ref fB)) (kB : PySem.W.keepIn K (.ref fB) = true) (bB : Binds K fdB ["stays"] [])
    (GL : FnOk P w K mg base CX0 6 fL fdL ["stays", "taker"] (spLifted K T)) (mL : mg "lifted_from" = some (.ref fL)) (kL : PySem.W.keepIn K (.ref fL) = true) (bL : Binds K fdL ["stays", "taker"] []) :
    GFn P w K mg base 8 f fd ["self"] (spCross C T) := by
  obtain ⟨oc, od, kV, doc, pm, an, ct, osl, rfl, lk, hcd⟩ := F.ex
  refine gfn_of lk hcd scCross (fun vs H Q E h => ?_) fun A outer s H vs Q E pn hr h => ?_
  · obtain ⟨p, xs, rfl, _⟩ := h
    rfl
  · obtain ⟨p, xs, rfl, PA, hsh, hlen, hT, k⟩ := h
    have nd := scCross.nd
    refine ⟨_, gss_cons (gs_ps (ps_set (i := 1) nd rfl (Or.inl rfl) (pe_revL (pe_call GB (hr.mono (by decide)) rfl mB kB bB .nil pass0 (pa_cons (pe_fld (pv 0) rfl) pa_nil)))))
      (gss_cons (gs_for owns_gcx rfl (pi_list (pe_callBK (cr_sortedLam (k := 1) (hr.mono (by decide))) (by rfl) B.sorted (by decide +kernel) (pa_cons (pv 1) pa_nil) (pk_cons (pe_lam TB rfl hm hu (Shg.free_by (os := (defScope sPCross).names) (by decide +kernel))) pk_nil))) (pg_name (i := 2) nd rfl (Or.inl rfl))
        (gss_cons (gs_for owns_gcx rfl (pi_list (pe_call GL (hr.mono (by decide)) rfl mL kL bL .nil pass0 (pa_cons (pe_fld (pv 0) rfl) (pa_cons (pv 2) pa_nil)))) (pg_name (i := 3) nd rfl (Or.inl rfl))
          (gss_cons (gs_yield (pe_tup (pa_cons (pe_ix ix_tup (pv 2) pe_int (fun _ _ => rfl)) (pa_cons (pe_ix ix_tup (pv 3) pe_int (fun _ _ => rfl)) pa_nil)))) gss_nil)) gss_nil)) gss_nil), ?_⟩
    obtain ⟨dx, a, ws, h1, h2, h3⟩ := id PA
    generalize hrs : xs.map rw3 = rs at k
    have hw : RwsV H ws rs := by rw [← hrs]; exact rws_of h3
    have lrs : rs.length ≤ 100 := by rw [← hrs, List.length_map]; exact hlen
    have hok : ∀ r ∈ rs, OkRw r := fun r hr => by
      rw [← hrs] at hr
      obtain ⟨x, hx, rfl⟩ := List.mem_map.mp hr
      exact (hsh x hx).2
    refine ⟨_, rfl, p, C, dx, _, .ref a, rfl, h1, PC.cl, PC.nS, lk_stays _, a, ws, rs.map Rw.come, rfl, .inr (SqT.of h2), ?_, ?_, hT, fun pb H1 G1 e1 => ⟨pb, _, rfl, SqL.of e1, fun pt hpt => ?_⟩⟩
    · rw [List.length_map, pair_len hw]
    · intro i y n hy hn
      obtain ⟨r, hr', t, rfl, ht⟩ := pair_get hw hy
      rw [List.getElem?_map, hr'] at hn
      exact ⟨t, _, rfl, ht, congrArg (Option.map V.int) hn⟩
    · have hb1 : RwsV H1 (sortV (rs.map Rw.come) ws).reverse (bot rs).reverse := paired_rev (bot_paired (hw.ext G1.ext))
      have s2 : Same H1 (upd H1 pt (.lst (sortV (rs.map Rw.come) ws).reverse)) := same_upd hpt
      have e2 : (upd H1 pt (.lst (sortV (rs.map Rw.come) ws).reverse)) pt = some (.lst (sortV (rs.map Rw.come) ws).reverse) := upd_same
      have G2 := G1.trans (Sh1.Grows.of s2)
      have hb2 : RwsV (upd H1 pt (.lst (sortV (rs.map Rw.come) ws).reverse)) (sortV (rs.map Rw.come) ws).reverse (bot rs).reverse := pair_mono (fun _ _ k => RwAt.same s2 k) hb1
      generalize (sortV (rs.map Rw.come) ws).reverse = ts at s2 e2 G2 hb2 ⊢
      generalize upd H1 pt (.lst ts) = H2 at s2 e2 G2 hb2 ⊢
      refine ⟨_, rfl, G2.tab hT, fun f0 c0 H3 G3 n0 l0 => ⟨pt, f0, _, ts, (bot rs).reverse.map Rw.go, rfl, rfl, .inl (SqL.of (G3.ext _ _ e2 fun _ z => nomatch z)), l0, ?_, fun A' outer' s' i v n u hr' e0 hv hn ru => ?_, fun ps hps => ?_⟩⟩
      · rw [List.length_map, pair_len hb2]
      · obtain ⟨r, hr1, t, rfl, ht⟩ := pair_get hb2 hv
        rw [List.getElem?_map, hr1] at hn
        exact key_item (j := 2) l0 (nscope_by (sc := Shg.scL [("stay", .local)]) (by decide +kernel)) rfl (fun _ _ _ => rfl) (fun A outer s => pe_ix ix_tup (pv 0) pe_int (fun _ _ => rfl)) hr' e0 ⟨t, _, rfl, G3.ext _ _ ht (fun _ z => nomatch z), congrArg (Option.map V.int) hn⟩ ru
      · have hb4 : RwsV (upd H3 ps (.lst (sortV ((bot rs).reverse.map Rw.go) ts))) (sortV ((bot rs).reverse.map Rw.go) ts) (takers rs) := pair_mono (fun _ _ k => RwAt.same (same_upd hps) k) (sort_paired Rw.go (hb2.ext G3.ext))
        have e4 : (upd H3 ps (.lst (sortV ((bot rs).reverse.map Rw.go) ts))) ps = some (.lst (sortV ((bot rs).reverse.map Rw.go) ts)) := upd_same
        have G4 := (G2.trans G3).trans (Grows.upd hps (o := .lst (sortV ((bot rs).reverse.map Rw.go) ts)))
        generalize sortV ((bot rs).reverse.map Rw.go) ts = zs at hb4 e4 G4 ⊢
        generalize upd H3 ps (.lst zs) = H4 at hb4 e4 G4 ⊢
        have lz : zs.length = rs.length := by rw [pair_len hb4, takers_length]
        have big : 20000 < sizeLine := by decide
        have hle : ∀ l : List Rw, l.length ≤ 100 → (l.flatMap fun x => (lifted rs x).map fun y => (x.nm, y.nm)).length ≤ 10000 := fun l hl => by
          have := flat_le (f := fun x : Rw => (lifted rs x).map fun y => (x.nm, y.nm)) (n := 100) (fun x => by rw [List.length_map]; exact Nat.le_trans (lifted_len rs x) lrs) l
          have := Nat.mul_le_mul_right 100 hl
          omega
        refine ⟨ps, rfl, ⟨_, SqL.of e4⟩, gloop_any (walk_list (K := K) (a := ps) (xs := zs)) (fun i ys σ H' => Grows T H4 H' ∧ (∃ o2 o3, σ = [some (.ref p), some (.ref pt), o2, o3]) ∧ PySem.Paired (PairAt H') ys (((takers rs).take i).flatMap fun x => (lifted rs x).map fun y => (x.nm, y.nm)))
          ⟨Grows.rfl' _, ⟨none, none, rfl⟩, .nil⟩ (fun i ys σ H' _ q => SqL.of (q.1.ext _ _ e4 fun _ z => nomatch z)) (fun i v ys σ H5 H6 hi s5 yy => ?_) fun ys σ H5 s5 => ?_⟩
        · obtain ⟨G5, ⟨o2, o3, rfl⟩, q5⟩ := s5
          obtain ⟨rfl, e5⟩ := yy
          obtain ⟨x, hx, t, rfl, ht⟩ := pair_get hb4 e5
          have G05 := G4.trans G5
          have ht6 := G5.ext _ _ ht fun _ z => nomatch z
          have hxr : x ∈ rs := takers_mem (List.mem_of_getElem? hx)
          have ex : (takers rs).take (i + 1) = (takers rs).take i ++ [x] := by
            rw [List.take_succ, hx]
            rfl
          refine ⟨_, rfl, p, C, dx, _, .ref a, rfl, G05.ext _ _ h1 (fun _ z => nomatch z), PC.cl, PC.nS, lk_stays _, _, rfl, a, .ref t, ws, rs, x, rfl, .inr (SqT.of (G05.ext _ _ h2 fun _ z => nomatch z)), hw.ext G05.ext, ⟨t, rfl, ht6⟩, hxr, hok, Nat.le_trans lrs (by decide), G05.tab hT, fun pl H7 us G7 e7 r7 => ?_⟩
          have lu := pair_len r7
          refine ⟨pl, rfl, ⟨_, SqL.of e7⟩, gloop_any (walk_list (K := K) (a := pl) (xs := us)) (fun j ys' σ' H' => Grows T H7 H' ∧ (∃ o3, σ' = [some (.ref p), some (.ref pt), some (.ref t), o3]) ∧ PySem.Paired (PairAt H') ys' ((((takers rs).take i).flatMap fun x => (lifted rs x).map fun y => (x.nm, y.nm)) ++ ((lifted rs x).take j).map fun y => (x.nm, y.nm)))
            ⟨Grows.rfl' _, ⟨o3, rfl⟩, by rw [List.take_zero, List.map_nil, List.append_nil]; exact pair_mono (fun _ _ k => PairAt.ext G7.ext k) q5⟩ (fun j ys' σ' H' _ q => SqL.of (q.1.ext _ _ e7 fun _ z => nomatch z)) (fun j v' ys' σ' H8 H9 hj s8 yy => ?_) fun ys' σ' H8 s8 => ?_⟩
          · obtain ⟨G8, ⟨o3', rfl⟩, q8⟩ := s8
            obtain ⟨rfl, e8⟩ := yy
            obtain ⟨y, hy, t', rfl, ht'⟩ := pair_get r7 e8
            have ht9 := (G7.trans G8).ext _ _ ht6 fun _ z => nomatch z
            have hy9 := G8.ext _ _ ht' fun _ z => nomatch z
            refine ⟨?_, _, rfl, t, _, 0, .str x.nm, rfl, rfl, SqT.of ht9, atI_nat (j := 0) rfl, _, rfl, t', _, 0, .str y.nm, rfl, rfl, SqT.of hy9, atI_nat (j := 0) rfl, by show 2 ≤ sizeLine; decide, fun q hq => ?_⟩
            · rw [pair_len q8, List.length_append, List.length_map, List.length_take]
              have a1 := hle ((takers rs).take i) (by rw [List.length_take, takers_length]; omega)
              have a2 := lifted_len rs x
              omega
            · refine ⟨G8.trans (Grows.upd hq), ⟨_, rfl⟩, ?_⟩
              have et : ((lifted rs x).take (j + 1)).map (fun y => (x.nm, y.nm)) = ((lifted rs x).take j).map (fun y => (x.nm, y.nm)) ++ [(x.nm, y.nm)] := by
                rw [List.take_succ, hy]
                simp
              rw [et, ← List.append_assoc]
              exact pair_app (pair_mono (fun _ _ k => PairAt.ext (Grows.upd (T := T) hq).ext k) q8) (.cons ⟨q, rfl, upd_same⟩ .nil)
          · obtain ⟨G8, ⟨o3', rfl⟩, q8⟩ := s8
            refine ⟨G5.trans (G7.trans G8), ⟨_, _, rfl⟩, ?_⟩
            rw [ex, List.flatMap_append, List.flatMap_cons, List.flatMap_nil, List.append_nil]
            rw [lu, List.take_length] at q8
            exact q8
        · obtain ⟨G5, ⟨o2, o3, rfl⟩, q5⟩ := s5
          rw [lz, ← takers_length rs, List.take_length] at q5
          exact k _ _ (G4.trans G5) q5
end
end Sh1
set_option Elab.async false
set_option linter.all false
set_option maxRecDepth 100000
set_option maxHeartbeats 2000000
/-! Generators whose consumer does things of its own between two items: the context is taken anew at each wake. -/
namespace Gq
open PySem L2 PySem.Spec PyProof.Rows GenW
/-- the state without the objects from n on -/
def cut (n : Nat) (s : Shared) : Shared := { s with heap := { s.heap with objs := s.heap.objs.extract 0 n } }
theorem cut_size {n : Nat} {s : Shared} (h : n ≤ s.heap.objs.size) : (cut n s).heap.objs.size = n := by
  show (s.heap.objs.extract 0 n).size = n
  rw [Array.size_extract]
  omega
theorem cut_at {n : Nat} {s : Shared} {b : Addr} (h : b < n) : (cut n s).heap.get? b = s.heap.get? b := by
  show (match (s.heap.objs.extract 0 n)[b]? with | some ⟨_, _, .freed, _⟩ => none | o => o) = (match s.heap.objs[b]? with | some ⟨_, _, .freed, _⟩ => none | o => o)
  have e : (s.heap.objs.extract 0 n)[b]? = s.heap.objs[b]? := by
    have h' : Nat.lt b n := h
    apply Option.ext
    intro o
    rw [Array.getElem?_eq_some_iff, Array.getElem?_eq_some_iff]
    constructor
    · rintro ⟨h1, h2⟩
      have h3 : b < s.heap.objs.size := Nat.lt_of_lt_of_le h1 (by rw [Array.size_extract]; exact Nat.le_trans (Nat.sub_le _ _) (Nat.min_le_right _ _))
      exact ⟨h3, by rw [← h2]; simp⟩
    · rintro ⟨h1, h2⟩
      have h3 : b < (s.heap.objs.extract 0 n).size := by rw [Array.size_extract]; exact Nat.lt_min.mpr ⟨h', h1⟩
      exact ⟨h3, by rw [← h2]; simp⟩
  rw [e]
theorem cut_of {n : Nat} {s : Shared} {b : Addr} {o : Obj} (h : (cut n s).heap.get? b = some o) : b < n ∧ s.heap.get? b = some o := by
  have hl : b < (cut n s).heap.objs.size := Heap.lt_size h
  have hb : b < n := by
    have e : (cut n s).heap.objs.size = min n s.heap.objs.size - 0 := Array.size_extract ..
    rw [e] at hl
    exact Nat.lt_of_lt_of_le hl (Nat.le_trans (Nat.sub_le _ _) (Nat.min_le_left _ _))
  exact ⟨hb, by rw [← cut_at hb]; exact h⟩
theorem cut_funs {n : Nat} {s : Shared} {base : Heap} : ∀ {l : List Env}, (∀ b ∈ frs l, b < n) → s.heap.FunFrames base l → (cut n s).heap.FunFrames base l
  | [], _, _ => trivial
  | env :: r, hf, h => by
    obtain ⟨hk, ⟨L, o, e, hn, ho, hd⟩, hr⟩ := h
    have hL : L < n := hf L (by unfold frs; rw [List.filterMap_cons, e]; exact List.mem_cons_self)
    refine ⟨hk, ⟨L, o, e, hn, by rw [cut_at hL]; exact ho, hd⟩, cut_funs (fun b hb => hf b ?_) hr⟩
    unfold frs
    rw [List.filterMap_cons, e]
    exact List.mem_cons_of_mem _ hb
/-- what a consumer knows of a generator: n0: the heap's size at the call, pn: its own object -/
structure Vw where
  P : Program
  w : World
  base : Heap
  outer : List Env
  n0 : Nat
  pn : List (Addr × Obj)
/-- the consumer's turn: what is not tracked stays, but for its own frames and the objects at B -/
structure Back (v : Vw) (B : List Addr) (H1 H2 : Hp) (s1 s2 : Shared) : Prop where
  bare : AllBare s2.gens
  bs : ∀ b o, v.base.get? b = some o → s2.heap.get? b = some o ∧ H2 b = none
  keep : ∀ b o, s1.heap.get? b = some o → H1 b = none → b ∉ frs v.outer → b ∉ B → (∀ x, o.data ≠ .cell x) → s2.heap.get? b = some o ∧ H2 b = none
  funs : s2.heap.FunFrames v.base v.outer
  fsn : ∀ b ∈ frs v.outer, H2 b = none
  bnd : ∀ b ∈ B, ∃ o, s2.heap.get? b = some o ∧ H2 b = none ∧ ∀ x, o.data ≠ .cell x
  hok : HOk v.P v.w H2 s2.heap
/-- what the consumer knows of the resumable state: the items that are to come, the heap, what is tracked -/
abbrev CIT := Nat → Heap → Hp → Prop
/-- the generator's turn, from the resume at s₀ with Hr -/
structure Out (v : Vw) (B : List Addr) (CI : CIT) (n : Nat) (s₀ : Shared) (Hr H1 : Hp) (s1 : Shared) : Prop where
  ci : CI n s₀.heap Hr
  os : s1.os = s₀.os
  bare : AllBare s1.gens
  un : Un (frs v.outer) [] Hr H1 (cut v.n0 s₀).heap s1.heap
  hok : HOk v.P v.w H1 s1.heap
  bk : ∀ b ∈ B, ∀ o, s₀.heap.get? b = some o → s1.heap.get? b = some o ∧ H1 b = none
  pk : ∀ p ∈ v.pn, s1.heap.get? p.1 = some p.2 ∧ H1 p.1 = none
/-- what is agreed: the item, what the consumer may do -/
structure Ct where
  Yd : Nat → Hp → V → Hp → Prop
  Cr : Hp → Hp → Prop
def YQ (v : Vw) (B : List Addr) (CI : CIT) (C : Ct) : Protocol := fun n s₀ u s1 kap =>
  ∃ Hr H1 x, Out v B CI (n + 1) s₀ Hr H1 s1 ∧ RelV x u ∧ C.Yd n Hr x H1 ∧ ∀ s2 H2, Back v B H1 H2 s1 s2 → C.Cr H1 H2 → CI n s2.heap H2 → kap (.send .none) s2
def RQ (v : Vw) (B : List Addr) (CI : CIT) (En : Hp → Hp → Prop) : GenEnd := fun n s₀ r s1 =>
  (r = .ok (.ret .none) ∨ r = .ok .next) ∧ n = 0 ∧ ∃ Hr H1, Out v B CI 0 s₀ Hr H1 s1 ∧ En Hr H1
/-- a generator's frame -/
structure GF where
  v : Vw
  K : PySem.W.Frag
  mg : Str → Option Value
  N : List Str
  env : Env
def GF.X (F : GF) (A : Around) (s : Shared) (H : Hp) : Cx where
  prog := F.v.P
  w := F.v.w
  K := F.K
  mg := F.mg
  base := F.v.base
  A := A
  N := F.N
  s_0 := cut F.v.n0 s
  H_0 := H
  env := F.env
  outer := F.v.outer
  stack := F.env :: F.v.outer
  ex := []
  fn := fun _ => true
  calm := true
  pn := F.v.pn
  xe := fun _ _ => False
structure GFOk (F : GF) : Prop where
  loc : F.v.n0 ≤ F.env.locals
  cel : F.env.cells = []
  bsz : F.v.base.objs.size ≤ F.v.n0
  fr : ∀ b ∈ frs F.v.outer, b < F.v.n0
structure QI (F : GF) (A : Around) (B : List Addr) (CI : CIT) (ip : List (Addr × Obj)) (n : Nat) (s₀ : Shared) (Hr : Hp) (σ : L2.St) (H : Hp) (s : Shared) : Prop where
  ci : CI n s₀.heap Hr
  sz : F.v.n0 ≤ s₀.heap.objs.size
  bx : ∀ b ∈ B, ∃ o, s₀.heap.get? b = some o
  inv : Inv (F.X A s₀ Hr) (pinsAt B s₀.heap ++ ip) σ H s
section
variable {F : GF} {A : Around} {B : List Addr} {CI : CIT} {ip Z : List (Addr × Obj)} {n : Nat} {s₀ s s1 s2 : Shared} {Hr H H1 H2 : Hp} {σ : L2.St}
theorem woken (ok : GFOk F) (bB : ∀ b ∈ B, F.v.n0 ≤ b ∧ b ≠ F.env.locals) (ipB : ∀ p ∈ F.v.pn ++ ip, p.1 ∉ B) (I : Inv (F.X A s₀ Hr) (Z ++ ip) σ H1 s1) (b : Back F.v B H1 H2 s1 s2) :
    Inv (F.X A s2 H2) (pinsAt B s2.heap ++ ip) σ H2 s2 ∧ F.v.n0 ≤ s2.heap.objs.size := by
  obtain ⟨m, hm, hl⟩ := I.loc
  obtain ⟨oL, es, ep, hoL, hdL, rL⟩ := hm
  have nB : F.env.locals ∉ B := fun z => (bB _ z).2 rfl
  have nF : F.env.locals ∉ frs F.v.outer := fun z => absurd (ok.fr _ z) (Nat.not_lt.mpr ok.loc)
  obtain ⟨kL, fL⟩ := b.keep F.env.locals oL hoL I.free nF nB fun x z => by rw [hdL] at z; cases z
  have sz2 : F.v.n0 ≤ s2.heap.objs.size := Nat.le_trans ok.loc (Nat.le_of_lt (Heap.lt_size kL))
  have noC : ∀ x c, F.env.cells.lookup x = some c → False := fun x c e => by rw [ok.cel] at e; cases e
  have noX : ∀ c : Addr, c ∉ (F.X A s2 H2).ex := fun c z => by
    have z : c ∈ ([] : List Addr) := z
    cases z
  refine ⟨⟨⟨I.ok.mod, I.ok.kind, I.ok.glob, I.ok.blt, ?_, I.ok.inj, I.ok.has, fun x c _ e => (noC x c e).elim, I.ok.hd, I.ok.frames, I.ok.stk, fun c z => (noX c z).elim, fun c o e => ?_, ?_, fun c _ _ => noX c, fun c z => (noX c z).elim, cut_funs ok.fr b.funs, b.fsn⟩,
    rfl, b.bare, Un.kept fun c o e => (cut_of e).2, ⟨m, ⟨oL, es, ep, kL, hdL, rL⟩, fun i x v e1 e2 e3 => ?_⟩, fun x c e => (noC x c e).elim, fL, fun x c e => (noC x c e).elim, fun p hp => ?_, b.hok, I.len⟩, sz2⟩
  · show (cut F.v.n0 s2).heap.objs.size ≤ F.env.locals
    rw [cut_size sz2]
    exact ok.loc
  · obtain ⟨h1, h2⟩ := b.bs c o e
    refine ⟨?_, h2⟩
    show (cut F.v.n0 s2).heap.get? c = some o
    rw [cut_at (Nat.lt_of_lt_of_le (Heap.lt_size e) ok.bsz)]
    exact h1
  · show F.v.base.objs.size ≤ (cut F.v.n0 s2).heap.objs.size
    rw [cut_size sz2]
    exact ok.bsz
  · obtain ⟨u, r, q⟩ := hl i x v e1 e2 e3
    refine ⟨u, r, ?_⟩
    rcases q with q | ⟨_, c, e, _⟩
    · exact .inl q
    · exact (noC x c e).elim
  · have old : p ∈ F.v.pn ++ ip → s2.heap.get? p.1 = some p.2 ∧ H2 p.1 = none ∧ p.1 ≠ F.env.locals ∧ p.1 ∉ frs F.v.outer ∧ ∀ v, p.2.data ≠ .cell v := fun hp => by
      obtain ⟨h1, h2, h3, h4, h5⟩ := I.pin p (by
        rcases List.mem_append.mp hp with z | z
        · exact List.mem_append_left _ z
        · exact List.mem_append_right _ (List.mem_append_right _ z))
      obtain ⟨k1, k2⟩ := b.keep p.1 p.2 h1 h2 h4 (ipB p hp) h5
      exact ⟨k1, k2, h3, h4, h5⟩
    rcases List.mem_append.mp hp with z | z
    · exact old (List.mem_append_left _ z)
    · rcases List.mem_append.mp z with z | z
      · obtain ⟨hb, e⟩ := of_pinsAt z
        obtain ⟨o, e', hn, hd⟩ := b.bnd _ hb
        rw [e] at e'
        cases e'
        exact ⟨e, hn, (bB _ hb).2, fun y => absurd (ok.fr _ y) (Nat.not_lt.mpr (bB _ hb).1), hd⟩
      · exact old (List.mem_append_right _ z)
theorem QI.out (q : QI F A B CI ip n s₀ Hr σ H s) : Out F.v B CI n s₀ Hr H s where
  ci := q.ci
  os := q.inv.os
  bare := q.inv.bare
  un := q.inv.base
  hok := q.inv.hok
  bk := fun b hb o e => let z := q.inv.pin (b, o) (List.mem_append_right _ (List.mem_append_left _ (mem_pinsAt hb e))); ⟨z.1, z.2.1⟩
  pk := fun p hp => let z := q.inv.pin p (List.mem_append_left _ hp); ⟨z.1, z.2.1⟩
end
/-- behind a statement: what is wanted (the items that are to come, what was tracked at the resume, the rest) -/
structure QEnds where
  nx : Nat → Hp → L2.St → Hp → Prop
  bk : Nat → Hp → L2.St → Hp → Prop := fun _ _ _ _ => False
  ct : Nat → Hp → L2.St → Hp → Prop := fun _ _ _ _ => False
abbrev TQ := QEnds → Nat → Hp → L2.St → Hp → Prop
def QEnds.at (D : QEnds) (n : Nat) (Hr : Hp) : Ends := { nx := D.nx n Hr, rt := fun _ _ => False, bk := D.bk n Hr, ct := D.ct n Hr }
def QSP (F : GF) (A : Around) (B : List Addr) (CI : CIT) (ip : List (Addr × Obj)) (D : QEnds) (n : Nat) (s₀ : Shared) (f : Flow) (s : Shared) : Prop :=
  match f with
  | .next => ∃ Hr σ H, QI F A B CI ip n s₀ Hr σ H s ∧ D.nx n Hr σ H
  | .brk => ∃ Hr σ H, QI F A B CI ip n s₀ Hr σ H s ∧ D.bk n Hr σ H
  | .cont => ∃ Hr σ H, QI F A B CI ip n s₀ Hr σ H s ∧ D.ct n Hr σ H
  | .ret _ => False
/-- where the code stands: AF the around within the frame -/
structure QC (F : GF) (AF : Around) (B : List Addr) (ip : List (Addr × Obj)) (A : Around) (c : Code) (fs : List Frame) (gd : Bool → Bool) : Prop where
  ok : GFOk F
  bB : ∀ b ∈ B, F.v.n0 ≤ b ∧ b ≠ F.env.locals
  ipB : ∀ p ∈ F.v.pn ++ ip, p.1 ∉ B
  over : A.over c fs = AF
  split : splitAtGen fs = none
  guard : fs.any Frame.guarded = false
  gd : gd false = false
def QK (F : GF) (AF : Around) (B : List Addr) (CI : CIT) (C : Ct) (ip : List (Addr × Obj)) (A : Around) (R : GenEnd) (c : Code) (fs : List Frame) (K : Flow → Sem PySem.Fin) (D : QEnds) : Prop :=
  ∀ (n : Nat) (s₀ s : Shared) (f : Flow), QSP F AF B CI ip D n s₀ f s → Seg (model F.v.P F.v.w) A R (YQ F.v B CI C) n s₀ c (K f) fs s
structure QS (F : GF) (AF : Around) (C : Ct) (st : Stmt) (t : TQ) : Prop where
  run : ∀ (A : Around) (B : List Addr) (CI : CIT) (ip : List (Addr × Obj)) (R : GenEnd) (n : Nat) (s₀ : Shared) (c : Code) (fs : List Frame) (K : Flow → Sem PySem.Fin) (J : Value → Sem PySem.Fin) (gd : Bool → Bool) (lv : List Value → List Value) (s : Shared) (Hr : Hp) (σ : L2.St) (H : Hp) (D : QEnds),
    QC F AF B ip A c fs gd → QK F AF B CI C ip A R c fs K D → QI F AF B CI ip n s₀ Hr σ H s → t D n Hr σ H →
    Seg (model F.v.P F.v.w) A R (YQ F.v B CI C) n s₀ c ((exec st F.env).wrap K J gd lv) fs s
structure QSs (F : GF) (AF : Around) (C : Ct) (st : List Stmt) (t : TQ) : Prop where
  run : ∀ (A : Around) (B : List Addr) (CI : CIT) (ip : List (Addr × Obj)) (R : GenEnd) (n : Nat) (s₀ : Shared) (c : Code) (fs : List Frame) (K : Flow → Sem PySem.Fin) (J : Value → Sem PySem.Fin) (gd : Bool → Bool) (lv : List Value → List Value) (s : Shared) (Hr : Hp) (σ : L2.St) (H : Hp) (D : QEnds),
    QC F AF B ip A c fs gd → QK F AF B CI C ip A R c fs K D → QI F AF B CI ip n s₀ Hr σ H s → t D n Hr σ H →
    Seg (model F.v.P F.v.w) A R (YQ F.v B CI C) n s₀ c ((execs st F.env).wrap K J gd lv) fs s
section
variable {F : GF} {AF : Around} {C : Ct} {st : Stmt} {rest : List Stmt}
def tQPlain (t : TS) : TQ := fun D n Hr σ H => t (D.at n Hr) σ H
theorem sp_qsp {B : List Addr} {CI : CIT} {ip : List (Addr × Obj)} {D : QEnds} {n : Nat} {s₀ s s1 : Shared} {Hr H : Hp} {σ : L2.St} {f : Flow} (q : QI F AF B CI ip n s₀ Hr σ H s) (h : SP (F.X AF s₀ Hr) (pinsAt B s₀.heap ++ ip) (D.at n Hr) f s1) : QSP F AF B CI ip D n s₀ f s1 := by
  cases f with
  | next => obtain ⟨σ, H, I, k⟩ := h; exact ⟨Hr, σ, H, ⟨q.ci, q.sz, q.bx, I⟩, k⟩
  | brk => obtain ⟨σ, H, I, k⟩ := h; exact ⟨Hr, σ, H, ⟨q.ci, q.sz, q.bx, I⟩, k⟩
  | cont => obtain ⟨σ, H, I, k⟩ := h; exact ⟨Hr, σ, H, ⟨q.ci, q.sz, q.bx, I⟩, k⟩
  | ret u => obtain ⟨v, σ, H, I, r1, k⟩ := h; exact k
theorem qs_ps {t : TS} (h : ∀ s H, PS (F.X AF s H) st t) : QS F AF C st (tQPlain t) := by
  refine ⟨fun A B CI ip R n s₀ c fs K J gd lv s Hr σ H D g k q ht => ?_⟩
  refine seg_wrap ?_
  rw [g.over]
  exact wpAny_mono ((h s₀ Hr).run _ s σ H (D.at n Hr) q.inv ht) (fun f s' hs => k n s₀ s' f (sp_qsp q hs)) fun x s' hx => False.elim hx
def tQ0 : TQ := fun D n Hr σ H => D.nx n Hr σ H
theorem qss_nil : QSs F AF C [] tQ0 := by
  refine ⟨fun A B CI ip R n s₀ c fs K J gd lv s Hr σ H D g k q ht => ?_⟩
  exact seg_execs_nil (k n s₀ s .next ⟨Hr, σ, H, q, ht⟩)
def tQThen (t u : TQ) : TQ := fun D n Hr σ H => t { D with nx := fun n' Hr' σ' H' => u D n' Hr' σ' H' } n Hr σ H
theorem qss_cons {t u : TQ} (a : QS F AF C st t) (b : QSs F AF C rest u) : QSs F AF C (st :: rest) (tQThen t u) := by
  refine ⟨fun A B CI ip R n s₀ c fs K J gd lv s Hr σ H D g k q ht => ?_⟩
  refine seg_execs_cons ?_
  refine a.run A B CI ip R n s₀ c fs _ J gd lv s Hr σ H { D with nx := fun n' Hr' σ' H' => u D n' Hr' σ' H' } g (fun n' s₀' s' f hs => ?_) q ht
  cases f with
  | next =>
    obtain ⟨Hr', σ', H', q', z⟩ := hs
    exact b.run A B CI ip R n' s₀' c fs K J gd lv s' Hr' σ' H' D g k q' z
  | brk => exact k n' s₀' s' .brk hs
  | cont => exact k n' s₀' s' .cont hs
  | ret u => exact False.elim hs
/-! ### yield -/
def tQYield (C : Ct) (te : TE) : TQ := fun D n Hr σ H => ∃ m, n = m + 1 ∧ te σ H fun x H1 => C.Yd m Hr x H1 ∧ ∀ H2, C.Cr H1 H2 → D.nx m H2 σ H2
theorem qs_yield {e : Expr} {yp pos : Pos} {te : TE} (he : ∀ s H, PE (F.X AF s H) e te) (hco : F.env.scope.isCoroutine = false := by rfl) (hi : interactive F.env = false := by rfl) : QS F AF C (.Expr (.Yield (some e) yp) pos) (tQYield C te) := by
  refine ⟨fun A B CI ip R n s₀ c fs K J gd lv s Hr σ H D g k q ht => ?_⟩
  obtain ⟨m, rfl, ht⟩ := ht
  refine seg_Expr_Yield g.split g.gd g.guard ?_ hco hi
  rw [g.over]
  refine wpAny_mono ((he s₀ Hr).run _ s σ H _ q.inv ht) (fun u s1 hv => ?_) fun x s' hx => False.elim hx
  obtain ⟨x, H1, I1, rv, yd, nx⟩ := hv
  have q1 : QI F AF B CI ip (m + 1) s₀ Hr σ H1 s1 := ⟨q.ci, q.sz, q.bx, I1⟩
  intro kap hk
  refine ⟨Hr, H1, x, q1.out, rv, yd, fun s2 H2 b cr ci => hk .none s2 ?_⟩
  obtain ⟨I2, z2⟩ := woken g.ok g.bB g.ipB I1 b
  exact k m s2 s2 .next ⟨H2, σ, H2, ⟨ci, z2, (fun b' hb => let ⟨o, e, _⟩ := b.bnd b' hb; ⟨o, e⟩), I2⟩, nx H2 cr⟩
end
end Gq
set_option Elab.async false
set_option linter.all false
set_option maxRecDepth 100000
set_option maxHeartbeats 2000000
/-! `for` and `if` within such a generator. -/
namespace Gq
open PySem L2 PySem.Spec PyProof.Rows GenW
section
variable {F : GF} {AF : Around} {C : Ct} {tg : Expr}
theorem qc_loop {B : List Addr} {ip ip' : List (Addr × Obj)} {A : Around} {c c' : Code} {fs : List Frame} {gd : Bool → Bool} {k : Result → Sem PySem.Fin} {l kp : List Value} {p : Pos} (g : QC F AF B ip A c fs gd) (hip : ∀ p ∈ ip', p.1 ∉ B) (hw : c'.weight = 0) (hu : c'.cUnits = 0) :
    QC F AF B ip' A c' (.ret k none (gd false) l c p kp :: fs) id where
  ok := g.ok
  bB := g.bB
  ipB := fun p hp => (List.mem_append.mp hp).elim (fun z => g.ipB p (List.mem_append_left _ z)) (hip p)
  over := (over_loop hw hu).trans g.over
  split := by
    show (splitAtGen fs).map _ = none
    rw [g.split]; rfl
  guard := by
    show (gd false || fs.any Frame.guarded) = false
    rw [g.gd, g.guard]; rfl
  gd := rfl
def tQFor (wi : TI) (g : TG) (tb : TQ) : TQ := fun D n Hr σ H => wi σ H fun J H1 => ∃ W : Nat → Nat → Nat → Hp → L2.St → Hp → Prop, (∃ m, W 0 m n Hr σ H1) ∧ ∀ i m n Hr σ H, W i m n Hr σ H →
  (J.stop i H ∧ D.nx n Hr σ H) ∨ (J.go i H ∧ ∃ N : Nat → Hp → L2.St → Hp → Prop, (∀ n' Hr' σ' H', N n' Hr' σ' H' → ∃ m', m' < m ∧ W (i + 1) m' n' Hr' σ' H') ∧ ∀ x H', J.yld i H x H' → g x σ H' fun σ2 H2 => tb { D with nx := N, ct := N, bk := D.nx } n Hr σ2 H2)
theorem qs_for {iter : Expr} {body : List Stmt} {wi : TI} {g : TG} {tb : TQ} {pos : Pos} (hi : ∀ s H, PI (F.X AF s H) tg iter wi) (hg : ∀ s H, PG (F.X AF s H) tg g) (hb : QSs F AF C body tb)
    (hs : ∀ x, foldedSetIterable iter F.env x = pure x := by intro _; rfl) : QS F AF C (.For tg iter body [] pos) (tQFor wi g tb) := by
  refine ⟨fun A B CI ip R n s₀ c fs K Jx gd lv s Hr σ H D gc k q ht => ?_⟩
  refine seg_For hs ?_
  rw [gc.over]
  refine wpAny_mono ((hi s₀ Hr).run _ s σ H _ q.inv ht) (fun v s1 h1 => wpAny_mono h1 (fun itv s2 h2 p => ?_) fun x s' hx => False.elim hx) fun x s' hx => False.elim hx
  obtain ⟨it, fp, tn, J, H2, e, I2, T, st2, f2, W, ⟨m0, w0⟩, turn⟩ := h2
  subst e
  -- what stays true of the iterator's objects, whatever the context
  have fix : ∀ b ∈ fp, b ≠ F.env.locals ∧ b ∉ frs F.v.outer ∧ F.v.n0 ≤ b ∧ b ∉ B ∧ ∀ p ∈ F.v.pn ++ ip, p.1 ≠ b := fun b hb => by
    obtain ⟨_, f1, f3, f4, _, f6⟩ := f2 b hb
    refine ⟨f1, f3, ?_, fun z => ?_, fun p hp => ?_⟩
    · rcases f4 with z | z
      · have z : b ∈ ([] : List Addr) := z
        cases z
      · have z : (cut F.v.n0 s₀).heap.objs.size ≤ b := z
        rw [cut_size q.sz] at z
        exact z
    · obtain ⟨o, e⟩ := q.bx b z
      exact f6 (b, o) (List.mem_append_right _ (List.mem_append_left _ (mem_pinsAt z e))) rfl
    · rcases List.mem_append.mp hp with z | z
      · exact f6 p (List.mem_append_left _ z)
      · exact f6 p (List.mem_append_right _ (List.mem_append_right _ z))
  have stat : ∀ {s₀' : Shared} {Hr' H' : Hp}, F.v.n0 ≤ s₀'.heap.objs.size → (∀ b ∈ fp, H' b = none) → ∀ b ∈ fp, FpOk (F.X AF s₀' Hr') (pinsAt B s₀'.heap ++ ip) H' b := fun {s₀' Hr' H'} hz hn b hb => by
    obtain ⟨f1, f3, f4, fB, f6⟩ := fix b hb
    refine ⟨hn b hb, f1, f3, .inr ?_, fun x c e => ?_, fun p hp => ?_⟩
    · show (cut F.v.n0 s₀').heap.objs.size ≤ b
      rw [cut_size hz]
      exact f4
    · have e : F.env.cells.lookup x = some c := e
      rw [gc.ok.cel] at e
      cases e
    · rcases List.mem_append.mp hp with z | z
      · exact f6 p (List.mem_append_left _ z)
      · rcases List.mem_append.mp z with z | z
        · exact fun y => fB (y ▸ (of_pinsAt z).1)
        · exact f6 p (List.mem_append_right _ z)
  have ipB : ∀ p ∈ ip, p.1 ∉ B := fun p hp => gc.ipB p (List.mem_append_right _ hp)
  have gl := fun (ip' : List (Addr × Obj)) (hip : ∀ p ∈ ip', p.1 ∉ B) (kk : Result → Sem PySem.Fin) => qc_loop (ip' := ip') (k := kk) (c' := .forLoop tg (.ref it) body [] F.env) (l := lv []) (kp := []) (p := p) gc hip rfl rfl
  have loop : ∀ (m i n : Nat) (s₀ s : Shared) (Hr : Hp) (σ : L2.St) (H : Hp), W i m n Hr σ H → QI F AF B CI ip n s₀ Hr σ H s → tn i s.heap → (∀ b ∈ fp, H b = none) →
      Seg (model F.v.P F.v.w) A R (YQ F.v B CI C) n s₀ (.forLoop tg (.ref it) body [] F.env) ((model F.v.P F.v.w).den (.forLoop tg (.ref it) body [] F.env))
        (.ret (fun r => ((match r with | .ok f => (.pure f : Sem Flow) | .error e => .raise e).onRaise (cameBack F.env)).wrap K Jx gd lv) none (gd false) (lv []) c p [] :: fs) s := by
    intro m
    induction m using Nat.strongRecOn with
    | ind m ih =>
      intro i n s₀ s Hr σ H w q st fr
      refine seg_forLoop ?_
      rw [(gl ip ipB _).over]
      rcases turn i m n Hr σ H w with ⟨stop, qn⟩ | ⟨go, N, hN, step⟩
      · refine wpAny_mono (T.done (F.X AF s₀ Hr) rfl rfl rfl rfl i _ s σ H (fun _ _ => False) q.inv (stat q.sz fr) st stop) (fun r' s4 ⟨hr, I4⟩ => ?_) fun x s' hx => False.elim hx
        subst hr
        exact seg_leaf (.ok .next) (k n s₀ s4 .next ⟨Hr, σ, H, ⟨q.ci, q.sz, q.bx, I4⟩, qn⟩)
      · refine wpAny_mono (T.item (F.X AF s₀ Hr) rfl rfl rfl rfl i _ s σ H (fun _ _ => False) q.inv (stat q.sz fr) st go) (fun r' s4 ⟨u, hr, h4⟩ => ?_) fun x s' hx => False.elim hx
        subst hr
        refine wpAny_mono h4 (fun _ s5 ⟨x, H5, I5, r5, y5, st5, fr5⟩ => ?_) fun x s' hx => False.elim hx
        have I5' := I5.pinned (stat q.sz fr5) (T.obj _ _ st5)
        rw [List.append_assoc] at I5'
        refine wpAny_mono ((hg s₀ Hr).run _ s5 σ H5 x u _ I5' r5 (step x H5 y5)) (fun _ s6 ⟨σ6, H6, I6, q6⟩ => ?_) fun x s' hx => False.elim hx
        have hip' : ∀ p ∈ ip ++ pinsAt fp s5.heap, p.1 ∉ B := fun p hp => by
          rcases List.mem_append.mp hp with z | z
          · exact ipB p z
          · exact (fix p.1 (of_pinsAt z).1).2.2.2.1
        have weak : ∀ {n' : Nat} {s₀' s3 : Shared} {Hr3 : Hp} {σ3 : L2.St} {H3 : Hp}, QI F AF B CI (ip ++ pinsAt fp s5.heap) n' s₀' Hr3 σ3 H3 s3 → QI F AF B CI ip n' s₀' Hr3 σ3 H3 s3 := fun {n' s₀' s3 Hr3 σ3 H3} z => by
          have I := z.inv
          rw [← List.append_assoc] at I
          exact ⟨z.ci, z.sz, z.bx, I.unpinned⟩
        have again : ∀ {n' : Nat} {s₀' s3 : Shared} {Hr3 : Hp} {σ3 : L2.St} {H3 : Hp}, QI F AF B CI (ip ++ pinsAt fp s5.heap) n' s₀' Hr3 σ3 H3 s3 → N n' Hr3 σ3 H3 →
            Seg (model F.v.P F.v.w) A R (YQ F.v B CI C) n' s₀' (.forLoop tg (.ref it) body [] F.env) (.pure (.again (.forLoop tg (.ref it) body [] F.env)))
              (.ret (fun r => ((match r with | .ok f => (.pure f : Sem Flow) | .error e => .raise e).onRaise (cameBack F.env)).wrap K Jx gd lv) none (gd false) (lv []) c p [] :: fs) s3 := fun {n' s₀' s3 Hr3 σ3 H3} z n3 => by
          obtain ⟨m', hm, w3⟩ := hN n' Hr3 σ3 H3 n3
          have pin : ∀ b ∈ fp, ∀ o, s5.heap.get? b = some o → s3.heap.get? b = some o ∧ H3 b = none := fun b hb o e =>
            let y := z.inv.pin (b, o) (List.mem_append_right _ (List.mem_append_right _ (List.mem_append_right _ (mem_pinsAt hb e))))
            ⟨y.1, y.2.1⟩
          refine seg_again rfl (ih m' hm (i + 1) n' s₀' s3 Hr3 σ3 H3 w3 (weak z) (T.keep _ _ _ st5 fun b hb o e => (pin b hb o e).1) fun b hb => ?_)
          obtain ⟨o, e, d⟩ := T.obj _ _ st5 b hb
          exact (pin b hb o e).2
        refine hb.run A B CI (ip ++ pinsAt fp s5.heap) R n s₀ _ _ _ _ id id s6 Hr σ6 H6 { D with nx := N, ct := N, bk := D.nx } (gl _ hip' _) (fun n' s₀' s3 f hs => ?_) ⟨q.ci, q.sz, q.bx, I6⟩ q6
        cases f with
        | next =>
          obtain ⟨Hr3, σ3, H3, z, n3⟩ := hs
          exact again z n3
        | cont =>
          obtain ⟨Hr3, σ3, H3, z, n3⟩ := hs
          exact again z n3
        | brk =>
          obtain ⟨Hr3, σ3, H3, z, q3⟩ := hs
          exact seg_leaf (.ok .next) (k n' s₀' s3 .next ⟨Hr3, σ3, H3, weak z, q3⟩)
        | ret v => exact False.elim hs
  exact loop m0 0 n s₀ s2 Hr σ H2 w0 ⟨q.ci, q.sz, q.bx, I2⟩ st2 fun b hb => (f2 b hb).1
/-- one lemma for such loops -/
theorem qloop_any {J : It} {n : Nat} {G : Hp → Prop} {Y : Nat → Hp → V → Hp → Prop} (w : Walk J n G Y) {k0 : Nat} {Hr0 : Hp} {σ0 : L2.St} {H0 : Hp} {Qd : Nat → Hp → L2.St → Hp → Prop} {Bd : Nat → Hp → L2.St → V → Hp → (Nat → Hp → L2.St → Hp → Prop) → Prop}
    (Pv : Nat → Nat → Hp → L2.St → Hp → Prop) (h0 : Pv 0 k0 Hr0 σ0 H0)
    (hG : ∀ i k Hr σ H, i ≤ n → Pv i k Hr σ H → G H) (hs : ∀ i x k Hr σ H H', i < n → Pv i k Hr σ H → Y i H x H' → Bd k Hr σ x H' (Pv (i + 1))) (hd : ∀ k Hr σ H, Pv n k Hr σ H → Qd k Hr σ H) :
    ∃ W : Nat → Nat → Nat → Hp → L2.St → Hp → Prop, (∃ m, W 0 m k0 Hr0 σ0 H0) ∧ ∀ i m k Hr σ H, W i m k Hr σ H →
      (J.stop i H ∧ Qd k Hr σ H) ∨ (J.go i H ∧ ∃ N : Nat → Hp → L2.St → Hp → Prop, (∀ k' Hr' σ' H', N k' Hr' σ' H' → ∃ m', m' < m ∧ W (i + 1) m' k' Hr' σ' H') ∧ ∀ x H', J.yld i H x H' → Bd k Hr σ x H' N) := by
  refine ⟨fun i m k Hr σ H => m = n - i ∧ i ≤ n ∧ Pv i k Hr σ H, ⟨n, (Nat.sub_zero n).symm, Nat.zero_le _, h0⟩, ?_⟩
  rintro i m k Hr σ H ⟨rfl, hi, p⟩
  have q := hG i k Hr σ H hi p
  rcases Nat.lt_or_ge i n with hlt | hge
  · exact .inr ⟨w.goes i H hlt q, Pv (i + 1), fun k' Hr' σ' H' p' => ⟨n - (i + 1), by omega, rfl, hlt, p'⟩, fun x H' y => hs i x k Hr σ H H' hlt p (w.yields i H x H' hlt q y)⟩
  · obtain rfl : i = n := by omega
    exact .inl ⟨w.stops H q, hd k Hr σ H p⟩
/-! ### if -/
def tQIf (tc : TT) (ta tb : TQ) : TQ := fun D n Hr σ H => tc σ H fun b H1 => if b = true then ta D n Hr σ H1 else tb D n Hr σ H1
theorem qs_if {test : Expr} {body orelse : List Stmt} {pos : Pos} {tc : TT} {ta tb : TQ} (hc : ∀ s H, PT (F.X AF s H) test tc) (ha : QSs F AF C body ta) (hb : QSs F AF C orelse tb) : QS F AF C (.If test body orelse pos) (tQIf tc ta tb) := by
  refine ⟨fun A B CI ip R n s₀ c fs K J gd lv s Hr σ H D g k q ht => ?_⟩
  rw [exec_If]
  show Seg _ _ _ _ n s₀ c (.at pos fun _ => ((isTrue test F.env (eval test F.env) >>= fun b => if b = true then execs body F.env else execs orelse F.env) : Sem Flow).wrap K J gd lv) fs s
  refine seg_at ?_
  rw [Sem.bind_eq_wrap', Sem.wrap_wrap]
  refine seg_wrap ?_
  rw [g.over]
  refine wpAny_mono ((hc s₀ Hr).run _ s σ H _ q.inv ht) (fun b s1 hb' => ?_) fun x s' hx => False.elim hx
  obtain ⟨H1, I1, q1⟩ := hb'
  cases b with
  | true =>
    rw [if_pos rfl] at q1
    exact ha.run A B CI ip R n s₀ c fs K J gd lv s1 Hr σ H1 D g k ⟨q.ci, q.sz, q.bx, I1⟩ q1
  | false =>
    rw [if_neg Bool.false_ne_true] at q1
    exact hb.run A B CI ip R n s₀ c fs K J gd lv s1 Hr σ H1 D g k ⟨q.ci, q.sz, q.bx, I1⟩ q1
end
end Gq
set_option Elab.async false
set_option linter.all false
set_option maxRecDepth 100000
set_option maxHeartbeats 2000000
/-! The call of such a generator def. -/
namespace Gq
open PySem L2 PySem.Spec PyProof.Rows GenW
/-- a generator def's promise: the arguments, the heap at the first wake; then: how many items, what is agreed, the end (from the last resume) -/
abbrev SpQ := List V → Hp → Nat → Ct → (Hp → Hp → Prop) → Prop
def GMadeQ (P : Program) (w : World) (base : Heap) (k : Nat) (outer : List Env) (n0 : Nat) (sp : SpQ) (vs : List V) (H : Hp) (u : Value) (s' : Shared) : Prop :=
  ∃ (a : Addr) (g : Nat) (c : Code) (go : Obj), u = .ref a ∧ n0 ≤ a ∧ a < s'.heap.objs.size ∧ s'.heap.get? a = some go ∧ (∀ h : Heap, h.get? a = some go → h.IsGen a g) ∧ (∀ v, go.data ≠ .cell v) ∧ s'.gens[g]? = some (.fresh c) ∧
    ∀ (A : Around) (B : List Addr) (CI : CIT) (s2 : Shared) (H2 : Hp) (L : Nat) (C : Ct) (En : Hp → Hp → Prop), Room k A → A.frames = some outer → (∀ b ∈ B, s'.heap.objs.size ≤ b) → Back ⟨P, w, base, outer, n0, [(a, go)]⟩ B H H2 s' s2 → sp vs H2 L C En → CI L s2.heap H2 →
      Seg (model P w) A (RQ ⟨P, w, base, outer, n0, [(a, go)]⟩ B CI En) (YQ ⟨P, w, base, outer, n0, [(a, go)]⟩ B CI C) L s2 c ((model P w).den c) [] s2
structure GFnQ (P : Program) (w : World) (K : PySem.W.Frag) (mg : Str → Option Value) (base : Heap) (k : Nat) (f : Addr) (fd : FuncData) (ps : List Str) (sp : SpQ) : Prop where
  run : ∀ (A : Around) (outer : List Env) (s : Shared) (H : Hp) (args : Args) (us : List Value) (vs : List V), Room k A → Env0 P w K mg base A outer s H → BindsTo s fd args (ps.zip us) → Vals vs us → vs.length = ps.length →
    codeAny (model P w) A (.call (.ref f) args) (fun r s' => match r with | .ok (.ret u) => GMadeQ P w base k outer s.heap.objs.size sp vs H u s' ∧ s'.os = s.os ∧ AllBare s'.gens ∧ ∀ b o, s.heap.get? b = some o → s'.heap.get? b = some o | _ => False) s
theorem inv_conv {P : Program} {w : World} {K : PySem.W.Frag} {mg : Str → Option Value} {base : Heap} {N : List Str} {qual : Str} {scope : Scope} {f : Addr} {cd : Value} {A : Around} {outer : List Env} {s s1 : Shared} {H : Hp} {E : XK} {pn : List (Addr × Obj)} {σ : L2.St}
    (I : Inv (gcxOf P w K mg base N qual scope f cd A outer s H E pn) [] σ H s1) (hcel : (envOfC qual scope s.heap.objs.size f cd).cells = []) :
    GFOk ⟨⟨P, w, base, outer, s.heap.objs.size, pn⟩, K, mg, N, envOfC qual scope s.heap.objs.size f cd⟩ ∧ Inv (GF.X ⟨⟨P, w, base, outer, s.heap.objs.size, pn⟩, K, mg, N, envOfC qual scope s.heap.objs.size f cd⟩ (A.deeper (envOfC qual scope s.heap.objs.size f cd)) s H) ([] ++ []) σ H s1 := by
  have z : ∀ b : Addr, b ∉ ([] : List Addr) := fun b h => by cases h
  have noC : ∀ x c, (envOfC qual scope s.heap.objs.size f cd).cells.lookup x = some c → False := fun x c e => by rw [hcel] at e; cases e
  have fr : ∀ b ∈ frs outer, b < s.heap.objs.size := fun b hb => by
    obtain ⟨_, o, ho, _⟩ := I.ok.funs.mem hb
    exact Heap.lt_size ho
  have kp : ∀ b o, (cut s.heap.objs.size s).heap.get? b = some o → s.heap.get? b = some o := fun b o e => (cut_of e).2
  have hsz : (cut s.heap.objs.size s).heap.objs.size = s.heap.objs.size := cut_size (Nat.le_refl _)
  refine ⟨⟨I.ok.above, hcel, I.ok.bsz, fr⟩, ⟨I.ok.mod, I.ok.kind, I.ok.glob, I.ok.blt, ?_, I.ok.inj, I.ok.has, fun x c _ e => (noC x c e).elim, I.ok.hd, I.ok.frames, I.ok.stk, fun c y => (z c y).elim, fun c o e => ?_, ?_, fun c _ _ => z c, fun c y => (z c y).elim, cut_funs fr I.ok.funs, I.ok.frf⟩,
    I.os, I.bare, ⟨fun b o e => I.base.keep b o (kp b o e), fun b o e => I.base.slot b o (kp b o e), fun b o e => I.base.free b o (kp b o e), fun b o e => I.base.there b o (kp b o e), I.base.tups, I.base.frzs, I.base.tbls⟩, I.loc, I.cell, I.free, I.freeC, I.pin, I.hok, I.len⟩
  · show (cut s.heap.objs.size s).heap.objs.size ≤ _
    rw [hsz]
    exact I.ok.above
  · obtain ⟨h1, h2⟩ := I.ok.bs c o e
    refine ⟨?_, h2⟩
    have h1 : s.heap.get? c = some o := h1
    show (cut s.heap.objs.size s).heap.get? c = some o
    rw [cut_at (Heap.lt_size h1)]
    exact h1
  · show base.objs.size ≤ (cut s.heap.objs.size s).heap.objs.size
    rw [hsz]
    exact I.ok.bsz
/-- a generator def, by its body -/
theorem qfn_of {P : Program} {w : World} {K : PySem.W.Frag} {mg : Str → Option Value} {base : Heap} {k : Nat} {f : Addr} {name qual : Str} {params : Arguments} {body : List Stmt} {scope : Scope} {dV kV doc pm cdv ct oc : Value} {an od : Option Addr}
    {osl : Array (Option Value)} {N ps : List Str} {sp : SpQ} (lk : K.lookup f = some ⟨oc, od, .func (PySem.W.fnOf name qual params body scope dV kV doc pm an cdv ct), osl⟩) (hcd : PySem.W.codeIn K cdv qual = true) (S : GScope N ps scope) (hcel : ∀ n, (envOfC qual scope n f cdv).cells = [])
    (hbody : ∀ (A : Around) (outer : List Env) (n0 : Nat) (pn : List (Addr × Obj)) (H : Hp) (vs : List V) (L : Nat) (C : Ct) (En : Hp → Hp → Prop), Room k (A.deeper (envOfC qual scope n0 f cdv)) → sp vs H L C En →
      ∃ t, QSs ⟨⟨P, w, base, outer, n0, pn⟩, K, mg, N, envOfC qual scope n0 f cdv⟩ (A.deeper (envOfC qual scope n0 f cdv)) C body t ∧ t { nx := fun n Hr _ H' => n = 0 ∧ En Hr H' } L H (start N vs) H) :
    GFnQ P w K mg base (k + 1) f (PySem.W.fnOf name qual params body scope dV kV doc pm an cdv ct) ps sp := by
  refine ⟨fun A outer s H args us vs hr e0 hb r hl => ?_⟩
  have KX : K.In s.heap := e0.mod.kin.keeps fun b o e => (e0.bs b o e).1
  have lim : s.heap.NoLimit := e0.mod.nolimit.keeps fun b o e => (e0.bs b o e).1
  have hkind : ∀ y ∈ ps.zip us, scope.names.lookup y.1 = some .local ∨ (scope.names.lookup y.1 = some .cell ∧ ((cellsFrom (s.heap.objs.size + 1) scope.names []).lookup y.1).isSome = true) := fun ⟨n, v⟩ hy => by
    rcases S.par n (List.of_mem_zip hy).1 with q | q
    · exact .inl q
    · exact .inr ⟨q, PySem.W.cellsFrom_some _ _ _ (.inl q)⟩
  refine codeAny_call_generator hr.depth (KX _ _ lk) rfl S.co S.gen rfl (PySem.W.codeRec_of KX hcd) (hb _ _ _ _ ?_)
  refine wpAny_newFunctionEnv_cells S.kind hkind fun env he s1 x => ?_
  subst he
  have lim1 : s1.heap.NoLimit := lim.keeps x.toInCall.keep
  refine ⟨lim1, ?_⟩
  obtain ⟨h1, tk, es1, hk1⟩ := x.done
  have os1 : s1.os = s.os := by rw [es1]
  have gen1 : s1.gens = s.gens := by rw [es1]
  have kp1 : ∀ b o, s.heap.get? b = some o → s1.heap.get? b = some o := x.toInCall.keep
  have lt1 : s.heap.objs.size < s1.heap.objs.size := x.toInCall.ns.lt
  have main : ∀ (go : Obj) (nm qn : Value) (tk2 : Nat), go.cls = .type "generator" → go.data = .fields #[.int s1.gens.size 0, nm, qn] → go.slots = #[] → (∀ h : Heap, (h.push go).get? h.objs.size = some go) →
      (fun (u : Value) (s' : Shared) => GMadeQ P w base (k + 1) outer s.heap.objs.size sp vs H u s' ∧ s'.os = s.os ∧ AllBare s'.gens ∧ ∀ b o, s.heap.get? b = some o → s'.heap.get? b = some o)
        (.ref s1.heap.objs.size) { s1 with gens := s1.gens.push (.fresh (.func body (envOfC qual scope s.heap.objs.size f cdv))), toks := tk2, heap := s1.heap.push go } := by
    intro go nm qn tk2 hgc hgd0 hgs hgp
    have hgen : ∀ h : Heap, h.get? s1.heap.objs.size = some go → h.IsGen s1.heap.objs.size s1.gens.size := fun h e => ⟨go, nm, qn, e, hgc, hgd0, hgs⟩
    have hpushed : (s1.heap.push go).get? s1.heap.objs.size = some go := hgp _
    have bare' : AllBare (s1.gens.push (.fresh (.func body (envOfC qual scope s.heap.objs.size f cdv)))) := AllBare.push (by rw [gen1]; exact e0.bare) rfl
    have hgd : ∀ v, go.data ≠ .cell v := fun v q => by rw [hgd0] at q; cases q
    refine ⟨⟨s1.heap.objs.size, s1.gens.size, _, go, rfl, Nat.le_of_lt lt1, ?_, hpushed, hgen, hgd, Array.getElem?_push_size .., ?_⟩, os1, bare', fun b o e => Heap.get?_push_of_some _ (kp1 b o e)⟩
    · show _ < (s1.heap.push _).objs.size
      rw [Heap.size_push]; exact Nat.lt_succ_self _
    intro Aw B CI s2 H2 L C En hrw hfr hB bk hsp ci
    have e0w : Env0 P w K mg base Aw outer s H := ⟨hfr, e0.mod, e0.bs, e0.bsz, e0.funs, e0.frf, e0.hok, e0.bare⟩
    have I1 : Inv (gcxOf P w K mg base N qual scope f cdv Aw outer s H (fun _ _ _ => False) []) [] (start N vs) H s1 := inv_startG S hrw.hd e0w hl r x
    generalize hs' : ({ s1 with gens := s1.gens.push (.fresh (.func body (envOfC qual scope s.heap.objs.size f cdv))), toks := tk2, heap := s1.heap.push go } : Shared) = s' at hB bk
    have eh : s'.heap = s1.heap.push go := by rw [← hs']
    have I2 : Inv (gcxOf P w K mg base N qual scope f cdv Aw outer s H (fun _ _ _ => False) []) [] (start N vs) H s' := by
      refine I1.call' (ch := []) (by rw [← hs']) (by rw [eh]; exact Un.kept fun b o e => Heap.get?_push_of_some _ e) (by rw [eh]; exact I1.hok.kept fun b o e => Heap.get?_push_of_some _ e) (by rw [← hs']; exact bare') fun b z => by simp at z
    have I3 : Inv (gcxOf P w K mg base N qual scope f cdv Aw outer s H (fun _ _ _ => False) [(s1.heap.objs.size, go)]) [] (start N vs) H s' := by
      refine Inv.pinnedG I2 fun p hp => ?_
      rw [List.append_nil] at hp
      rw [List.mem_singleton.mp hp]
      refine ⟨by rw [eh]; exact hpushed, I1.hok.fresh (Nat.le_refl _), Nat.ne_of_gt lt1, I1.nofs (Nat.le_refl _), hgd⟩
    obtain ⟨fok, I4⟩ := inv_conv I3 (hcel _)
    obtain ⟨t, ht, hq⟩ := hbody Aw outer s.heap.objs.size [(s1.heap.objs.size, go)] H2 vs L C En (hrw.deeper _) hsp
    have sB : ∀ b ∈ B, s1.heap.objs.size < b := fun b hb => by
      have q := hB b hb
      rw [eh, Heap.size_push] at q
      exact q
    have bB : ∀ b ∈ B, s.heap.objs.size ≤ b ∧ b ≠ (envOfC qual scope s.heap.objs.size f cdv).locals := fun b hb =>
      ⟨Nat.le_of_lt (Nat.lt_trans lt1 (sB b hb)), Nat.ne_of_gt (Nat.lt_trans lt1 (sB b hb))⟩
    have ipB : ∀ p ∈ [(s1.heap.objs.size, go)] ++ ([] : List (Addr × Obj)), p.1 ∉ B := fun p hp hb => by
      rw [List.append_nil] at hp
      rw [List.mem_singleton.mp hp] at hb
      exact absurd (sB _ hb) (Nat.lt_irrefl _)
    obtain ⟨I5, z5⟩ := woken (F := ⟨⟨P, w, base, outer, s.heap.objs.size, [(s1.heap.objs.size, go)]⟩, K, mg, N, envOfC qual scope s.heap.objs.size f cdv⟩) fok bB ipB I4 bk
    refine seg_func ?_
    refine ht.run Aw B CI [] _ L s2 _ [] _ _ id id s2 H2 (start N vs) H2 _ ⟨fok, bB, ipB, over_func, rfl, rfl, rfl⟩ (fun n s₀ s3 fl hs => ?_) ⟨ci, z5, fun b hb => let ⟨o, e, _⟩ := bk.bnd b hb; ⟨o, e⟩, I5⟩ hq
    cases fl with
    | next =>
      obtain ⟨Hr, σ, H3, q, n0, en⟩ := hs
      subst n0
      exact seg_end (.ok (.ret .none)) ⟨.inl rfl, rfl, Hr, H3, q.out, en⟩
    | brk => obtain ⟨_, _, _, _, q⟩ := hs; exact False.elim q
    | cont => obtain ⟨_, _, _, _, q⟩ := hs; exact False.elim q
    | ret u => exact False.elim hs
  exact main _ _ _ _ rfl rfl rfl fun h => Heap.get?_push_size _ rfl
end Gq
set_option Elab.async false
set_option linter.all false
set_option maxRecDepth 100000
set_option maxHeartbeats 2000000
/-! The same rules, the reading told for each context. -/
namespace Gq
open PySem L2 PySem.Spec PyProof.Rows GenW
abbrev H00 : Hp := fun _ => none
section
variable {F : GF} {AF : Around} {C : Ct} {st : Stmt} {tg : Expr}
theorem qs_psF {t : Shared → Hp → TS} (h : ∀ s H, PS (F.X AF s H) st (t s H)) (ht : ∀ s H, t s H = t {} H00 := by intro _ _; rfl) : QS F AF C st (tQPlain (t {} H00)) :=
  qs_ps fun s H => by rw [← ht s H]; exact h s H
theorem qs_yieldF {e : Expr} {yp pos : Pos} {te : Shared → Hp → TE} (he : ∀ s H, PE (F.X AF s H) e (te s H)) (ht : ∀ s H, te s H = te {} H00 := by intro _ _; rfl) (hco : F.env.scope.isCoroutine = false := by rfl) (hi : interactive F.env = false := by rfl) : QS F AF C (.Expr (.Yield (some e) yp) pos) (tQYield C (te {} H00)) :=
  qs_yield (fun s H => by rw [← ht s H]; exact he s H) hco hi
theorem qs_forF {iter : Expr} {body : List Stmt} {wi : Shared → Hp → TI} {g : Shared → Hp → TG} {tb : TQ} {pos : Pos} (hi : ∀ s H, PI (F.X AF s H) tg iter (wi s H)) (hg : ∀ s H, PG (F.X AF s H) tg (g s H)) (hb : QSs F AF C body tb)
    (hw : ∀ s H, wi s H = wi {} H00 := by intro _ _; rfl) (hgw : ∀ s H, g s H = g {} H00 := by intro _ _; rfl) (hs : ∀ x, foldedSetIterable iter F.env x = pure x := by intro _; rfl) : QS F AF C (.For tg iter body [] pos) (tQFor (wi {} H00) (g {} H00) tb) :=
  qs_for (fun s H => by rw [← hw s H]; exact hi s H) (fun s H => by rw [← hgw s H]; exact hg s H) hb hs
theorem qs_ifF {test : Expr} {body orelse : List Stmt} {pos : Pos} {tc : Shared → Hp → TT} {ta tb : TQ} (hc : ∀ s H, PT (F.X AF s H) test (tc s H)) (ha : QSs F AF C body ta) (hb : QSs F AF C orelse tb) (ht : ∀ s H, tc s H = tc {} H00 := by intro _ _; rfl) : QS F AF C (.If test body orelse pos) (tQIf (tc {} H00) ta tb) :=
  qs_if (fun s H => by rw [← ht s H]; exact hc s H) ha hb
end
/-- what may change amid a generator: lists, dicts, sets, instances of other classes than C -/
def Fre (C : Addr) : HO → Prop
  | .lst _ => True
  | .dK _ => True
  | .dT _ => True
  | .set _ _ => True
  | .ext _ => True
  | .ins C' _ _ => C' ≠ C
  | _ => False
theorem Fre.tbl {C : Addr} {ps : Array Value} : ¬ Fre C (.tbl ps) := fun h => h
/-- all but what M names (and the tables) stays -/
structure Km (M : Addr → Prop) (C : Addr) (T : List (Addr × Str)) (H H' : Hp) : Prop where
  keep : ∀ a o, H a = some o → ¬ M a → (∀ ps, o ≠ .tbl ps) → H' a = some o
  old : ∀ a, M a → ∃ o, H a = some o ∧ Fre C o
  new : ∀ a, M a → ∃ o, H' a = some o ∧ Fre C o
  tab : LamX.Tabs T H → LamX.Tabs T H'
section
variable {M : Addr → Prop} {C : Addr} {T : List (Addr × Str)} {H H1 H2 : Hp}
theorem Km.trans (a : Km M C T H H1) (b : Km M C T H1 H2) : Km M C T H H2 := ⟨fun c o e n t => b.keep c o (a.keep c o e n t) n t, a.old, b.new, fun t => b.tab (a.tab t)⟩
theorem Km.refl (h : ∀ a, M a → ∃ o, H a = some o ∧ Fre C o) : Km M C T H H := ⟨fun _ _ e _ _ => e, h, h, id⟩
theorem Km.fix (k : Km M C T H H1) {a : Addr} {o : HO} (e : H a = some o) (hn : ¬ Fre C o) (ht : ∀ ps, o ≠ .tbl ps) : H1 a = some o :=
  k.keep a o e (fun z => by
    obtain ⟨o', e', f⟩ := k.old a z
    rw [e] at e'
    cases e'
    exact hn f) ht
theorem Km.tup (k : Km M C T H H1) {a : Addr} {xs : List V} (e : H a = some (.tup xs)) : H1 a = some (.tup xs) := k.fix e (fun h => h) fun _ z => nomatch z
theorem Km.own (k : Km M C T H H1) {a : Addr} (e : H1 a = none) : ¬ M a := fun z => by
  obtain ⟨o, e', _⟩ := k.new a z
  rw [e] at e'
  cases e'
theorem Km.then (k : Km M C T H H1) (e : LamX.ExtN H1 H2) (t : LamX.Tabs T H1 → LamX.Tabs T H2) : Km M C T H H2 :=
  ⟨fun a o h n z => e a o (k.keep a o h n z) z, k.old, fun a m => let ⟨o, h, f⟩ := k.new a m; ⟨o, e a o h (fun ps z => by subst z; exact f), f⟩, fun y => t (k.tab y)⟩
end
end Gq
set_option Elab.async false
set_option linter.all false
set_option maxRecDepth 100000
set_option maxHeartbeats 4000000
/-! Party.crossings for a consumer with turns of its own. -/
namespace Gq
open PySem L2 Sho NdefX Shg Sh1
theorem flat_at {α β : Type} (f : α → List β) : ∀ {l : List α} {i j : Nat} {x : α}, l[i]? = some x → j < (f x).length → ((l.take i).flatMap f).length + j < (l.flatMap f).length ∧ (l.flatMap f)[((l.take i).flatMap f).length + j]? = (f x)[j]?
  | [], _, _, _, e, _ => by simp at e
  | y :: l, 0, j, x, e, h => by
    obtain rfl : y = x := by simpa using e
    simp only [List.take_zero, List.flatMap_nil, List.length_nil, Nat.zero_add, List.flatMap_cons, List.length_append]
    exact ⟨by omega, List.getElem?_append_left h⟩
  | y :: l, i + 1, j, x, e, h => by
    have ih := flat_at f (l := l) (i := i) (j := j) (x := x) (by simpa using e) h
    simp only [List.take_succ_cons, List.flatMap_cons, List.length_append]
    refine ⟨by omega, ?_⟩
    rw [List.getElem?_append_right (by omega), ← ih.2]
    congr 1
    omega
section
variable {P : Program} {w : World} {K : PySem.W.Frag} {mg : Str → Option Value} {base : Heap}
def spCrossQ (C : Addr) (T : List (Addr × Str)) : SpQ := fun vs H L Ct En => ∃ (p : Addr) (xs : List Stay) (M : Addr → Prop), vs = [.ref p] ∧ PartyAt C H p xs ∧ Short xs ∧ xs.length ≤ 100 ∧ LamX.Tabs T H ∧ L = (crossed (xs.map rw3)).length ∧ (∀ a, M a → ∃ o, H a = some o ∧ Fre C o) ∧
  (∀ m Hr x H1 q, m < L → Km M C T H Hr → Grows T Hr H1 → (crossed (xs.map rw3))[L - 1 - m]? = some q → PairAt H1 x q → Ct.Yd m Hr x H1) ∧ (∀ H1 H2, Ct.Cr H1 H2 → Km M C T H1 H2) ∧ (∀ Hr H1, Km M C T H Hr → Grows T Hr H1 → En Hr H1)
theorem rws_km {M : Addr → Prop} {C : Addr} {T : List (Addr × Str)} {H H' : Hp} (k : Km M C T H H') {ws : List V} {rs : List Rw} (h : RwsV H ws rs) : RwsV H' ws rs := Shg.pair_mono (fun _ _ ⟨t, e, ht⟩ => ⟨t, e, k.tup ht⟩) h
theorem ok_crossQ {f c TP C fB fL : Addr} {fd fdB fdL : FuncData} {T : List (Addr × Str)} (F : Shg.FunL K "crossings" "Party.crossings" sPCross f c fd) (B : Shg.Blt mg) (PC : PartyC K mg C) (TB : LamX.TabB base mg c TP) (hm : (TP, qCross) ∈ T) (hu : ∀ p ∈ T, p.1 = TP → p.2 = qCross)
    (GB : FnOk P w K mg base CX0 5 fB fdB ["stays"] (spBottom K T)) (mB : mg "bottom_up" = some (.ref fB)) (kB : PySem.W.keepIn K (.ref fB) = true) (bB : Binds K fdB ["stays"] [])
    (GL : FnOk P w K mg base CX0 6 fL fdL ["stays", "taker"] (spLiftedN K T)) (mL : mg "lifted_from" = some (.ref fL)) (kL : PySem.W.keepIn K (.ref fL) = true) (bL : Binds K fdL ["stays", "taker"] []) :
    GFnQ P w K mg base 8 f fd ["self"] (spCrossQ C T) := by
  obtain ⟨oc, od, kV, doc, pm, an, ct, osl, rfl, lk, hcd⟩ := F.ex
  refine qfn_of lk hcd scCross (fun n => rfl) fun A outer n0 pn H vs L Ct En hr h => ?_
  obtain ⟨p, xs, M, rfl, PA, hsh, hlen, hT, rfl, hM, kY, kC, kE⟩ := h
  have nd := scCross.nd
  refine ⟨_, qss_cons (qs_psF (fun s H => ps_set (i := 1) nd rfl (Or.inl rfl) (pe_revL (pe_call GB (hr.mono (by decide)) rfl mB kB bB .nil pass0 (pa_cons (pe_fld (pv 0) rfl) pa_nil)))))
    (qss_cons (qs_forF (fun s H => pi_list (pe_callBK (cr_sortedLam (k := 1) (hr.mono (by decide))) (by rfl) B.sorted (by decide +kernel) (pa_cons (pv 1) pa_nil) (pk_cons (pe_lam TB rfl hm hu (Shg.free_by (os := (defScope sPCross).names) (by decide +kernel))) pk_nil))) (fun s H => pg_name (i := 2) nd rfl (Or.inl rfl))
      (qss_cons (qs_forF (fun s H => pi_list (pe_call GL (hr.mono (by decide)) rfl mL kL bL .nil pass0 (pa_cons (pe_fld (pv 0) rfl) (pa_cons (pv 2) pa_nil)))) (fun s H => pg_name (i := 3) nd rfl (Or.inl rfl))
        (qss_cons (qs_yieldF (fun s H => pe_tup (pa_cons (pe_ix ix_tup (pv 2) pe_int (fun _ _ => rfl)) (pa_cons (pe_ix ix_tup (pv 3) pe_int (fun _ _ => rfl)) pa_nil)))) qss_nil)) qss_nil)) qss_nil), ?_⟩
  obtain ⟨dx, a, ws, h1, h2, h3⟩ := id PA
  have hw : RwsV H ws (xs.map rw3) := rws_of h3
  have lrs : (xs.map rw3).length ≤ 100 := by rw [List.length_map]; exact hlen
  have hok : ∀ r ∈ xs.map rw3, OkRw r := fun r hr => by
    obtain ⟨x, hx, rfl⟩ := List.mem_map.mp hr
    exact (hsh x hx).2
  generalize xs.map rw3 = rs at kY hw lrs hok ⊢
  have ncl : ∀ {dx' : Addr} {fs : List (Str × V)}, ¬ Fre C (.ins C dx' fs) := fun h => h rfl
  refine ⟨_, rfl, p, C, dx, _, .ref a, rfl, h1, PC.cl, PC.nS, lk_stays _, a, ws, rs.map Rw.come, rfl, .inr (SqT.of h2), ?_, ?_, hT, fun pb H1 G1 e1 => ⟨pb, _, rfl, SqL.of e1, fun pt hpt => ?_⟩⟩
  · rw [List.length_map, Shg.pair_len hw]
  · intro i y n hy hn
    obtain ⟨r, hr', t, rfl, ht⟩ := Shg.pair_get hw hy
    rw [List.getElem?_map, hr'] at hn
    exact ⟨t, _, rfl, ht, congrArg (Option.map V.int) hn⟩
  · have hb1 : RwsV H1 (sortV (rs.map Rw.come) ws).reverse (bot rs).reverse := paired_rev (bot_paired (hw.ext G1.ext))
    have s2 : Same H1 (upd H1 pt (.lst (sortV (rs.map Rw.come) ws).reverse)) := same_upd hpt
    have e2 : (upd H1 pt (.lst (sortV (rs.map Rw.come) ws).reverse)) pt = some (.lst (sortV (rs.map Rw.come) ws).reverse) := upd_same
    have G2 := G1.trans (Sh1.Grows.of s2)
    have hb2 : RwsV (upd H1 pt (.lst (sortV (rs.map Rw.come) ws).reverse)) (sortV (rs.map Rw.come) ws).reverse (bot rs).reverse := Shg.pair_mono (fun _ _ k => RwAt.same s2 k) hb1
    generalize (sortV (rs.map Rw.come) ws).reverse = ts at s2 e2 G2 hb2 ⊢
    generalize upd H1 pt (.lst ts) = H2 at s2 e2 G2 hb2 ⊢
    refine ⟨_, rfl, G2.tab hT, fun f0 c0 H3 G3 n0 l0 => ⟨pt, f0, _, ts, (bot rs).reverse.map Rw.go, rfl, rfl, .inl (SqL.of (G3.ext _ _ e2 fun _ z => nomatch z)), l0, ?_, fun A' outer' s' i v n u hr' e0 hv hn ru => ?_, fun ps hps => ?_⟩⟩
    · rw [List.length_map, Shg.pair_len hb2]
    · obtain ⟨r, hr1, t, rfl, ht⟩ := Shg.pair_get hb2 hv
      rw [List.getElem?_map, hr1] at hn
      exact key_item (j := 2) l0 (nscope_by (sc := Shg.scL [("stay", .local)]) (by decide +kernel)) rfl (fun _ _ _ => rfl) (fun A outer s => pe_ix ix_tup (pv 0) pe_int (fun _ _ => rfl)) hr' e0 ⟨t, _, rfl, G3.ext _ _ ht (fun _ z => nomatch z), congrArg (Option.map V.int) hn⟩ ru
    · have hb4 : RwsV (upd H3 ps (.lst (sortV ((bot rs).reverse.map Rw.go) ts))) (sortV ((bot rs).reverse.map Rw.go) ts) (takers rs) := Shg.pair_mono (fun _ _ k => RwAt.same (same_upd hps) k) (sort_paired Rw.go (hb2.ext G3.ext))
      have e4 : (upd H3 ps (.lst (sortV ((bot rs).reverse.map Rw.go) ts))) ps = some (.lst (sortV ((bot rs).reverse.map Rw.go) ts)) := upd_same
      have G23 := G2.trans G3
      have nM4 : ¬ M ps := fun z => by
        obtain ⟨o, e, f⟩ := hM ps z
        have := G23.ext ps o e fun qs y => by subst y; exact f
        rw [hps] at this
        cases this
      have G4 := G23.trans (Grows.upd hps (o := .lst (sortV ((bot rs).reverse.map Rw.go) ts)))
      generalize sortV ((bot rs).reverse.map Rw.go) ts = zs at hb4 e4 G4 ⊢
      generalize upd H3 ps (.lst zs) = H4 at hb4 e4 G4 ⊢
      have lz : zs.length = rs.length := by rw [Shg.pair_len hb4, takers_length]
      have K0 : Km M C T H H := Km.refl hM
      have K4 : Km M C T H4 H4 := Km.refl (K0.then G4.ext G4.tab).new
      have fl : ∀ (i : Nat), (((takers rs).take i).flatMap fun x => (lifted rs x).map fun y => (x.nm, y.nm)).length = (((takers rs).take i).flatMap fun x => (lifted rs x).map fun y => (x.nm, y.nm)).length := fun _ => rfl
      refine ⟨ps, rfl, ⟨_, SqL.of e4⟩, qloop_any (walk_list (K := K) (a := ps) (xs := zs)) (fun i n Hr σ H' => Km M C T H4 H' ∧ Km M C T H Hr ∧ Grows T Hr H' ∧ (∃ o2 o3, σ = [some (.ref p), some (.ref pt), o2, o3]) ∧ n + (((takers rs).take i).flatMap fun x => (lifted rs x).map fun y => (x.nm, y.nm)).length = (crossed rs).length)
        ⟨K4, K0, G4, ⟨none, none, rfl⟩, rfl⟩ (fun i n Hr σ H' _ q => SqL.of (q.1.keep _ _ e4 nM4 fun _ z => nomatch z)) (fun i v n Hr σ H5 H6 hi s5 yy => ?_) fun n Hr σ H5 s5 => ?_⟩
      · obtain ⟨K45, K0r, Gr5, ⟨o2, o3, rfl⟩, q5⟩ := s5
        obtain ⟨rfl, e5⟩ := yy
        obtain ⟨x, hx, t, rfl, ht⟩ := Shg.pair_get hb4 e5
        have K05 := K0r.then Gr5.ext Gr5.tab
        have ht6 := K45.tup ht
        have hxr : x ∈ rs := takers_mem (List.mem_of_getElem? hx)
        have ex : (takers rs).take (i + 1) = (takers rs).take i ++ [x] := by
          rw [List.take_succ, hx]
          rfl
        refine ⟨_, rfl, p, C, dx, _, .ref a, rfl, K05.fix h1 ncl (fun _ z => nomatch z), PC.cl, PC.nS, lk_stays _, _, rfl, a, .ref t, ws, rs, x, rfl, .inr (SqT.of (K05.tup h2)), rws_km K05 hw, ⟨t, rfl, ht6⟩, hxr, hok, Nat.le_trans lrs (by decide), K05.tab hT, fun pl H7 us hN G7 e7 r7 => ?_⟩
        have nM7 : ¬ M pl := fun z => by
          obtain ⟨o, e, f⟩ := K05.new pl z
          obtain ⟨qs, y⟩ := hN o e
          subst y
          exact f
        have lu := Shg.pair_len r7
        have K07 := K05.then G7.ext G7.tab
        have ht7 := G7.ext _ _ ht6 fun _ z => nomatch z
        refine ⟨pl, rfl, ⟨_, SqL.of e7⟩, qloop_any (walk_list (K := K) (a := pl) (xs := us)) (fun j n Hr σ' H' => Km M C T H7 H' ∧ Km M C T H Hr ∧ Grows T Hr H' ∧ (∃ o3, σ' = [some (.ref p), some (.ref pt), some (.ref t), o3]) ∧ n + ((((takers rs).take i).flatMap fun x => (lifted rs x).map fun y => (x.nm, y.nm)).length + j) = (crossed rs).length)
          ⟨Km.refl K07.new, K0r, Gr5.trans G7, ⟨o3, rfl⟩, q5⟩ (fun j n Hr σ' H' _ q => SqL.of (q.1.keep _ _ e7 nM7 fun _ z => nomatch z)) (fun j v' n Hr σ' H8 H9 hj s8 yy => ?_) fun n Hr σ' H8 s8 => ?_⟩
        · obtain ⟨K78, K0r', Gr8, ⟨o3', rfl⟩, q8⟩ := s8
          obtain ⟨rfl, e8⟩ := yy
          obtain ⟨y, hy, t', rfl, ht'⟩ := Shg.pair_get r7 e8
          have ht9 := K78.tup ht7
          have hy9 := K78.tup ht'
          obtain ⟨l1, l2⟩ := flat_at (fun x : Rw => (lifted rs x).map fun y => (x.nm, y.nm)) (l := takers rs) (i := i) (j := j) hx (by rw [List.length_map, ← lu]; exact hj)
          have l1 : (((takers rs).take i).flatMap fun x => (lifted rs x).map fun y => (x.nm, y.nm)).length + j < (crossed rs).length := l1
          have l2 : (crossed rs)[(((takers rs).take i).flatMap fun x => (lifted rs x).map fun y => (x.nm, y.nm)).length + j]? = some (x.nm, y.nm) := by
            refine l2.trans ?_
            rw [List.getElem?_map, hy]
            rfl
          refine ⟨n - 1, by omega, _, rfl, t, _, 0, .str x.nm, rfl, rfl, SqT.of ht9, atI_nat (j := 0) rfl, _, rfl, t', _, 0, .str y.nm, rfl, rfl, SqT.of hy9, atI_nat (j := 0) rfl, by show 2 ≤ sizeLine; decide, fun q hq => ?_⟩
          have Gq := Grows.upd (T := T) hq (o := .tup [.str x.nm, .str y.nm])
          refine ⟨kY _ _ _ _ (x.nm, y.nm) (by omega) K0r' (Gr8.trans Gq) ?_ ⟨q, rfl, upd_same⟩, fun H12 cr => ?_⟩
          · rw [show (crossed rs).length - 1 - (n - 1) = (((takers rs).take i).flatMap fun x => (lifted rs x).map fun y => (x.nm, y.nm)).length + j from by omega]
            exact l2
          · have K12 := kC _ _ cr
            exact ⟨(K78.then Gq.ext Gq.tab).trans K12, (K0r'.then (Gr8.trans Gq).ext (Gr8.trans Gq).tab).trans K12, Grows.rfl' _, ⟨_, rfl⟩, by omega⟩
        · obtain ⟨K78, K0r', Gr8, ⟨o3', rfl⟩, q8⟩ := s8
          refine ⟨(K45.then G7.ext G7.tab).trans K78, K0r', Gr8, ⟨_, _, rfl⟩, ?_⟩
          rw [ex, List.flatMap_append, List.flatMap_cons, List.flatMap_nil, List.append_nil, List.length_append, List.length_map, ← lu]
          exact q8
      · obtain ⟨K45, K0r, Gr5, ⟨o2, o3, rfl⟩, q5⟩ := s5
        rw [lz, ← takers_length rs, List.take_length] at q5
        have z : n = 0 := by
          have : (crossed rs).length = ((takers rs).flatMap fun x => (lifted rs x).map fun y => (x.nm, y.nm)).length := rfl
          omega
        exact ⟨z, kE _ _ K0r Gr5⟩
end
end Gq
set_option Elab.async false
set_option linter.all false
set_option maxRecDepth 100000
set_option maxHeartbeats 2000000
/-! Sleeping generators that a run does not wake stay as they are. -/
namespace Gq
open PySem
open Sem (wp)
abbrev dead : Resume → Sem PySem.Fin := fun _ => .unsupported ""
theorem no_run {M : Model} {Γ : Ctx} {p : Pos} {t : Sem PySem.Fin} {fs : List Frame} {s s' : Shared} {e : End} (h : Runs M Γ p t fs s e s') : ∀ w, t ≠ .unsupported w := by
  induction h <;> intro w z <;> first | (cases z; done) | (rename_i ih _; exact ih _ z) | (rename_i ih; exact ih _ z) | (rename_i ih _ _; exact ih _ z)
/-- no generator's frame -/
def NoGen (fs : List Frame) : Prop := ∀ F ∈ fs, ∃ k h g l c p kp, F = Frame.ret k h g l c p kp
theorem NoGen.split : ∀ {fs : List Frame}, NoGen fs → splitAtGen fs = none
  | [], _ => rfl
  | F :: fs, h => by
    obtain ⟨k, hh, g, l, c, p, kp, rfl⟩ := h F List.mem_cons_self
    show (splitAtGen fs).map _ = none
    rw [NoGen.split fun G hG => h G (List.mem_cons_of_mem _ hG)]
    rfl
theorem NoGen.of_split : ∀ {fs : List Frame}, splitAtGen fs = none → NoGen fs
  | [], _ => fun F h => nomatch h
  | .gen g k l c p :: fs, h => by cases h
  | .ret k hh g l c p kp :: fs, h => fun F hF => by
    rcases List.mem_cons.mp hF with rfl | hF
    · exact ⟨_, _, _, _, _, _, _, rfl⟩
    · refine NoGen.of_split (fs := fs) ?_ F hF
      cases q : splitAtGen fs with
      | none => rfl
      | some x =>
        have h' : (splitAtGen fs).map _ = none := h
        rw [q] at h'
        cases h'
theorem NoGen.app {a b : List Frame} (x : NoGen a) (y : NoGen b) : NoGen (a ++ b) := fun F h => (List.mem_append.mp h).elim (x F) (y F)
def EndNo : End → Prop
  | .ret _ => True
  | .susp _ _ _ _ _ _ fs => NoGen fs
/-- all that sleep hold no generator's frame -/
def Cl (s : Shared) : Prop := ∀ (i : Nat) k l c p fs cl, s.gens[i]? = some (GenState.suspended k l c p fs cl) → NoGen fs
theorem Cl.set {s : Shared} (h : Cl s) {g : Nat} {x : GenState} (hx : ∀ k l c p fs cl, x = .suspended k l c p fs cl → NoGen fs) : Cl (s.setGen g x) := fun i k l c p fs cl e => by
  have e : (s.gens.setIfInBounds g x)[i]? = _ := e
  rw [Array.getElem?_setIfInBounds] at e
  split at e
  · split at e
    · exact hx _ _ _ _ _ _ (Option.some.inj e)
    · cases e
  · exact h i k l c p fs cl e
theorem Cl.fin {s : Shared} (h : Cl s) {g : Nat} {e : End} (he : EndNo e) : Cl (s.setGen g e.genState) := h.set fun k l c p fs cl z => by
  cases e with
  | ret r => cases z
  | susp v g l k c p fs => cases z; exact he
section
variable {M : Model} {DS : Nat → Option GenState} {RS : Nat → GenState}
/-- the real ones in the place of the dead ones -/
def ov (DS : Nat → Option GenState) (RS : Nat → GenState) (s : Shared) : Shared := { s with gens := s.gens.mapIdx fun i x => if (DS i).isSome = true then RS i else x }
/-- the dead ones stand there -/
def Dd (DS : Nat → Option GenState) (s : Shared) : Prop := ∀ i d, DS i = some d → s.gens[i]? = some d
structure Fix (DS : Nat → Option GenState) (RS : Nat → GenState) : Prop where
  dead : ∀ i d, DS i = some d → ∃ l c p fs cl, d = .suspended Gq.dead l c p fs cl
  seen : ∀ i d, DS i = some d → (RS i).seen = d.seen
theorem ov_size {s : Shared} : (ov DS RS s).gens.size = s.gens.size := Array.size_mapIdx ..
theorem ov_no {s : Shared} {i : Nat} (h : DS i = none) : (ov DS RS s).gens[i]? = s.gens[i]? := by
  show (s.gens.mapIdx _)[i]? = _
  rw [Array.getElem?_mapIdx, h]
  cases s.gens[i]? <;> rfl
theorem ov_at {s : Shared} {i : Nat} {d : GenState} (hd : Dd DS s) (h : DS i = some d) : (ov DS RS s).gens[i]? = some (RS i) := by
  show (s.gens.mapIdx _)[i]? = _
  rw [Array.getElem?_mapIdx, hd i d h, h]
  rfl
theorem ov_set {s : Shared} {g : Nat} {x : GenState} (h : DS g = none) : ov DS RS (s.setGen g x) = (ov DS RS s).setGen g x := by
  unfold ov Shared.setGen
  simp only [Shared.mk.injEq, true_and, and_true]
  apply Array.ext_getElem?
  intro i
  rw [Array.getElem?_mapIdx, Array.getElem?_setIfInBounds, Array.getElem?_setIfInBounds, Array.getElem?_mapIdx, Array.size_mapIdx]
  by_cases e : g = i
  · subst e
    rw [if_pos rfl, if_pos rfl, h]
    by_cases e2 : g < s.gens.size
    · rw [if_pos e2]; rfl
    · rw [if_neg e2]; rfl
  · rw [if_neg e, if_neg e]
theorem ov_push {s : Shared} {x : GenState} (hd : Dd DS s) : ov DS RS { s with gens := s.gens.push x } = { ov DS RS s with gens := (ov DS RS s).gens.push x } := by
  unfold ov
  simp only [Shared.mk.injEq, true_and, and_true]
  apply Array.ext_getElem?
  intro i
  rw [Array.getElem?_mapIdx, Array.getElem?_push, Array.getElem?_push, Array.getElem?_mapIdx, Array.size_mapIdx]
  by_cases e : i = s.gens.size
  · subst e
    rw [if_pos rfl, if_pos rfl]
    have hn : DS s.gens.size = none := by
      cases q : DS s.gens.size with
      | none => rfl
      | some d =>
        have := hd _ d q
        simp at this
    simp [hn]
  · rw [if_neg e, if_neg e]
theorem Dd.set {s : Shared} {g : Nat} {x : GenState} (hd : Dd DS s) (h : DS g = none) : Dd DS (s.setGen g x) := fun i d e => by
  have z : i ≠ g := fun z => by subst z; rw [h] at e; cases e
  show (s.gens.setIfInBounds g x)[i]? = _
  rw [Array.getElem?_setIfInBounds_ne (Ne.symm z)]
  exact hd i d e
theorem Dd.push {s : Shared} {x : GenState} (hd : Dd DS s) : Dd DS { s with gens := s.gens.push x } := fun i d e => by
  have hlt : i < s.gens.size := (Array.getElem?_eq_some_iff.mp (hd i d e)).1
  show (s.gens.push x)[i]? = _
  rw [Array.getElem?_push_lt hlt, ← Array.getElem?_eq_getElem hlt]
  exact hd i d e
theorem Cl.push {s : Shared} {c : Code} (h : Cl s) : Cl { s with gens := s.gens.push (.fresh c) } := fun i k l c' p fs cl e => by
  have e : (s.gens.push (.fresh c))[i]? = _ := e
  rw [Array.getElem?_push] at e
  split at e
  · cases e
  · exact h i k l c' p fs cl e
theorem no_ds {s : Shared} {g : Nat} {st : GenState} (F : Fix DS RS) (hd : Dd DS s) (h : s.gens[g]? = some st) (hn : ∀ l c p fs cl, st ≠ .suspended dead l c p fs cl) : DS g = none := by
  cases q : DS g with
  | none => rfl
  | some d =>
    have e := hd g d q
    rw [h] at e
    cases e
    obtain ⟨l, c, p, fs, cl, z⟩ := F.dead g _ q
    exact absurd z (hn _ _ _ _ _)
/-- a run over the dead ones is a run over the real ones -/
theorem runs_dead (F : Fix DS RS) {Γ : Ctx} {p : Pos} {t : Sem PySem.Fin} {fs : List Frame} {s s' : Shared} {e : End} (h : Runs M Γ p t fs s e s') :
    NoGen fs → Cl s → Dd DS s → EndNo e ∧ Cl s' ∧ Dd DS s' ∧ Runs M Γ p t fs (ov DS RS s) e (ov DS RS s') := by
  induction h with
  | done => exact fun _ hc hd => ⟨trivial, hc, hd, .done⟩
  | raise => exact fun _ hc hd => ⟨trivial, hc, hd, .raise⟩
  | again hq _ ih => exact fun hf hc hd => let ⟨a, b, c, d⟩ := ih hf hc hd; ⟨a, b, c, .again hq d⟩
  | rule _ ih => exact fun hf hc hd => let ⟨a, b, c, d⟩ := ih hf hc hd; ⟨a, b, c, .rule d⟩
  | «at» _ ih => exact fun hf hc hd => let ⟨a, b, c, d⟩ := ih hf hc hd; ⟨a, b, c, .at d⟩
  | load ho _ ih => exact fun hf hc hd => let ⟨a, b, c, d⟩ := ih hf hc hd; ⟨a, b, c, .load ho d⟩
  | update ho _ ih => exact fun hf hc hd => let ⟨a, b, c, d⟩ := ih hf hc hd; ⟨a, b, c, .update ho d⟩
  | loadIfAlive _ ih => exact fun hf hc hd => let ⟨a, b, c, d⟩ := ih hf hc hd; ⟨a, b, c, .loadIfAlive d⟩
  | point _ ih => exact fun hf hc hd => let ⟨a, b, c, d⟩ := ih hf hc hd; ⟨a, b, c, .point d⟩
  | alloc _ ih => exact fun hf hc hd => let ⟨a, b, c, d⟩ := ih hf hc hd; ⟨a, b, c, .alloc d⟩
  | fresh _ ih => exact fun hf hc hd => let ⟨a, b, c, d⟩ := ih hf hc hd; ⟨a, b, c, .fresh d⟩
  | ask _ ih => exact fun hf hc hd => let ⟨a, b, c, d⟩ := ih hf hc hd; ⟨a, b, c, .ask d⟩
  | choose hn _ ih => exact fun hf hc hd => let ⟨a, b, c, d⟩ := ih hf hc hd; ⟨a, b, c, .choose hn d⟩
  | os _ ih => exact fun hf hc hd => let ⟨a, b, c, d⟩ := ih hf hc hd; ⟨a, b, c, .os d⟩
  | handled _ ih => exact fun hf hc hd => let ⟨a, b, c, d⟩ := ih hf hc hd; ⟨a, b, c, .handled d⟩
  | stack _ ih => exact fun hf hc hd => let ⟨a, b, c, d⟩ := ih hf hc hd; ⟨a, b, c, .stack d⟩
  | thread _ ih => exact fun hf hc hd => let ⟨a, b, c, d⟩ := ih hf hc hd; ⟨a, b, c, .thread d⟩
  | genState hst _ ih =>
    intro hf hc hd
    obtain ⟨a, b, c, d⟩ := ih hf hc hd
    refine ⟨a, b, c, ?_⟩
    rename_i g' st _ _ _ _ _ _ _
    cases q : DS g' with
    | none => exact .genState ((ov_no q).trans hst) d
    | some dd =>
      have e := hd _ _ q
      rw [hst] at e
      cases e
      refine .genState (ov_at hd q) ?_
      rw [F.seen _ _ q]
      exact d
  | newGen _ ih =>
    intro hf hc hd
    obtain ⟨a, b, c, d⟩ := ih hf (Cl.push hc) (Dd.push hd)
    refine ⟨a, b, c, .newGen ?_⟩
    rw [ov_size, ← ov_push hd]
    exact d
  | call _ _ ih1 ih2 =>
    intro hf hc hd
    obtain ⟨a1, b1, c1, d1⟩ := ih1 hf hc hd
    obtain ⟨a2, b2, c2, d2⟩ := ih2 hf b1 c1
    exact ⟨a2, b2, c2, .call d1 d2⟩
  | callSusp _ ih =>
    intro hf hc hd
    obtain ⟨a, b, c, d⟩ := ih hf hc hd
    refine ⟨NoGen.app a fun F hF => ?_, b, c, .callSusp d⟩
    rw [List.mem_singleton.mp hF]
    exact ⟨_, _, _, _, _, _, _, rfl⟩
  | yield => exact fun hf hc hd => ⟨(fun F h => nomatch h), hc, hd, .yield⟩
  | resumeFresh hst h1 hq h2 ih1 ih2 =>
    intro hf hc hd
    have hn := no_ds F hd hst (fun _ _ _ _ _ z => nomatch z)
    obtain ⟨a1, b1, c1, d1⟩ := ih1 hf (hc.set fun _ _ _ _ _ _ z => nomatch z) (hd.set hn)
    obtain ⟨a2, b2, c2, d2⟩ := ih2 hf (b1.fin a1) (c1.set hn)
    rw [ov_set hn] at d1 d2
    exact ⟨a2, b2, c2, .resumeFresh ((ov_no hn).trans hst) d1 hq d2⟩
  | resumeSuspended hst h1 hq h2 ih1 ih2 =>
    intro hf hc hd
    have hn := no_ds F hd hst (fun _ _ _ _ _ z => by cases z; exact no_run h1 _ rfl)
    obtain ⟨a1, b1, c1, d1⟩ := ih1 (hc _ _ _ _ _ _ _ hst) (hc.set fun _ _ _ _ _ _ z => nomatch z) (hd.set hn)
    obtain ⟨a2, b2, c2, d2⟩ := ih2 hf (b1.fin a1) (c1.set hn)
    rw [ov_set hn] at d1 d2
    exact ⟨a2, b2, c2, .resumeSuspended ((ov_no hn).trans hst) d1 hq d2⟩
  | resumeJustStarted hst hv _ ih =>
    intro hf hc hd
    have hn := no_ds F hd hst (fun _ _ _ _ _ z => nomatch z)
    obtain ⟨a, b, c, d⟩ := ih hf hc hd
    exact ⟨a, b, c, .resumeJustStarted ((ov_no hn).trans hst) hv d⟩
  | resumeThrowFresh hst _ ih =>
    intro hf hc hd
    have hn := no_ds F hd hst (fun _ _ _ _ _ z => nomatch z)
    obtain ⟨a, b, c, d⟩ := ih hf (hc.set fun _ _ _ _ _ _ z => nomatch z) (hd.set hn)
    rw [ov_set hn] at d
    exact ⟨a, b, c, .resumeThrowFresh ((ov_no hn).trans hst) d⟩
  | resumeRunning hst _ ih =>
    intro hf hc hd
    have hn := no_ds F hd hst (fun _ _ _ _ _ z => nomatch z)
    obtain ⟨a, b, c, d⟩ := ih hf hc hd
    exact ⟨a, b, c, .resumeRunning ((ov_no hn).trans hst) d⟩
  | resumeFinished hst _ ih =>
    intro hf hc hd
    have hn := no_ds F hd hst (fun _ _ _ _ _ z => nomatch z)
    obtain ⟨a, b, c, d⟩ := ih hf hc hd
    exact ⟨a, b, c, .resumeFinished ((ov_no hn).trans hst) d⟩
  | segRet _ _ ih1 ih2 =>
    intro hf hc hd
    obtain ⟨a1, b1, c1, d1⟩ := ih1 (fun F h => nomatch h) hc hd
    obtain ⟨a2, b2, c2, d2⟩ := ih2 (fun F h => hf F (List.mem_cons_of_mem _ h)) b1 c1
    exact ⟨a2, b2, c2, .segRet d1 d2⟩
  | segGen h1 h2 ih1 ih2 =>
    intro hf
    have := hf.split
    cases this
  | segSuspOut hs _ ih =>
    intro hf hc hd
    obtain ⟨a, b, c, d⟩ := ih (fun F h => nomatch h) hc hd
    exact ⟨NoGen.app a hf, b, c, .segSuspOut hs d⟩
  | segSuspGen hs h1 hq h2 ih1 ih2 =>
    intro hf
    rw [hf.split] at hs
    cases hs
/-- .. a program's tree -/
theorem wp_dead (F : Fix DS RS) {α : Type} {Γ : Ctx} (t : Sem α) : ∀ {Q : α → Pos → Shared → Prop} {E : Value → Pos → Shared → Prop} {p : Pos} {s : Shared}, Cl s → Dd DS s → wp M Γ t Q E p s →
    wp M Γ t (fun a p' s' => ∃ sd, s' = ov DS RS sd ∧ Dd DS sd ∧ Q a p' sd) (fun e p' s' => ∃ sd, s' = ov DS RS sd ∧ Dd DS sd ∧ E e p' sd) p (ov DS RS s) := by
  induction t with
  | pure a => exact fun _ hd h => ⟨_, rfl, hd, h⟩
  | raise e => exact fun _ hd h => ⟨_, rfl, hd, h⟩
  | unsupported _ => exact fun _ _ h => h
  | finish _ => exact fun _ _ h => h
  | rule _ k ih => exact fun hc hd h => ih () hc hd h
  | «at» p' k ih => exact fun hc hd h => ih () hc hd h
  | load a _ k ih => exact fun hc hd h => let ⟨o, ho, h⟩ := h; ⟨o, ho, ih o hc hd h⟩
  | update a _ f k ih => exact fun {Q E p s} hc hd h => ⟨h.1, ih () (s := { s with heap := s.heap.update a f }) hc hd h.2⟩
  | loadIfAlive a k ih => exact fun hc hd h => ih _ hc hd h
  | point _ k ih => exact fun hc hd h => ih () hc hd h
  | register _ _ => exact fun _ _ h => h
  | alloc o k ih => exact fun {Q E p s} hc hd h => ih _ (s := { s with heap := s.heap.push o }) hc hd h
  | fresh k ih => exact fun {Q E p s} hc hd h => ih _ (s := { s with toks := s.toks + 1 }) hc hd h
  | ask k ih => exact fun hc hd h => ih _ hc hd h
  | choose src m k ih => exact fun {Q E p s} hc hd h => ⟨h.1, ih _ (s := { s with drawn := s.drawn.bump src }) hc hd h.2⟩
  | os q _ k ih => exact fun {Q E p s} hc hd h => ih _ (s := { s with os := (Os.step s.os q).1 }) hc hd h
  | call c hh _ _ k ih =>
    intro Q E p s hc hd h
    obtain ⟨r, s1, hr, h⟩ := h
    obtain ⟨_, b, c', d⟩ := runs_dead F hr (fun F h => nomatch h) hc hd
    exact ⟨r, _, d, ih r b c' h⟩
  | handled own k ih => exact fun hc hd h => ih _ hc hd h
  | genState g' k ih =>
    intro Q E p s hc hd h
    obtain ⟨st, hst, h⟩ := h
    cases q : DS g' with
    | none => exact ⟨st, (ov_no q).trans hst, ih _ hc hd h⟩
    | some dd =>
      have e := hd _ _ q
      rw [hst] at e
      cases e
      refine ⟨_, ov_at hd q, ?_⟩
      rw [F.seen _ _ q]
      exact ih _ hc hd h
  | newGen c k ih =>
    intro Q E p s hc hd h
    have := ih _ (Cl.push (c := c) hc) (Dd.push (x := .fresh c) hd) h
    show wp M Γ (k (ov DS RS s).gens.size) _ _ p { ov DS RS s with gens := (ov DS RS s).gens.push (.fresh c) }
    rw [ov_size, ← ov_push hd]
    exact this
  | resume g' r l k ih =>
    intro Q E p s hc hd h
    obtain ⟨res, s', hw, h⟩ := h
    unfold Wakes at hw
    cases q : s.gens[g']? with
    | none => rw [q] at hw; exact hw.elim
    | some st =>
      rw [q] at hw
      cases st with
      | fresh c =>
        have hn := no_ds F hd q (fun _ _ _ _ _ z => nomatch z)
        have q' := (ov_no (RS := RS) hn).trans q
        cases r with
        | throw x =>
          obtain ⟨rfl, rfl⟩ := hw
          refine ⟨_, _, ?_, ih _ (hc.set (x := .finished) fun _ _ _ _ _ _ z => nomatch z) (hd.set hn) h⟩
          unfold Wakes
          rw [q']
          exact ⟨rfl, ov_set hn⟩
        | send v =>
          by_cases z : v = .none
          · subst z
            obtain ⟨e₁, s₁, hr, hq, rfl, rfl⟩ := hw
            obtain ⟨a, b, c', d⟩ := runs_dead F hr (fun F h => nomatch h) (hc.set fun _ _ _ _ _ _ z => nomatch z) (hd.set hn)
            rw [ov_set hn] at d
            refine ⟨_, _, ?_, ih _ (b.fin a) (c'.set hn) h⟩
            unfold Wakes
            rw [q']
            exact ⟨e₁, _, d, hq, rfl, ov_set hn⟩
          · have hw : res = .justStarted ∧ s' = s := by
              cases v <;> first | exact absurd rfl z | exact hw
            obtain ⟨rfl, rfl⟩ := hw
            refine ⟨_, _, ?_, ih _ hc hd h⟩
            unfold Wakes
            rw [q']
            cases v <;> first | exact absurd rfl z | exact ⟨rfl, rfl⟩
      | suspended k₀ l₀ c₀ p₀ fs cl =>
        obtain ⟨e₁, s₁, hr, hq, rfl, rfl⟩ := hw
        have hn := no_ds F hd q (fun _ _ _ _ _ z => by cases z; exact no_run hr _ rfl)
        obtain ⟨a, b, c', d⟩ := runs_dead F hr (hc _ _ _ _ _ _ _ q) (hc.set fun _ _ _ _ _ _ z => nomatch z) (hd.set hn)
        rw [ov_set hn] at d
        refine ⟨_, _, ?_, ih _ (b.fin a) (c'.set hn) h⟩
        unfold Wakes
        rw [ov_no hn, q]
        exact ⟨e₁, _, d, hq, rfl, ov_set hn⟩
      | running =>
        obtain ⟨rfl, rfl⟩ := hw
        have hn := no_ds F hd q (fun _ _ _ _ _ z => nomatch z)
        refine ⟨_, _, ?_, ih _ hc hd h⟩
        unfold Wakes
        rw [ov_no hn, q]
        exact ⟨rfl, rfl⟩
      | finished =>
        obtain ⟨rfl, rfl⟩ := hw
        have hn := no_ds F hd q (fun _ _ _ _ _ z => nomatch z)
        refine ⟨_, _, ?_, ih _ hc hd h⟩
        unfold Wakes
        rw [ov_no hn, q]
        exact ⟨rfl, rfl⟩
  | yield v g' l k => exact fun _ _ h => h
  | stack k ih => exact fun hc hd h => ih _ hc hd h
  | fork _ _ => exact fun _ _ h => h
  | thread k ih => exact fun hc hd h => ih _ hc hd h
  | await _ _ _ _ _ => exact fun _ _ h => h
end
/-- a state whose sleepers are dead -/
def deadF (F : Frame) : Frame := .ret (fun _ => .unsupported "") none false [] F.where_.1 F.where_.2 []
def lullG : GenState → GenState
  | .suspended _ l c p fs cl => .suspended dead l c p (fs.map deadF) cl
  | x => x
def lull (s : Shared) : Shared := { s with gens := s.gens.map lullG }
theorem lull_seen (x : GenState) : (lullG x).seen = x.seen := by
  cases x <;> first | rfl | skip
  rename_i k l c p fs cl
  show (GenStatus.suspended, some ((c, p) :: (fs.map deadF).map Frame.where_)) = _
  rw [List.map_map]
  rfl
theorem lull_bare {x : GenState} (h : x.bare = true) : (lullG x).bare = true := by
  cases x <;> exact h
def Asl : GenState → Prop
  | .suspended .. => True
  | _ => False
theorem lull_cl (s : Shared) : Cl (lull s) := fun i k l c p fs cl e => by
  have e : (s.gens.map lullG)[i]? = _ := e
  rw [Array.getElem?_map] at e
  cases q : s.gens[i]? with
  | none => rw [q] at e; cases e
  | some x =>
    rw [q] at e
    cases x with
    | suspended k' l' c' p' fs' cl' =>
      cases e
      intro F hF
      obtain ⟨G, _, rfl⟩ := List.mem_map.mp hF
      exact ⟨_, _, _, _, _, _, _, rfl⟩
    | _ => cases e
open Classical in
/-- the run of a tree where all that sleep are dead: they are left as they were -/
theorem wpAny_lull {M : Model} {α : Type} {A : Around} {t : Sem α} {Q : α → Shared → Prop} {E : Value → Shared → Prop} {s : Shared}
    (h : wpAny M A t (fun a sd => ∀ s', s'.heap = sd.heap → s'.os = sd.os → (PyProof.Rows.AllBare s.gens → PyProof.Rows.AllBare sd.gens → PyProof.Rows.AllBare s'.gens) → (∀ (i : Nat) st, s.gens[i]? = some st → Asl st → s'.gens[i]? = some st) → Q a s')
      (fun e sd => ∀ s', s'.heap = sd.heap → s'.os = sd.os → (PyProof.Rows.AllBare s.gens → PyProof.Rows.AllBare sd.gens → PyProof.Rows.AllBare s'.gens) → (∀ (i : Nat) st, s.gens[i]? = some st → Asl st → s'.gens[i]? = some st) → E e s') (lull s)) : wpAny M A t Q E s := by
  intro Γ p hΓ
  let DS : Nat → Option GenState := fun i => match s.gens[i]? with | some (.suspended k l c p fs cl) => some (lullG (.suspended k l c p fs cl)) | _ => none
  let RS : Nat → GenState := fun i => (s.gens[i]?).getD .running
  have dsd : ∀ i d, DS i = some d → ∃ k l c p fs cl, s.gens[i]? = some (.suspended k l c p fs cl) ∧ d = lullG (.suspended k l c p fs cl) := fun i d e => by
    have e : (match s.gens[i]? with | some (.suspended k l c p fs cl) => some (lullG (.suspended k l c p fs cl)) | _ => none) = some d := e
    cases q : s.gens[i]? with
    | none => rw [q] at e; cases e
    | some x =>
      rw [q] at e
      cases x with
      | suspended k l c p fs cl => cases e; exact ⟨_, _, _, _, _, _, rfl, rfl⟩
      | _ => cases e
  have F : Fix DS RS := ⟨fun i d e => by
      obtain ⟨k, l, c, p, fs, cl, _, rfl⟩ := dsd i d e
      exact ⟨_, _, _, _, _, rfl⟩, fun i d e => by
      obtain ⟨k, l, c, p, fs, cl, q, rfl⟩ := dsd i d e
      show ((s.gens[i]?).getD .running).seen = _
      rw [q, lull_seen]
      rfl⟩
  have hd : Dd DS (lull s) := fun i d e => by
    obtain ⟨k, l, c, p, fs, cl, q, rfl⟩ := dsd i d e
    show (s.gens.map lullG)[i]? = _
    rw [Array.getElem?_map, q]
    rfl
  have e0 : ov DS RS (lull s) = s := by
    have : ((s.gens.map lullG).mapIdx fun i x => if (DS i).isSome = true then RS i else x) = s.gens := by
      apply Array.ext_getElem?
      intro i
      rw [Array.getElem?_mapIdx, Array.getElem?_map]
      cases q : s.gens[i]? with
      | none => rfl
      | some x =>
        have hR : RS i = x := by show (s.gens[i]?).getD .running = x; rw [q]; rfl
        show some (if (DS i).isSome = true then RS i else lullG x) = some x
        cases x with
        | suspended k l c p fs cl =>
          have : DS i = some (lullG (.suspended k l c p fs cl)) := by show (match s.gens[i]? with | some (.suspended k l c p fs cl) => some (lullG (.suspended k l c p fs cl)) | _ => none) = _; rw [q]
          rw [this, hR]
          rfl
        | _ =>
          have : DS i = none := by show (match s.gens[i]? with | some (.suspended k l c p fs cl) => some (lullG (.suspended k l c p fs cl)) | _ => none) = _; rw [q]
          rw [this]
          rfl
    show ({ s with gens := ((s.gens.map lullG).mapIdx fun i x => if (DS i).isSome = true then RS i else x) } : Shared) = s
    rw [this]
  have key := wp_dead (M := M) F t (lull_cl s) hd (h Γ p hΓ)
  rw [e0] at key
  have fin : ∀ {sd : Shared}, Dd DS sd → (PyProof.Rows.AllBare s.gens → PyProof.Rows.AllBare sd.gens → PyProof.Rows.AllBare (ov DS RS sd).gens) ∧ ∀ (i : Nat) st, s.gens[i]? = some st → Asl st → (ov DS RS sd).gens[i]? = some st := fun {sd} hdd => by
    refine ⟨fun b1 b2 x hx => ?_, fun i st q ha => ?_⟩
    · obtain ⟨i, hi, rfl⟩ := Array.mem_iff_getElem.mp hx
      have e : (ov DS RS sd).gens[i]? = some (ov DS RS sd).gens[i] := Array.getElem?_eq_getElem hi
      generalize (ov DS RS sd).gens[i] = y at e
      cases q : DS i with
      | none =>
        rw [ov_no q] at e
        exact b2 y (Array.mem_of_getElem? e)
      | some d =>
        rw [ov_at hdd q] at e
        cases e
        obtain ⟨k, l, c, p, fs, cl, q', _⟩ := dsd i d q
        show ((s.gens[i]?).getD .running).bare = true
        rw [q']
        exact b1 _ (Array.mem_of_getElem? q')
    · cases st with
      | suspended k l c p fs cl =>
        have : DS i = some (lullG (.suspended k l c p fs cl)) := by show (match s.gens[i]? with | some (.suspended k l c p fs cl) => some (lullG (.suspended k l c p fs cl)) | _ => none) = _; rw [q]
        rw [ov_at hdd this]
        show some ((s.gens[i]?).getD .running) = _
        rw [q]
        rfl
      | _ => exact ha.elim
  refine Sem.wp_mono M Γ t (fun a p' s' hs => ?_) (fun e p' s' hs => ?_) p s key
  · obtain ⟨sd, rfl, hdd, hq⟩ := hs
    exact hq _ rfl rfl (fin hdd).1 (fin hdd).2
  · obtain ⟨sd, rfl, hdd, hq⟩ := hs
    exact hq _ rfl rfl (fin hdd).1 (fin hdd).2
theorem lull_allBare {s : Shared} (h : PyProof.Rows.AllBare s.gens) : PyProof.Rows.AllBare (lull s).gens := fun x hx => by
  obtain ⟨y, hy, rfl⟩ := Array.mem_map.mp hx
  exact lull_bare (h y hy)
end Gq
set_option Elab.async false
set_option linter.all false
set_option maxRecDepth 100000
set_option maxHeartbeats 2000000
/-! next() of such a generator; the consumer's facts behind it. -/
namespace Gq
open PySem L2 PySem.Spec PyProof.Rows GenW
def GoesN (M : Model) (A : Around) (R : GenEnd) (Y : Protocol) (gs : GenState) : Nat → Resume → Shared → Prop
  | 0 => fun _ _ => False
  | m + 1 => fun r s => gs.Goes M A R Y m r s
section
variable {M : Model}
theorem resume_asl {α : Type} {A : Around} {R : GenEnd} {Y : Protocol} {n : Nat} {E : Value → Shared → Prop} {s : Shared} {g : Nat} {gs : GenState} {l : List Value} {k : GenResult → Sem α} {Q : α → Shared → Prop} (hg : s.gens[g]? = some gs)
    (hgo : gs.Goes M A R Y n (.send .none) (s.setGen g .running))
    (hR : ∀ x s₁, R n (s.setGen g .running) x s₁ → wpAny M A (k (End.ret x).result) Q E (s₁.setGen g .finished))
    (hY : ∀ v s₁ gs', gs'.bare = true → Asl gs' → Y (n - 1) (s.setGen g .running) v s₁ (GoesN M A R Y gs' n) → wpAny M A (k (.yielded v)) Q E (s₁.setGen g gs')) :
    wpAny M A (.resume g (.send .none) l k) Q E s := by
  intro Γ p hΓ
  rw [Sem.wp_resume]
  -- the end of a segment
  have fin : ∀ e₁ s₁, SegEnd R Y n (Seg.next M A R Y n) (s.setGen g .running) e₁ s₁ →
      Sem.wp M Γ (k e₁.result) (fun a _ s' => Q a s') (fun e _ s' => E e s') p (s₁.setGen g e₁.genState) ∧ e₁.quiet = true := fun e₁ s₁ he => by
    cases e₁ with
    | ret x => exact ⟨hR x s₁ he Γ p hΓ, rfl⟩
    | susp v g₀ l₀ k₀ c₀ p₀ fs₀ =>
      refine ⟨hY v s₁ _ (End.bare_of_quiet he.1) trivial ?_ Γ p hΓ, he.1⟩
      cases n with
      | zero => exact he.2
      | succ m => exact he.2
  have hB : ∀ c, (Γ.wake c p).Woken A := fun c => hΓ.wake c p
  cases gs with
  | running => exact hgo.elim
  | finished => exact hgo.elim
  | fresh c =>
    obtain ⟨e₁, s₁, hr, he⟩ := seg_iff.mp hgo.2 (Γ.wake c p) p rfl (hB c)
    refine ⟨_, _, ?_, (fin e₁ s₁ he).1⟩
    unfold Wakes
    rw [hg]
    exact ⟨e₁, s₁, hr, (fin e₁ s₁ he).2, rfl, rfl⟩
  | suspended k₀ l₀ c₀ p₀ fs₀ cl =>
    obtain ⟨e₁, s₁, hr, he⟩ := seg_iff.mp hgo (Γ.wake c₀ p) p₀ rfl (hB c₀)
    refine ⟨_, _, ?_, (fin e₁ s₁ he).1⟩
    unfold Wakes
    rw [hg]
    exact ⟨e₁, s₁, hr, (fin e₁ s₁ he).2, rfl, rfl⟩
end
section
variable {P : Program} {w : World} {A : Around} {E : Value → Shared → Prop} {s : Shared}
/-- next(g): an item, or the end -/
theorem next_asl {a : Addr} {g n : Nat} {gs : GenState} {R : GenEnd} {Y : Protocol} {Q : Option Value → Shared → Prop} (hh : A.handled = none)
    (hl : s.heap.NoLimit) (hroom : A.depth < recursionLimit) (hg : s.heap.IsGen a g) (hgs : s.gens[g]? = some gs)
    (hgo : gs.Goes (model P w) A.in1 R Y n (.send .none) (s.setGen g .running)) (hRr : ∀ n s₀ r s₁, R n s₀ r s₁ → r = .ok (.ret .none) ∨ r = .ok .next)
    (hY : ∀ v s₁ gs', gs'.bare = true → Asl gs' → Y (n - 1) (s.setGen g .running) v s₁ (GoesN (model P w) A.in1 R Y gs' n) → Q (some v) (s₁.setGen g gs'))
    (hP : ∀ r s₁, R n (s.setGen g .running) r s₁ → ∀ h', (∀ b o, s₁.heap.get? b = some o → h'.get? b = some o) → Q none { s₁.setGen g .finished with heap := h' }) :
    wpAny (model P w) A (pyNext (.ref a)) Q E s := by
  unfold pyNext
  refine wpAny_bind (wpAny_attempt (wpAny_callSpecial?_slot (name := Str.ofString "__next__") hg.typeIs slot_gen_next (wpAny_call_entry slot_gen_next hg.typeIs entry_gen_next ?_ (args_gen_next _))))
  show wpAny _ A.in1 (Builtin.Generator.genWake (.ref a) (.send .none)) _ _ s
  unfold Builtin.Generator.genWake
  refine wpAny_bind (wpAny_holding (wpAny_genNumber hg (wpAny_bind (wpAny_genState hgs ?_))))
  cases gs with
  | running => exact hgo.elim
  | finished => exact hgo.elim
  | _ =>
    refine wpAny_bind (wpAny_roomToWake hl hroom ?_)
    show wpAny _ A.in1 (.resume g (.send .none) [] _) _ _ s
    refine resume_asl hgs hgo (fun x s₁ hx => ?_) (fun v s₁ gs' hb ha hv => ?_)
    · have hres : End.result (.ret x) = .returned .none := by
        rcases hRr _ _ _ _ hx with hr | hr <;> rw [hr] <;> rfl
      first | rw [hres] | simp only [hres]
      show wpAny _ A.in1 (newExc (.type "StopIteration") [] >>= _) _ _ _
      refine wpAny_bind ?_
      simp only [newExc, newTuple]
      refine wpAny_bind (wpAny_newObj_type ?_ (by size_fits))
      refine wpAny_bind (m := firstArgMember _ _) (wpAny_of_eq (a := Value.none) (by first | rfl | (simp only [firstArgMember]; rfl)) ?_)
      refine wpAny_newObj_type ?_ (by size_fits)
      simp only [raiseNew]
      refine wpAny_bind (wpAny_bind (wpAny_handled ?_))
      first | rw [show A.in1.handled = none from hh] | rw [hh]
      refine wpAny_throw ?_
      refine wpAny_bind (wpAny_isInstance (T := "StopIteration") (b := true) ⟨_, Heap.get?_push_size _ rfl, rfl⟩ isSubtype_stop ?_)
      exact wpAny_pure (hP x s₁ hx _ fun b o hb => Heap.get?_push_of_some _ (Heap.get?_push_of_some _ hb))
    · exact wpAny_pure ⟨v, rfl, wpAny_pure (hY v s₁ gs' hb ha hv)⟩
end
/-! ### the consumer's facts -/
theorem _root_.L2.Inv.same {X : Cx} {pins : List (Addr × Obj)} {σ : L2.St} {H : Hp} {s s' : Shared} (I : Inv X pins σ H s) (hh : s'.heap = s.heap) (ho : s'.os = s.os) (hb : AllBare s'.gens) : Inv X pins σ H s' :=
  I.call' (ch := []) ho (by rw [hh]; exact Un.refl) (by rw [hh]; exact I.hok) hb fun b z => by simp at z
/-- the consumer with an end that nothing raises -/
abbrev mute (X : Cx) : Cx := { X with xe := fun _ _ => False }
theorem Inv.mute {X : Cx} {pins : List (Addr × Obj)} {σ : L2.St} {H : Hp} {s : Shared} (I : Inv X pins σ H s) : Inv (Gq.mute X) pins σ H s :=
  ⟨⟨I.ok.mod, I.ok.kind, I.ok.glob, I.ok.blt, I.ok.above, I.ok.inj, I.ok.has, I.ok.cab, I.ok.hd, I.ok.frames, I.ok.stk, I.ok.exf, I.ok.bs, I.ok.bsz, I.ok.noex, I.ok.exfs, I.ok.funs, I.ok.frf⟩, I.os, I.bare, I.base, I.loc, I.cell, I.free, I.freeC, I.pin, I.hok, I.len⟩
theorem Inv.loud {X : Cx} {pins : List (Addr × Obj)} {σ : L2.St} {H : Hp} {s : Shared} (I : Inv (Gq.mute X) pins σ H s) : Inv X pins σ H s :=
  ⟨⟨I.ok.mod, I.ok.kind, I.ok.glob, I.ok.blt, I.ok.above, I.ok.inj, I.ok.has, I.ok.cab, I.ok.hd, I.ok.frames, I.ok.stk, I.ok.exf, I.ok.bs, I.ok.bsz, I.ok.noex, I.ok.exfs, I.ok.funs, I.ok.frf⟩, I.os, I.bare, I.base, I.loc, I.cell, I.free, I.freeC, I.pin, I.hok, I.len⟩
/-- what is the consumer's own stood ahead of the generator, or at B -/
structure Old (X : Cx) (pins : List (Addr × Obj)) (n0 : Nat) (B : List Addr) : Prop where
  loc : X.env.locals < n0 ∨ X.env.locals ∈ B
  cel : ∀ x c, X.env.cells.lookup x = some c → c < n0 ∨ c ∈ B
  pin : ∀ p ∈ X.pn ++ pins, p.1 < n0 ∨ p.1 ∈ B
theorem Old.of {X : Cx} {pins : List (Addr × Obj)} {σ : L2.St} {H : Hp} {s : Shared} (I : Inv X pins σ H s) (B : List Addr) : Old X pins s.heap.objs.size B where
  loc := .inl I.lt
  cel := fun x c e => .inl (let ⟨v, z⟩ := I.cell x c e; z.lt)
  pin := fun p hp => .inl (Heap.lt_size (I.pin p hp).1)
theorem obj_there {P : Program} {w : World} {H : Hp} {h : Heap} {a : Addr} {o : HO} (x : ObjOk P w H h a o) : ∃ ob, h.get? a = some ob := by
  cases o with
  | lst xs => obtain ⟨_, _, _, _, e⟩ := x; exact ⟨_, e⟩
  | tup xs => obtain ⟨_, _, _, o, e, _⟩ := x; exact ⟨_, e⟩
  | dK kvs => obtain ⟨_, _, _, _, o, _, _, e, _⟩ := x; exact ⟨_, e⟩
  | dT kvs => obtain ⟨_, _, _, _, o, _, _, e, _⟩ := x; exact ⟨_, e⟩
  | set S n => obtain ⟨o, _, _, _, e, _⟩ := x; exact ⟨_, e⟩
  | ins C dx fs => obtain ⟨_, _, _, e, _⟩ := x; exact ⟨_, e⟩
  | own y => exact x
  | xd fs => obtain ⟨_, ⟨_, _, _, e, _⟩, _⟩ := x; exact ⟨_, e⟩
  | rng lo hi => obtain ⟨_, _, _, e⟩ := x; exact ⟨_, e⟩
  | frz ob u => obtain ⟨e, _⟩ := x; exact ⟨_, e⟩
  | tbl ps => exact ⟨_, x⟩
  | met f y => exact ⟨_, x⟩
  | ext φ => obtain ⟨_, e, _⟩ := x; exact e
/-- what is tracked stays so (of tables all judgements say it) -/
def Stays (H H' : Hp) : Prop := ∀ b o, H b = some o → (∀ ps, o ≠ .tbl ps) → H' b ≠ none
section
variable {X : Cx} {pins : List (Addr × Obj)} {σ : L2.St} {Hr H1 : Hp} {s₀ s1 : Shared} {B : List Addr} {CI : CIT} {n n0 : Nat} {pn : List (Addr × Obj)}
/-- behind the generator's turn -/
theorem back_in (I : Inv X pins σ Hr s₀) (o : Old X pins n0 B) (hx : ∀ b ob, s₀.heap.get? b = some ob → n0 ≤ b → b ∉ B → Hr b = none → b ∈ X.ex ∨ X.s_0.heap.objs.size ≤ b) (out : Out ⟨X.prog, X.w, X.base, X.stack, n0, pn⟩ B CI n s₀ Hr H1 s1) (st : Stays Hr H1) : Inv X pins σ H1 s1 := by
  have lt : ∀ b : Addr, ¬ n0 ≤ b → b < n0 := fun b h => Nat.lt_of_not_le h
  have nch : ∀ b, Hr b = none → b ∉ (List.range s₀.heap.objs.size).filter (fun b => decide (n0 ≤ b ∧ b ∉ B ∧ Hr b = none ∧ (s₀.heap.get? b).isSome = true)) → ∀ ob, s₀.heap.get? b = some ob → b < n0 ∨ b ∈ B := fun b hn hb ob e => by
    by_cases z : n0 ≤ b
    · refine .inr (Decidable.byContradiction fun hB => hb ?_)
      exact List.mem_filter.mpr ⟨List.mem_range.mpr (Heap.lt_size e), decide_eq_true ⟨z, hB, hn, by rw [e]; rfl⟩⟩
    · exact .inl (lt b z)
  refine I.call' (ch := (List.range s₀.heap.objs.size).filter fun b => decide (n0 ≤ b ∧ b ∉ B ∧ Hr b = none ∧ (s₀.heap.get? b).isSome = true)) out.os ⟨fun b ob e hn hf hc => ?_, fun b ob e hn hf hc => ?_, fun b ob e hn hc => ?_, fun b ob e hc => ?_, out.un.tups, out.un.frzs, out.un.tbls⟩ out.hok out.bare fun b hb => ?_
  · rcases nch b hn hc ob e with z | z
    · exact out.un.keep b ob (by show (cut n0 s₀).heap.get? b = _; rw [cut_at z]; exact e) hn hf (by simp)
    · exact (out.bk b z ob e).1
  · rcases nch b hn hc ob e with z | z
    · exact out.un.slot b ob (by show (cut n0 s₀).heap.get? b = _; rw [cut_at z]; exact e) hn hf (by simp)
    · exact ⟨ob.slots, (out.bk b z ob e).1⟩
  · rcases nch b hn hc ob e with z | z
    · exact out.un.free b ob (by show (cut n0 s₀).heap.get? b = _; rw [cut_at z]; exact e) hn (by simp)
    · exact (out.bk b z ob e).2
  · cases q : Hr b with
    | none =>
      rcases nch b q hc ob e with z | z
      · exact out.un.there b ob (by show (cut n0 s₀).heap.get? b = _; rw [cut_at z]; exact e) (by simp)
      · exact ⟨ob, (out.bk b z ob e).1⟩
    | some u =>
      by_cases tb : ∃ ps, u = .tbl ps
      · obtain ⟨ps, rfl⟩ := tb
        obtain ⟨more, q2⟩ := out.un.tbls b ps q
        exact obj_there (out.hok b _ q2)
      · have q1 := st b u q fun ps z => tb ⟨ps, z⟩
        cases q2 : H1 b with
        | none => exact absurd q2 q1
        | some u1 => exact obj_there (out.hok b u1 q2)
  · obtain ⟨h1, h2⟩ := List.mem_filter.mp hb
    obtain ⟨z1, z2, z3, z4⟩ := of_decide_eq_true h2
    obtain ⟨ob, e⟩ := Option.isSome_iff_exists.mp z4
    refine ⟨hx b ob e z1 z2 z3, fun y => ?_, fun x c e y => ?_, fun p hp y => ?_⟩
    · rcases o.loc with q | q
      · rw [← y] at q; exact absurd z1 (Nat.not_le.mpr q)
      · rw [← y] at q; exact z2 q
    · rcases o.cel x c e with q | q
      · rw [y] at q; exact absurd z1 (Nat.not_le.mpr q)
      · rw [y] at q; exact z2 q
    · rcases o.pin p hp with q | q
      · rw [y] at q; exact absurd z1 (Nat.not_le.mpr q)
      · rw [y] at q; exact z2 q
end
/-- a run amid which a generator sleeps -/
theorem thnL {α : Type} {M : Model} {A : Around} {t : Sem α} {P Q : α → Shared → Prop} {E : Value → Shared → Prop} {s : Shared} (h : wpAny M A t P (fun _ _ => False) (lull s)) (hb : AllBare s.gens)
    (hP : ∀ a s1, P a s1 → AllBare s1.gens) (hQ : ∀ a s1 s', P a s1 → s'.heap = s1.heap → s'.os = s1.os → AllBare s'.gens → (∀ (i : Nat) st, s.gens[i]? = some st → Asl st → s'.gens[i]? = some st) → Q a s') : wpAny M A t Q E s :=
  wpAny_lull (wpAny_mono h (fun a s1 hp s' e1 e2 e3 e4 => hQ a s1 s' hp e1 e2 (e3 hb (hP a s1 hp)) e4) fun _ _ z => False.elim z)
/-- all that is not tracked, not the consumer's frame, no cell -/
def otherAt (X : Cx) (H : Hp) (h : Heap) (b : Addr) : Prop := H b = none ∧ b ≠ X.env.locals ∧ b ∉ X.fs ∧ ∀ o, h.get? b = some o → ∀ v, o.data ≠ .cell v
open Classical in
noncomputable def others (X : Cx) (H : Hp) (h : Heap) : List Addr := (List.range h.objs.size).filter fun b => decide (otherAt X H h b)
open Classical in
theorem mem_others {X : Cx} {H : Hp} {h : Heap} {b : Addr} {o : Obj} (e : h.get? b = some o) (hn : H b = none) (hl : b ≠ X.env.locals) (hf : b ∉ X.fs) (hd : ∀ v, o.data ≠ .cell v) : (b, o) ∈ pinsAt (others X H h) h := by
  refine mem_pinsAt ?_ e
  unfold others
  refine List.mem_filter.mpr ⟨List.mem_range.mpr (Heap.lt_size e), decide_eq_true (show otherAt X H h b from ⟨hn, hl, hf, fun o' e' => ?_⟩)⟩
  rw [e] at e'
  cases e'
  exact hd
open Classical in
theorem Inv.others {X : Cx} {pins : List (Addr × Obj)} {σ : L2.St} {H : Hp} {s : Shared} (I : Inv X pins σ H s) : Inv X (pins ++ pinsAt (Gq.others X H s.heap) s.heap) σ H s :=
  I.pins_of fun p hp => (List.mem_append.mp hp).elim (fun z => I.pin p (List.mem_append_right _ z)) fun z => by
    obtain ⟨hb, e⟩ := of_pinsAt z
    unfold Gq.others at hb
    obtain ⟨h1, h2, h3, h4⟩ : otherAt X H s.heap p.1 := of_decide_eq_true (List.mem_filter.mp hb).2
    exact ⟨e, h1, h2, h3, h4 _ e⟩
end Gq
set_option Elab.async false
set_option linter.all false
set_option maxRecDepth 100000
set_option maxHeartbeats 2000000
/-! `for` over such a generator. -/
namespace Gq
open PySem L2 PySem.Spec PyProof.Rows GenW
/-- an expression that makes such a generator: its arguments -/
abbrev TGa := L2.St → Hp → (List V → Hp → Prop) → Prop
structure PGenQ (X : Cx) (k : Nat) (e : Expr) (sp : SpQ) (t : TGa) : Prop where
  run : ∀ (pins : List (Addr × Obj)) (s : Shared) (σ : L2.St) (H : Hp) (R : List V → Hp → Prop), Inv X pins σ H s → t σ H R → wpAny (model X.prog X.w) X.A (eval e X.env)
    (fun u s' => ∃ H1 sc vs, Inv X pins σ H1 sc ∧ GMadeQ X.prog X.w X.base k X.stack sc.heap.objs.size sp vs H1 u s' ∧ s'.os = sc.os ∧ AllBare s'.gens ∧ (∀ b o, sc.heap.get? b = some o → s'.heap.get? b = some o) ∧ R vs H1) X.xe s
section
variable {X : Cx} {k : Nat} {f C : Addr} {fd : FuncData} {ps : List Str} {sp : SpQ} {dvs : List V} {ds : List Value} {x m : Str} {p pos pos' apos : Pos} {o : Expr} {ta : TE} {E1 : Value → Shared → Prop}
theorem run_gfnQ {pins : List (Addr × Obj)} {σ : L2.St} {H : Hp} {s : Shared} {us : List Value} {vs : List V} {R : List V → Hp → Prop} (F : GFnQ X.prog X.w X.K X.mg X.base k f fd ps sp) (hr : Room k X.A) (hb : Binds X.K fd ps ds) (hd : Vals dvs ds)
    (I : Inv X pins σ H s) (r : Vals vs us) (hl : (vs ++ dvs).length = ps.length) (h : R (vs ++ dvs) H) :
    wpAny (model X.prog X.w) X.A (call (.ref f) us) (fun u s' => ∃ H1 sc vs, Inv X pins σ H1 sc ∧ GMadeQ X.prog X.w X.base k X.stack sc.heap.objs.size sp vs H1 u s' ∧ s'.os = sc.os ∧ AllBare s'.gens ∧ (∀ b o, sc.heap.get? b = some o → s'.heap.get? b = some o) ∧ R vs H1) E1 s := by
  have r2 : Vals (vs ++ dvs) (us ++ ds) := r.append hd
  have hl2 : (us ++ ds).length = ps.length := by rw [← r2.length]; exact hl
  refine wpAny_call (codeAny_mono (F.run X.A X.stack s H ⟨us, []⟩ (us ++ ds) (vs ++ dvs) hr I.env0 (hb s us I.kIn hl2) r2 hl) fun r s' hq => ?_)
  cases r with
  | error e => exact False.elim hq
  | ok fl =>
    cases fl with
    | ret u =>
      obtain ⟨q1, q2, q3, q4⟩ := hq
      exact ⟨H, s, vs ++ dvs, I, q1, q2, q3, q4, h⟩
    | next => exact False.elim hq
    | brk => exact False.elim hq
    | cont => exact False.elim hq
def tMethQ (C : Addr) (m : Str) (n : Nat) (dvs : List V) (ta : TE) (t : TA) : TGa := fun σ H R => ta σ H fun x H1 => ∃ a dx fs, x = .ref a ∧ H1 a = some (.ins C dx fs) ∧ fs.lookup m = none ∧ t σ H1 fun vs H2 => (x :: (vs ++ dvs)).length = n ∧ R (x :: (vs ++ dvs)) H2
/-- o.m() -/
theorem pgq_meth0 {pl : Sem Bool} (he : PE X o ta) (c : Cls X.K C) (hm : Meth X.K C m f) (F : GFnQ X.prog X.w X.K X.mg X.base k f fd ps sp) (hr : Room k X.A) (hb : Binds X.K fd ps ds) (hd : Vals dvs ds)
    (ht : eval (.Call (.Attribute o m apos) [] [] pos') X.env = (do
      let ov ← eval o X.env
      standAt apos.atName
      let (f, first) ← holding [ov] (getMethod ov m pl)
      callWith pos' f first (backTo pos' (starEach [] X.env)) (backToKw pos' (keywordEach [] X.env))) := by rfl) :
    PGenQ X k (.Call (.Attribute o m apos) [] [] pos') sp (tMethQ C m ps.length dvs ta tNil) := by
  refine ⟨fun pins s σ H R I h => ?_⟩
  refine PySem.W.methodCall_KW (pl := pl) (thn (he.run pins s σ H _ I h) fun u s1 ⟨x, H1, I1, rx, a, dx, fs, ex, ea, l, q⟩ => ?_) ht
  subst ex
  obtain rfl : u = Value.ref a := rx
  obtain ⟨q1, q2⟩ := q
  refine getmeth_ok I1 ea c hm l ?_
  exact PySem.W.callWith_K0 (first := [.ref a]) I1.kIn hm.kp (run_gfnQ (us := [.ref a]) (vs := [.ref a]) F hr hb hd I1 (.cons rfl .nil) q1 q2)
def tCallQ (n : Nat) (dvs : List V) (t : TA) : TGa := fun σ H R => t σ H fun vs H1 => (vs ++ dvs).length = n ∧ R (vs ++ dvs) H1
/-- f(e, ..) -/
theorem pgq_call {e : Expr} {es : List Expr} {t : TA} (F : GFnQ X.prog X.w X.K X.mg X.base k f fd ps sp) (hr : Room k X.A) (hg : Gl X x) (hm : X.mg x = some (.ref f)) (hk : PySem.W.keepIn X.K (.ref f) = true) (hb : Binds X.K fd ps ds) (hd : Vals dvs ds)
    (ha : PA X (e :: es) t) (hdb : (x == ("__debug__" : Str)) = false := by decide) (he : starEach (e :: es) X.env = (false, eval e X.env) :: starEach es X.env := by rfl) (hpl : (backTo pos' (starEach es X.env)).any (·.1) = false := by rfl) :
    PGenQ X k (.Call (.Name x p) (e :: es) [] pos') sp (tCallQ ps.length dvs t) := by
  refine ⟨fun pins s σ H R I h => ?_⟩
  refine wpAny_Call_Name_kw (ld_glob I hg hm ?_ hdb)
  refine PySem.W.callWith_K (h₀ := X.base) I.ok.mod.kin hk (thn (ha.run pos' pins s σ H _ I h) fun us s1 ⟨vs, H1, I1, r, q1, q2⟩ => ⟨I1.kIn, ?_⟩) he hpl
  exact run_gfnQ F hr hb hd I1 r q1 q2
end
section
variable {X : Cx}
def tForG (sp : SpQ) (t : TGa) (g : TG) (tb : TS) : TS := fun D σ H => t σ H fun vs H1 => ∃ (L : Nat) (C : Ct) (En : Hp → Hp → Prop) (W : Nat → L2.St → Hp → Prop), sp vs H1 L C En ∧ (∀ m Hr x H', C.Yd m Hr x H' → Stays Hr H') ∧ (∀ Hr H', En Hr H' → Stays Hr H') ∧
  W L σ H1 ∧ (∀ σ Hr H', W 0 σ Hr → En Hr H' → D.nx σ H') ∧ ∀ m σ Hr x H', W (m + 1) σ Hr → C.Yd m Hr x H' →
    g x σ H' fun σ2 H2 => tb { D with nx := fun σ3 H3 => C.Cr H' H3 ∧ W m σ3 H3, ct := fun σ3 H3 => C.Cr H' H3 ∧ W m σ3 H3, bk := D.nx } σ2 H2
theorem ps_forG {k : Nat} {tg iter : Expr} {body : List Stmt} {sp : SpQ} {t : TGa} {g : TG} {tb : TS} {pos : Pos} (hc : X.calm = true) (hst : X.stack = X.env :: X.outer) (hf : X.env.frame = some X.env.locals) (hr : Room (k + 1) X.A) (hi : PGenQ X k iter sp t) (hg : PG (mute X) tg g) (hb : PSs (mute X) body tb)
    (hs : ∀ x, foldedSetIterable iter X.env x = pure x := by intro _; rfl) : PS X (.For tg iter body [] pos) (tForG sp t g tb) := by
  refine ⟨fun pins s σ H D I h => ?_⟩
  refine wpAny_For (thn (hi.run pins s σ H _ I h) fun v s1 h1 => ?_) hs
  obtain ⟨H1, sc, vs, Ic, hG, os1, ba1, kp1, L, C, En, W, hsp, stY, stE, w0, hend, hstep⟩ := h1
  obtain ⟨a, gn, c, go, rfl, na, la, ega, isg, gnc, hgs, wake⟩ := hG
  have I1 : Inv X pins σ H1 s1 := Ic.call' (ch := []) os1 (Un.kept kp1) (Ic.hok.kept kp1) ba1 fun b z => by simp at z
  refine wpAny_pyIter_gen (isg _ ega) ?_
  generalize hn0 : sc.heap.objs.size = n0 at na wake
  have old : Old X pins n0 [] := by rw [← hn0]; exact Old.of Ic []
  have sX : X.s_0.heap.objs.size ≤ n0 := by rw [← hn0]; exact Ic.sz
  have memF : ∀ b, b ∉ frs X.stack → b ≠ X.env.locals ∧ b ∉ X.fs := fun b hb => by
    rw [hst] at hb
    unfold frs at hb
    rw [List.filterMap_cons, hf] at hb
    exact ⟨fun z => hb (z ▸ List.mem_cons_self), fun z => hb (List.mem_cons_of_mem _ z)⟩
  have aF : a ∉ frs X.stack := fun hb => by
    obtain ⟨_, o, ho, _⟩ := Ic.stack.mem hb
    have := Heap.lt_size ho
    rw [hn0] at this
    exact absurd (Nat.lt_of_lt_of_le this na) (Nat.lt_irrefl _)
  have hh : X.A.handled = none := hr.hd
  generalize hv : (⟨X.prog, X.w, X.base, X.stack, n0, [(a, go)]⟩ : Vw) = v at wake
  -- what the consumer knows when it resumes
  generalize hCI : (fun (m : Nat) (h : Heap) (Hc : Hp) => ∃ σc, (∀ s : Shared, s.heap = h → s.os = X.s_0.os → AllBare s.gens → Inv X pins σc Hc s) ∧ W m σc Hc) = CI
  have ciOf : ∀ {m : Nat} {s' : Shared} {σ' : L2.St} {H' : Hp}, Inv X pins σ' H' s' → W m σ' H' → CI m s'.heap H' := fun {m s' σ' H'} I' w' => by
    rw [← hCI]
    exact ⟨σ', fun s2 e1 e2 e3 => I'.same e1 (e2.trans I'.os.symm) e3, w'⟩
  have hin1 : (X.A.in1).frames = some X.stack := Ic.ok.frames
  have hrw : Room k X.A.in1 := ⟨hr.hd, by have := hr.dp; show X.A.depth + 3 * k + 5 < _; omega, by have := hr.un; show X.A.units + 1 + 16 * k + 200 < _; omega⟩
  -- the loop
  have first : Seg (model X.prog X.w) X.A.in1 (RQ v [] CI En) (YQ v [] CI C) L (s1.setGen gn .running) c ((model X.prog X.w).den c) [] (s1.setGen gn .running) := by
    refine wake X.A.in1 [] CI (s1.setGen gn .running) H1 L C En hrw hin1 (fun b hb => by simp at hb) ?_ hsp (ciOf (s' := s1) I1 w0)
    rw [← hv]
    exact ⟨allBare_setGen ba1 rfl, I1.bs, fun b o e n _ _ _ => ⟨e, n⟩, I1.stack, I1.stkFree, fun b hb => by simp at hb, I1.hok⟩
  refine codeAny_forLoop_any (fun m s' => ∃ σ' H', Inv X pins σ' H' s' ∧ W m σ' H' ∧ s'.heap.get? a = some go ∧ ∃ gs, s'.gens[gn]? = some gs ∧ gs.Goes (model X.prog X.w) X.A.in1 (RQ v [] CI En) (YQ v [] CI C) m (.send .none) (s'.setGen gn .running)) ?_ L
    ⟨σ, H1, I1, w0, ega, _, hgs, rfl, first⟩
  rintro m s2 ⟨σ2, H2, I2, w2, eg2, gs, hgs2, goes⟩
  have lgn : gn + 1 ≤ s2.gens.size := (Array.getElem?_eq_some_iff.mp hgs2).1
  refine wpAny_mono (wpAny_gsz (n := gn + 1) (Q := fun r s3 => match r with
      | none => ∃ σ' H', Inv X pins σ' H' s3 ∧ D.nx σ' H'
      | some u => ∃ (σ' : L2.St) (Hr H' : Hp) (x : V) (gs' : GenState) (s1' : Shared), W (m - 1 + 1) σ' Hr ∧ Inv X pins σ' H' s3 ∧ RelV x u ∧ C.Yd (m - 1) Hr x H' ∧ s3.heap.get? a = some go ∧ H' a = none ∧ Asl gs' ∧ s3.gens[gn]? = some gs' ∧ s1'.heap = s3.heap ∧
          ∀ s4 H4, Back v [] H' H4 s1' s4 → C.Cr H' H4 → CI (m - 1) s4.heap H4 → GoesN (model X.prog X.w) X.A.in1 (RQ v [] CI En) (YQ v [] CI C) gs' m (.send .none) s4)
    (E := fun _ _ => False) lgn (next_asl (R := RQ v [] CI En) (Y := YQ v [] CI C) hh I2.nolimit (by have := hr.dp; omega) (isg _ eg2) hgs2 goes (fun n s₀ r s₁ h => h.1) (fun u s3 gs' hbare hasl hy lg => ?_) fun r s3 hR h' hk _ => ?_)) (fun r s3 h3 => ?_) fun _ _ z => False.elim z
  · -- an item
    obtain ⟨Hr, H3, x, out, rx, yd, kap⟩ := hy
    have ci := out.ci
    rw [← hCI] at ci
    obtain ⟨σr, hI, wr⟩ := ci
    have Ir : Inv X pins σr Hr (s2.setGen gn .running) := hI _ rfl I2.os (allBare_setGen I2.bare rfl)
    have I3 : Inv X pins σr H3 s3 := back_in Ir old (fun b ob _ hb _ _ => .inr (Nat.le_trans sX hb)) (by rw [← hv] at out; exact out) (stY _ _ _ _ yd)
    have pk := out.pk (a, go) (by rw [← hv]; exact List.mem_singleton.mpr rfl)
    have lg' : gn < s3.gens.size := by
      have := lg
      rw [setGen_size] at this
      exact this
    exact ⟨σr, Hr, H3, x, gs', s3, wr, I3.same rfl rfl (allBare_setGen I3.bare hbare), rx, yd, pk.1, pk.2, hasl, setGen_at lg', rfl, kap⟩
  · -- the end
    obtain ⟨_, n0', Hr, H3, out, en⟩ := hR
    subst n0'
    have ci := out.ci
    rw [← hCI] at ci
    obtain ⟨σr, hI, wr⟩ := ci
    have Ir : Inv X pins σr Hr (s2.setGen gn .running) := hI _ rfl I2.os (allBare_setGen I2.bare rfl)
    have I3 : Inv X pins σr H3 s3 := back_in Ir old (fun b ob _ hb _ _ => .inr (Nat.le_trans sX hb)) (by rw [← hv] at out; exact out) (stE _ _ en)
    exact ⟨σr, H3, (I3.same (s' := s3.setGen gn .finished) rfl rfl (allBare_setGen I3.bare rfl)).kept (t' := s3.toks) hk, hend _ _ _ wr en⟩
  · cases r with
    | none =>
      obtain ⟨σ', H', I', q⟩ := h3
      exact wpAny_execs_nil ⟨σ', H', I', q⟩
    | some u =>
      obtain ⟨σ3, Hr, H3, x, gs', s1', w3, I3, rx, yd, eg3, na3, hasl, hgs3, eh, kap⟩ := h3
      obtain ⟨og, nm, qn, hog, hcg, hdg, _⟩ := isg _ eg3
      refine go_of hog hcg hdg (by decide) ?_
      generalize hpU : pins ++ pinsAt (others X H3 s3.heap) s3.heap = pU
      have I3' : Inv X pU σ3 H3 s3 := by rw [← hpU]; exact Inv.others I3
      have Im : Inv (mute X) pU σ3 H3 (lull s3) := Inv.mute (I3'.same rfl rfl (lull_allBare I3.bare))
      refine thnL (hg.run pU (lull s3) σ3 H3 x u _ Im rx (hstep _ _ _ _ _ w3 yd)) I3.bare (fun _ _ ⟨_, _, I, _⟩ => I.bare) (fun _ s4 s5 ⟨σ5, H5, I5, q5⟩ e1 e2 e3 e4 => ?_)
      have I5' : Inv (mute X) pU σ5 H5 (lull s5) := I5.same (s' := lull s5) e1 e2 (lull_allBare e3)
      refine thnL (hb.run pU (lull s5) σ5 H5 _ I5' q5) e3 (fun f s6 q6 => ?_) (fun f s6 s7 q6 f1 f2 f3 f4 => ?_)
      · cases f with
        | next => obtain ⟨_, _, I, _⟩ := q6; exact I.bare
        | cont => obtain ⟨_, _, I, _⟩ := q6; exact I.bare
        | brk => obtain ⟨_, _, I, _⟩ := q6; exact I.bare
        | ret v => obtain ⟨_, _, _, I, _⟩ := q6; exact I.bare
      have un : ∀ {σ7 : L2.St} {H7 : Hp}, Inv X pU σ7 H7 s7 → Inv X pins σ7 H7 s7 := fun {σ7 H7} I7 => by
        rw [← hpU] at I7
        exact I7.unpinned
      have again : ∀ {σ7 : L2.St} {H7 : Hp}, Inv (mute X) pU σ7 H7 s6 → C.Cr H3 H7 ∧ W (m - 1) σ7 H7 → ∃ m', m' < m ∧ ∃ σ' H', Inv X pins σ' H' s7 ∧ W m' σ' H' ∧ s7.heap.get? a = some go ∧ ∃ gs, s7.gens[gn]? = some gs ∧ gs.Goes (model X.prog X.w) X.A.in1 (RQ v [] CI En) (YQ v [] CI C) m' (.send .none) (s7.setGen gn .running) := fun {σ7 H7} I6 ⟨cr, w7⟩ => by
        have I7 : Inv X pU σ7 H7 s7 := (Inv.loud I6).same f1 f2 f3
        have pinned : ∀ b o, s3.heap.get? b = some o → H3 b = none → b ∉ frs X.stack → (∀ x, o.data ≠ .cell x) → s7.heap.get? b = some o ∧ H7 b = none := fun b o e n hf hd => by
          obtain ⟨m1, m2⟩ := memF b hf
          have hp : (b, o) ∈ X.pn ++ pU := by rw [← hpU]; exact List.mem_append_right _ (List.mem_append_right _ (mem_others e n m1 m2 hd))
          have := I7.pin (b, o) hp
          exact ⟨this.1, this.2.1⟩
        have bk : Back v [] H3 H7 s1' (s7.setGen gn .running) := by
          rw [← hv]
          exact ⟨allBare_setGen f3 rfl, I7.bs, fun b o e n hf _ hd => pinned b o (by rw [← eh]; exact e) n hf hd, I7.stack, I7.stkFree, fun b hb => by simp at hb, I7.hok⟩
        have hgo := kap (s7.setGen gn .running) H7 bk cr (ciOf (s' := s7) (un I7) w7)
        cases m with
        | zero => exact False.elim hgo
        | succ m' => exact ⟨m', Nat.lt_succ_self _, σ7, H7, un I7, w7, (pinned a go eg3 na3 aF gnc).1, gs', f4 gn gs' (e4 gn gs' hgs3 hasl) hasl, hgo⟩
      cases f with
      | next => obtain ⟨σ7, H7, I6, q7⟩ := q6; exact again I6 q7
      | cont => obtain ⟨σ7, H7, I6, q7⟩ := q6; exact again I6 q7
      | brk => obtain ⟨σ7, H7, I6, q7⟩ := q6; exact ⟨σ7, H7, un ((Inv.loud I6).same f1 f2 f3), q7⟩
      | ret v => obtain ⟨x7, σ7, H7, I6, r7, q7⟩ := q6; exact ⟨x7, σ7, H7, un ((Inv.loud I6).same f1 f2 f3), r7, q7⟩
end
end Gq
set_option Elab.async false
set_option linter.all false
set_option maxRecDepth 100000
set_option maxHeartbeats 2000000
/-! The turns of any consumer, as two steps: the next item; asleep again. -/
namespace Gq
open PySem L2 PySem.Spec PyProof.Rows GenW
def CIof (X : Cx) (pins : List (Addr × Obj)) (W : Nat → L2.St → Hp → Prop) : CIT := fun m h Hc => ∃ σc, (∀ s : Shared, s.heap = h → s.os = X.s_0.os → AllBare s.gens → Inv X pins σc Hc s) ∧ W m σc Hc
theorem ciOf {X : Cx} {pins : List (Addr × Obj)} {W : Nat → L2.St → Hp → Prop} {m : Nat} {s : Shared} {σ : L2.St} {H : Hp} (I : Inv X pins σ H s) (w : W m σ H) : CIof X pins W m s.heap H :=
  ⟨σ, fun s2 e1 e2 e3 => I.same e1 (e2.trans I.os.symm) e3, w⟩
abbrev vw (X : Cx) (n0 : Nat) (a : Addr) (go : Obj) : Vw := ⟨X.prog, X.w, X.base, X.stack, n0, [(a, go)]⟩
/-- a consumer and its generator -/
structure Pair (X : Cx) (pins : List (Addr × Obj)) (W : Nat → L2.St → Hp → Prop) (n0 : Nat) (B : List Addr) (C : Ct) (En : Hp → Hp → Prop) (a gn : Addr) (go : Obj) : Prop where
  hh : X.A.handled = none
  dp : X.A.depth < recursionLimit
  isg : ∀ h : Heap, h.get? a = some go → h.IsGen a gn
  gnc : ∀ v, go.data ≠ .cell v
  old : Old X pins n0 B
  aF : a ∉ frs X.stack
  aB : a ∉ B
  memF : ∀ b, b ∉ frs X.stack → b ∉ B → b ≠ X.env.locals ∧ b ∉ X.fs
  bB : ∀ b ∈ B, b = X.env.locals
  hx : ∀ m σ Hr s, Inv X pins σ Hr s → W m σ Hr → ∀ b ob, s.heap.get? b = some ob → n0 ≤ b → b ∉ B → Hr b = none → b ∈ X.ex ∨ X.s_0.heap.objs.size ≤ b
  stY : ∀ m Hr x H', C.Yd m Hr x H' → Stays Hr H'
  stE : ∀ Hr H', En Hr H' → Stays Hr H'
/-- the generator waits, m items are to come -/
def Live (X : Cx) (pins : List (Addr × Obj)) (W : Nat → L2.St → Hp → Prop) (n0 : Nat) (B : List Addr) (C : Ct) (En : Hp → Hp → Prop) (a gn : Addr) (go : Obj) (m : Nat) (s : Shared) : Prop :=
  s.heap.get? a = some go ∧ ∃ gs, s.gens[gn]? = some gs ∧ gs.Goes (model X.prog X.w) X.A.in1 (RQ (vw X n0 a go) B (CIof X pins W) En) (YQ (vw X n0 a go) B (CIof X pins W) C) m (.send .none) (s.setGen gn .running)
/-- it sleeps behind an item -/
structure Item (X : Cx) (pins : List (Addr × Obj)) (W : Nat → L2.St → Hp → Prop) (n0 : Nat) (B : List Addr) (C : Ct) (En : Hp → Hp → Prop) (a gn : Addr) (go : Obj) (m : Nat) (H' : Hp) (gs' : GenState) (s3 : Shared) : Prop where
  eg : s3.heap.get? a = some go
  na : H' a = none
  hasl : Asl gs'
  hgs : s3.gens[gn]? = some gs'
  kap : ∀ s4 H4, (∀ s1 : Shared, s1.heap = s3.heap → Back (vw X n0 a go) B H' H4 s1 s4) → C.Cr H' H4 → CIof X pins W (m - 1) s4.heap H4 → GoesN (model X.prog X.w) X.A.in1 (RQ (vw X n0 a go) B (CIof X pins W) En) (YQ (vw X n0 a go) B (CIof X pins W) C) gs' m (.send .none) s4
section
variable {X : Cx} {pins : List (Addr × Obj)} {W : Nat → L2.St → Hp → Prop} {n0 : Nat} {B : List Addr} {C : Ct} {En : Hp → Hp → Prop} {a gn : Addr} {go : Obj} {m : Nat} {s : Shared} {σ : L2.St} {H : Hp}
theorem next_live (P : Pair X pins W n0 B C En a gn go) (I : Inv X pins σ H s) (l : Live X pins W n0 B C En a gn go m s) :
    wpAny (model X.prog X.w) X.A (pyNext (.ref a)) (fun r s3 => match r with
      | none => ∃ σ' Hr H', Inv X pins σ' H' s3 ∧ W 0 σ' Hr ∧ En Hr H'
      | some u => ∃ (σ' : L2.St) (Hr H' : Hp) (x : V) (gs' : GenState), W (m - 1 + 1) σ' Hr ∧ Inv X pins σ' H' s3 ∧ RelV x u ∧ C.Yd (m - 1) Hr x H' ∧ Item X pins W n0 B C En a gn go m H' gs' s3) (fun _ _ => False) s := by
  obtain ⟨eg, gs, hgs, goes⟩ := l
  have lgn : gn + 1 ≤ s.gens.size := (Array.getElem?_eq_some_iff.mp hgs).1
  refine wpAny_gsz (n := gn + 1) lgn (next_asl (R := RQ (vw X n0 a go) B (CIof X pins W) En) (Y := YQ (vw X n0 a go) B (CIof X pins W) C) P.hh I.nolimit P.dp (P.isg _ eg) hgs goes (fun n s₀ r s₁ h => h.1) (fun u s3 gs' hbare hasl hy lg => ?_) fun r s3 hR h' hk _ => ?_)
  · obtain ⟨Hr, H3, x, out, rx, yd, kap⟩ := hy
    obtain ⟨σr, hI, wr⟩ := out.ci
    have Ir : Inv X pins σr Hr (s.setGen gn .running) := hI _ rfl I.os (allBare_setGen I.bare rfl)
    have I3 : Inv X pins σr H3 s3 := back_in Ir P.old (P.hx _ _ _ _ Ir wr) out (P.stY _ _ _ _ yd)
    have pk := out.pk (a, go) (List.mem_singleton.mpr rfl)
    have lg' : gn < s3.gens.size := by
      have := lg
      rw [setGen_size] at this
      exact this
    exact ⟨σr, Hr, H3, x, gs', wr, I3.same rfl rfl (allBare_setGen I3.bare hbare), rx, yd, pk.1, pk.2, hasl, setGen_at lg', fun s4 H4 b cr ci => kap s4 H4 (b s3 rfl) cr ci⟩
  · obtain ⟨_, n0', Hr, H3, out, en⟩ := hR
    subst n0'
    obtain ⟨σr, hI, wr⟩ := out.ci
    have Ir : Inv X pins σr Hr (s.setGen gn .running) := hI _ rfl I.os (allBare_setGen I.bare rfl)
    have I3 : Inv X pins σr H3 s3 := back_in Ir P.old (P.hx _ _ _ _ Ir wr) out (P.stE _ _ en)
    exact ⟨σr, Hr, H3, (I3.same (s' := s3.setGen gn .finished) rfl rfl (allBare_setGen I3.bare rfl)).kept (t' := s3.toks) hk, wr, en⟩
/-- all that is to stay is pinned amid the consumer's turn -/
noncomputable abbrev held (X : Cx) (pins : List (Addr × Obj)) (H : Hp) (h : Heap) : List (Addr × Obj) := pins ++ pinsAt (others X H h) h
/-- the consumer's turn is done -/
theorem live_again (P : Pair X pins W n0 B C En a gn go) {H3 H7 : Hp} {σ7 σ8 : L2.St} {gs' : GenState} {s3 s7 : Shared} (it : Item X pins W n0 B C En a gn go m H3 gs' s3) (I7 : Inv X (held X pins H3 s3.heap) σ7 H7 s7) (I8 : Inv X pins σ8 H7 s7) (hg : s7.gens[gn]? = some gs') (cr : C.Cr H3 H7) (w7 : W (m - 1) σ8 H7) :
    ∃ m', m' < m ∧ W m' σ8 H7 ∧ Live X pins W n0 B C En a gn go m' s7 := by
  have pinned : ∀ b o, s3.heap.get? b = some o → H3 b = none → b ∉ frs X.stack → b ∉ B → (∀ x, o.data ≠ .cell x) → s7.heap.get? b = some o ∧ H7 b = none := fun b o e n hf hB hd => by
    obtain ⟨m1, m2⟩ := P.memF b hf hB
    have hp : (b, o) ∈ X.pn ++ held X pins H3 s3.heap := List.mem_append_right _ (List.mem_append_right _ (mem_others e n m1 m2 hd))
    have := I7.pin (b, o) hp
    exact ⟨this.1, this.2.1⟩
  obtain ⟨mL, ⟨oL, es, ep, hoL, hdL, _⟩, _⟩ := I7.loc
  have bk : ∀ s1 : Shared, s1.heap = s3.heap → Back (vw X n0 a go) B H3 H7 s1 (s7.setGen gn .running) := fun s1 eh =>
    ⟨allBare_setGen I7.bare rfl, I7.bs, fun b o e n hf hB hd => pinned b o (by rw [← eh]; exact e) n hf hB hd, I7.stack, I7.stkFree, fun b hb => by
      rw [P.bB b hb]
      exact ⟨oL, hoL, I7.free, fun v z => by rw [hdL] at z; cases z⟩, I7.hok⟩
  have hgo := it.kap (s7.setGen gn .running) H7 bk cr (ciOf (s := s7) I8 w7)
  cases m with
  | zero => exact False.elim hgo
  | succ m' => exact ⟨m', Nat.lt_succ_self _, w7, (pinned a go it.eg it.na P.aF P.aB P.gnc).1, gs', hg, hgo⟩
end
end Gq
set_option Elab.async false
set_option linter.all false
set_option maxRecDepth 100000
set_option maxHeartbeats 2000000
/-! A list comprehension over such a generator. -/
namespace Gq
open PySem L2 PySem.Spec PyProof.Rows GenW
/-- a block without cells of its own: what it captures stood ahead of it -/
theorem blk_cells {X : Cx} {scope : Scope} {own : List (Str × Nat)} {pins : List (Addr × Obj)} {σ : L2.St} {H : Hp} {s : Shared} {n : Nat} {x : Str} {c : Addr} (I : Inv X pins σ H s) (ok : BlkOk X.N X.env.scope scope own) (hnc : ∀ y ∈ scope.names, y.2 ≠ .cell)
    (e : (cellsFrom n scope.names (cloFrom X.env.cells scope.names [])).lookup x = some c) : c < s.heap.objs.size := by
  have same : ∀ (names : List (Str × NameKind)) (n : Nat) (acc : List (Str × Addr)), (∀ y ∈ names, y.2 ≠ .cell) → cellsFrom n names acc = acc := by
    intro names
    induction names with
    | nil => intro _ _ _; rfl
    | cons y r ih =>
      intro n acc h
      obtain ⟨nm, k⟩ := y
      have hk : (k == NameKind.cell) = false := by
        have := h (nm, k) List.mem_cons_self
        cases k <;> first | rfl | exact absurd rfl this
      show (if (k == NameKind.cell) = true then _ else _) = acc
      rw [hk]
      exact ih n acc fun y hy => h y (List.mem_cons_of_mem _ hy)
  rw [same _ _ _ hnc] at e
  rcases cloFrom_mem (PySem.mem_of_lookup e) with hm | ⟨h1, rfl⟩
  · cases hm
  · have hc : ∃ c, X.env.cells.lookup x = some c := by
      rcases ok.free _ h1 rfl with k | k
      · exact I.ok.has _ (.inl k)
      · exact I.ok.has _ (.inr k)
    obtain ⟨c, hc⟩ := hc
    rw [hc]
    obtain ⟨w, z⟩ := I.cell _ _ hc
    exact z.lt
section
variable {X : Cx}
/-- [elt for target in generator if ..]: D the new list -/
def tLcG (sp : SpQ) (t : TGa) (g : TG) (tt : TT) (te : TE) (vs : List Nat) : TE := fun σ H Q => t σ H fun as H1 => ∀ D, H1 D = none → ∃ (L : Nat) (C : Ct) (En : Hp → Hp → Prop) (W : Nat → Hp → Prop), sp as (upd H1 D (.lst [])) L C En ∧ (∀ m Hr x H', C.Yd m Hr x H' → Stays Hr H') ∧ (∀ Hr H', En Hr H' → Stays Hr H') ∧
  (∀ m H', W m H' → H' D ≠ none) ∧ W L (upd H1 D (.lst [])) ∧ (∀ Hr H', W 0 Hr → En Hr H' → Q (.ref D) H') ∧ ∀ m Hr x H', W (m + 1) Hr → C.Yd m Hr x H' → g x (wipe σ vs) H' fun σ2 H2 => wipe σ2 vs = wipe σ vs ∧ tt σ2 H2 fun b H3 =>
    if b = true then te σ2 H3 fun y H4 => ∃ acc, H4 D = some (.lst acc) ∧ acc.length < sizeLine ∧ C.Cr H' (upd H4 D (.lst (acc ++ [y]))) ∧ W m (upd H4 D (.lst (acc ++ [y]))) else C.Cr H' H3 ∧ W m H3
theorem lc_coreG {k : Nat} {pins : List (Addr × Obj)} {s : Shared} {σ : L2.St} {H : Hp} {Q : VK} {elt tg iter : Expr} {ifs : List Expr} {scope : Scope} {own : List (Str × Nat)} {pos pos' : Pos} {sp : SpQ} {t : TGa} {g : TG} {tt : TT} {te : TE} {use : Option (Value → Sem Unit)} {Qf : Value → Shared → Prop}
    (hc : X.calm = true) (hN : X.N.Nodup) (hr : Room (k + 1) X.A) (I : Inv X pins σ H s) (hi : PGenQ X k iter sp t) (ok : BlkOk X.N X.env.scope scope own) (hnc : ∀ y ∈ scope.names, y.2 ≠ .cell)
    (hg : ∀ (s : Shared) (H : Hp) (C : Addr) (cl : List (Str × Addr)) (fp : List Addr), PG (X.blk s H scope (compEnvC scope cl C X.env) fp) tg g) (ht : ∀ (s : Shared) (H : Hp) (C : Addr) (cl : List (Str × Addr)) (fp : List Addr), PTs (X.blk s H scope (compEnvC scope cl C X.env) fp) ifs tt)
    (he : ∀ (s : Shared) (H : Hp) (C : Addr) (cl : List (Str × Addr)) (fp : List Addr), PE (X.blk s H scope (compEnvC scope cl C X.env) fp) elt te) (hs : ∀ x, foldedSetIterable iter X.env x = pure x)
    (h : tLcG sp t g tt te (own.map (·.2)) σ H Q)
    (hRR : ∀ D C s' m H', Inv X pins σ H' s' → Q (.ref D) H' → s'.heap.Ns C m → FpOk X pins H' C → compPost (model X.prog X.w) X.A X.xe use Qf (.ref D) C (.ok .next) s') :
    wpAny (model X.prog X.w) X.A (comprehension (.ListComp elt [⟨tg, iter, ifs, 0⟩] scope pos) scope X.env pos' (newList []) false (eval iter X.env) use) Qf X.xe s := by
  have hfree : ∀ y ∈ scope.names, y.2 = .free → ∃ c, X.env.cells.lookup y.1 = some c := fun y hy e => by
    rcases ok.free y hy e with k | k
    · exact I.ok.has _ (.inl k)
    · exact I.ok.has _ (.inr k)
  refine wpAny_comprehension_free (use := use) rfl hs (closure_ok hfree) ok.kind (fun y hy e => by rw [ok.uniq y hy, e])
    (thn (hi.run pins s σ H _ I h) fun xv s1 hx => ?_)
  obtain ⟨H1, sc, as, Ic, hG, os1, ba1, kp1, q⟩ := hx
  obtain ⟨a, gn, c, go, rfl, na, la, ega, isg, gnc, hgs, wake⟩ := hG
  have I1 : Inv X pins σ H1 s1 := Ic.call' (ch := []) os1 (Un.kept kp1) (Ic.hok.kept kp1) ba1 fun b z => by simp at z
  refine wpAny_pyIter_gen (isg _ ega) ?_
  refine wpAny_newObj_type (newEnv_comp ?_) (by show 0 ≤ sizeLine; decide)
  generalize hD : s1.heap.objs.size = D
  have hDn : H1 D = none := I1.hok.fresh (Nat.le_of_eq hD)
  obtain ⟨L, C, En, W, hsp, stY, stE, wD, w0, hend, step⟩ := q D hDn
  -- the new list
  generalize hs3 : ({ s1 with heap := s1.heap.push { cls := .type "list", data := .seq ([] : List Value).toArray } } : Shared) = s3
  have I3 : Inv X pins σ (upd H1 D (.lst [])) s3 := by
    rw [← hs3]
    refine I1.laid (t' := s1.toks) (fun b o e => Heap.get?_push_of_some _ e) (Nat.le_of_eq hD) ⟨Nat.zero_le _, [], 0, .nil, ?_⟩
    rw [← hD]
    exact Heap.get?_push_size _ rfl
  have h3 : s3.heap = s1.heap.push { cls := .type "list", data := .seq ([] : List Value).toArray } := by rw [← hs3]
  have z3 : s3.heap.objs.size = s1.heap.objs.size + 1 := by rw [h3, Heap.size_push]
  generalize hn0 : sc.heap.objs.size = n0 at na wake
  -- the generator's own objects
  generalize hfpd : (List.range s1.heap.objs.size).filter (fun b => decide (n0 ≤ b)) = fp
  have memfp : ∀ b, b ∈ fp ↔ b < s1.heap.objs.size ∧ n0 ≤ b := fun b => by
    rw [← hfpd, List.mem_filter, List.mem_range, decide_eq_true_iff]
  have f3 : ∀ b ∈ fp, FpOk X pins (upd H1 D (.lst [])) b ∧ b < s3.heap.objs.size := fun b hb => by
    obtain ⟨h1, h2⟩ := (memfp b).mp hb
    have hn : upd H1 D (.lst []) b = none := by
      rw [upd_ne (by rw [← hD]; exact Nat.ne_of_lt h1)]
      exact Ic.hok.fresh (by rw [hn0]; exact h2)
    exact ⟨Ic.fpOk (by rw [hn0]; exact h2) hn, by rw [z3]; exact Nat.lt_succ_of_lt h1⟩
  have I4 := block_start I3 ok hN f3
  have pg := hg s3 (upd H1 D (.lst [])) s3.heap.objs.size (cellsFrom (s3.heap.objs.size + 1) scope.names (cloFrom X.env.cells scope.names [])) fp
  have pt := ht s3 (upd H1 D (.lst [])) s3.heap.objs.size (cellsFrom (s3.heap.objs.size + 1) scope.names (cloFrom X.env.cells scope.names [])) fp
  have pe := he s3 (upd H1 D (.lst [])) s3.heap.objs.size (cellsFrom (s3.heap.objs.size + 1) scope.names (cloFrom X.env.cells scope.names [])) fp
  have ceC : ∀ x c, (compEnvC scope (cellsFrom (s3.heap.objs.size + 1) scope.names (cloFrom X.env.cells scope.names [])) s3.heap.objs.size X.env).cells.lookup x = some c → c < n0 := fun x c e => by
    rw [← hn0]
    exact blk_cells Ic ok hnc e
  show codeAny _ _ (.compStart (.ListComp elt [⟨tg, iter, ifs, 0⟩] scope pos) 0 (.ref a) (.ref D) (compEnvC scope (cellsFrom (s3.heap.objs.size + 1) scope.names (cloFrom X.env.cells scope.names [])) s3.heap.objs.size X.env)) (compPost (model X.prog X.w) X.A X.xe use Qf (.ref D) s3.heap.objs.size) { s3 with heap := pushCells (s3.heap.push { cls := .type "dict", data := .dict #[] }) scope.names }
  generalize hce : compEnvC scope (cellsFrom (s3.heap.objs.size + 1) scope.names (cloFrom X.env.cells scope.names [])) s3.heap.objs.size X.env = ce at I4 pg pt pe ceC ⊢
  have cL : ce.locals = s3.heap.objs.size := by subst hce; rfl
  generalize hH3 : upd H1 D (.lst []) = H3 at I3 I4 pg pt pe w0 hsp f3
  generalize hs4 : ({ s3 with heap := pushCells (s3.heap.push { cls := .type "dict", data := .dict #[] }) scope.names } : Shared) = s4 at I4 ⊢
  have kp4 : ∀ b o, s1.heap.get? b = some o → s4.heap.get? b = some o := fun b o e => by
    rw [← hs4]
    refine pushCells_keeps _ _ _ _ (Heap.get?_push_of_some _ ?_)
    rw [h3]
    exact Heap.get?_push_of_some _ e
  have g4 : s4.gens = s1.gens := by rw [← hs4, ← hs3]
  have aF : a ∉ frs X.stack := fun hb => by
    obtain ⟨_, o, ho, _⟩ := Ic.stack.mem hb
    have := Heap.lt_size ho
    rw [hn0] at this
    exact absurd (Nat.lt_of_lt_of_le this na) (Nat.lt_irrefl _)
  have PR : Pair (X.blk s3 H3 scope ce fp) [] (fun m σ' H' => σ' = wipe σ (own.map (·.2)) ∧ W m H') n0 [ce.locals] C En a gn go := by
    refine ⟨I.ok.hd hc, by have := hr.dp; show X.A.depth < _; omega, isg, gnc, ⟨.inr (List.mem_singleton.mpr rfl), fun x c e => .inl (ceC x c e), fun p hp => absurd (show p ∈ ([] : List (Addr × Obj)) ++ [] from hp) (by simp)⟩, aF, fun z => ?_, fun b h1 h2 => ⟨fun z => h2 (List.mem_singleton.mpr z), h1⟩, fun b hb => List.mem_singleton.mp hb, fun m σ' Hr s' I' w' b ob e h1 h2 h3' => ?_, stY, stE⟩
    · have z := List.mem_singleton.mp z
      rw [cL, z3] at z
      rw [z] at la
      exact absurd la (Nat.not_lt.mpr (Nat.le_succ _))
    · rcases Nat.lt_trichotomy b s1.heap.objs.size with z | z | z
      · exact .inl ((memfp b).mpr ⟨z, h1⟩)
      · exfalso
        rw [z, hD] at h3'
        exact wD m Hr w'.2 h3'
      · refine .inr ?_
        show s3.heap.objs.size ≤ b
        rw [z3]
        exact z
  have first : Live (X.blk s3 H3 scope ce fp) [] (fun m σ' H' => σ' = wipe σ (own.map (·.2)) ∧ W m H') n0 [ce.locals] C En a gn go L s4 := by
    refine ⟨kp4 _ _ ega, .fresh c, by rw [g4]; exact hgs, rfl, ?_⟩
    refine wake X.A.in1 [ce.locals] _ (s4.setGen gn .running) H3 L C En ⟨hr.hd, by have := hr.dp; show X.A.depth + 3 * k + 5 < _; omega, by have := hr.un; show X.A.units + 1 + 16 * k + 200 < _; omega⟩ Ic.ok.frames (fun b hb => ?_) ?_ hsp (ciOf (s := s4) I4 ⟨rfl, w0⟩)
    · rw [List.mem_singleton.mp hb, cL, z3]
      exact Nat.le_succ _
    · obtain ⟨mL, ⟨oL, es, ep, hoL, hdL, _⟩, _⟩ := I4.loc
      refine ⟨allBare_setGen I4.bare rfl, I4.bs, fun b o e n _ _ _ => ⟨kp4 b o e, ?_⟩, I4.stack, I4.stkFree, fun b hb => ?_, I4.hok⟩
      · rw [← hH3, upd_ne (by rw [← hD]; exact Nat.ne_of_lt (Heap.lt_size e))]
        exact n
      · rw [List.mem_singleton.mp hb]
        exact ⟨oL, hoL, I4.free, fun v z => by rw [hdL] at z; cases z⟩
  have loop : codeAny (model X.prog X.w) X.A (.compLoop (.ListComp elt [⟨tg, iter, ifs, 0⟩] scope pos) 0 (.ref a) (.ref D) ce) (compPost (model X.prog X.w) X.A X.xe use Qf (.ref D) s3.heap.objs.size) s4 := by
    refine compLoop_any (fun n s' => ∃ H', Inv (X.blk s3 H3 scope ce fp) [] (wipe σ (own.map (·.2))) H' s' ∧ W n H' ∧ Live (X.blk s3 H3 scope ce fp) [] (fun m σ' H' => σ' = wipe σ (own.map (·.2)) ∧ W m H') n0 [ce.locals] C En a gn go n s') ?_ L ⟨H3, I4, w0, first⟩
    rintro n s5 ⟨H5, I5, w5, l5⟩
    refine thnF (next_live (X := X.blk s3 H3 scope ce fp) PR I5 l5) fun r s6 h6 => ?_
    cases r with
    | none =>
      obtain ⟨σ', Hr, H6, I6, ⟨_, w6⟩, en⟩ := h6
      -- back in the def's context
      have I7 : Inv X pins σ H6 s6 := I3.call' (ch := fp) I6.os I6.base I6.hok I6.bare fun b hb => ⟨(f3 b hb).1.2.2.2.1, (f3 b hb).1.2.1, (f3 b hb).1.2.2.2.2.1, (f3 b hb).1.2.2.2.2.2⟩
      have nC : H6 s3.heap.objs.size = none := by
        have z : H6 ce.locals = none := I6.free
        rw [cL] at z
        exact z
      obtain ⟨m, hn, _⟩ := I6.loc
      have hn : s6.heap.Ns ce.locals m := hn
      rw [cL] at hn
      exact hRR D s3.heap.objs.size s6 m H6 I7 (hend _ _ w6 en) hn (I3.fpOk (Nat.le_refl _) nC)
    | some u =>
      obtain ⟨σ6, Hr, H6, x, gs', ⟨rfl, w6⟩, I6, rx, yd, it⟩ := h6
      obtain ⟨og, nm, qn, hog, hcg, hdg, _⟩ := isg _ it.eg
      refine go_of hog hcg hdg (by decide) ?_
      have Ih : Inv (X.blk s3 H3 scope ce fp) (held (X.blk s3 H3 scope ce fp) [] H6 s6.heap) (wipe σ (own.map (·.2))) H6 s6 := Inv.others I6
      generalize hpU : held (X.blk s3 H3 scope ce fp) [] H6 s6.heap = pU at Ih
      refine thnL (pg.run pU (lull s6) _ H6 x u _ (Ih.same rfl rfl (lull_allBare I6.bare)) rx (step _ _ _ _ w6 yd)) I6.bare (fun _ _ ⟨_, _, I, _⟩ => I.bare) (fun _ s7 s8 ⟨σ8, H8, I8, hw8, q8⟩ e1 e2 e3 e4 => ?_)
      have I8' : Inv (X.blk s3 H3 scope ce fp) pU σ8 H8 (lull s8) := I8.same (s' := lull s8) e1 e2 (lull_allBare e3)
      refine thnL (pt.run pU (lull s8) σ8 H8 _ I8' q8) e3 (fun _ _ ⟨_, I, _⟩ => I.bare) (fun b s9 s10 ⟨H9, I9, q9⟩ f1 f2 f3' f4 => ?_)
      have hgs10 : s10.gens[gn]? = some gs' := f4 _ _ (e4 _ _ it.hgs it.hasl) it.hasl
      have hl : (wipe σ (own.map (·.2))).length = σ8.length := by rw [← hw8, wipe_length]
      -- the turn's end
      have fin : ∀ {s' : Shared} {H' : Hp}, Inv (X.blk s3 H3 scope ce fp) pU σ8 H' s' → s'.gens[gn]? = some gs' → C.Cr H6 H' ∧ W (n - 1) H' → ∃ m, m < n ∧ ∃ H', Inv (X.blk s3 H3 scope ce fp) [] (wipe σ (own.map (·.2))) H' s' ∧ W m H' ∧ Live (X.blk s3 H3 scope ce fp) [] (fun m σ' H' => σ' = wipe σ (own.map (·.2)) ∧ W m H') n0 [ce.locals] C En a gn go m s' := fun {s' H'} I' hg' ⟨cr, w'⟩ => by
        have Iw : Inv (X.blk s3 H3 scope ce fp) [] (wipe σ (own.map (·.2))) H' s' := by
          have I'' := I'
          rw [← hpU] at I''
          refine (I''.unpinned (pins := [])).weak hl fun j v e => ?_
          rw [← hw8] at e
          exact (wipe_some e).1
        have Iu : Inv (X.blk s3 H3 scope ce fp) (held (X.blk s3 H3 scope ce fp) [] H6 s6.heap) σ8 H' s' := by rw [hpU]; exact I'
        obtain ⟨m', hm, wm, lv⟩ := live_again PR it Iu Iw hg' cr ⟨rfl, w'⟩
        exact ⟨m', hm, H', Iw, wm.2, lv⟩
      cases b with
      | false =>
        simp only [Bool.false_eq_true, if_false] at q9 ⊢
        exact fin (I9.same f1 f2 f3') hgs10 q9
      | true =>
        simp only [if_true] at q9 ⊢
        have I10 : Inv (X.blk s3 H3 scope ce fp) pU σ8 H9 (lull s10) := I9.same (s' := lull s10) f1 f2 (lull_allBare f3')
        refine thnL (pe.run pU (lull s10) σ8 H9 _ I10 q9) f3' (fun _ _ ⟨_, _, I, _⟩ => I.bare) (fun z s11 s12 ⟨yv, H12, I12, r12, acc, hD12, hz12, nx⟩ k1 k2 k3 k4 => ?_)
        have hgs12 := k4 _ _ hgs10 it.hasl
        have I12' : Inv (X.blk s3 H3 scope ce fp) pU σ8 H12 (lull s12) := I12.same (s' := lull s12) k1 k2 (lull_allBare k3)
        refine thnL (P := fun v s' => Inv (X.blk s3 H3 scope ce fp) pU σ8 (upd H12 D (.lst (acc ++ [yv]))) s') (app_ok (X := X.blk s3 H3 scope ce fp) I12' hD12 hz12 r12 fun s13 I13 => I13) k3 (fun _ _ I => I.bare) (fun _ s13 s14 I13 l1 l2 l3 l4 => ?_)
        exact fin (I13.same l1 l2 l3) (l4 _ _ hgs12 it.hasl) nx
  exact codeAny_compStart_list loop (wpAny_pyIter_gen (isg _ (kp4 _ _ ega)) loop)
/-- as a value -/
theorem pe_lcG {k : Nat} {elt tg iter : Expr} {ifs : List Expr} {scope : Scope} {own : List (Str × Nat)} {pos : Pos} {sp : SpQ} {t : TGa} {g : TG} {tt : TT} {te : TE} (hc : X.calm = true) (hN : X.N.Nodup) (hr : Room (k + 1) X.A) (hi : PGenQ X k iter sp t) (ok : BlkOk X.N X.env.scope scope own) (hnc : ∀ y ∈ scope.names, y.2 ≠ .cell)
    (hg : ∀ (s : Shared) (H : Hp) (C : Addr) (cl : List (Str × Addr)) (fp : List Addr), PG (X.blk s H scope (compEnvC scope cl C X.env) fp) tg g) (ht : ∀ (s : Shared) (H : Hp) (C : Addr) (cl : List (Str × Addr)) (fp : List Addr), PTs (X.blk s H scope (compEnvC scope cl C X.env) fp) ifs tt)
    (he : ∀ (s : Shared) (H : Hp) (C : Addr) (cl : List (Str × Addr)) (fp : List Addr), PE (X.blk s H scope (compEnvC scope cl C X.env) fp) elt te) (hs : ∀ x, foldedSetIterable iter X.env x = pure x := by intro _; rfl) :
    PE X (.ListComp elt [⟨tg, iter, ifs, 0⟩] scope pos) (tLcG sp t g tt te (own.map (·.2))) := by
  refine ⟨fun pins s σ H Q I h => ?_⟩
  rw [eval_ListComp]
  refine lc_coreG hc hN hr I hi ok hnc hg ht he hs h fun D C s' m H' I' q hn f => ⟨m, hn, fun h'' sb => ?_⟩
  obtain ⟨f0, f1, f2, f3, f4, f5⟩ := f
  exact ⟨.ref D, H', I'.turned (t' := s'.toks) (fun b o hb e => (sb.2 b hb).trans e) f0 f1 f3 f4 f5, rfl, q⟩
end
end Gq
set_option Elab.async false
set_option linter.all false
set_option maxRecDepth 100000
set_option maxHeartbeats 4000000
/-! [pair for pair in party.crossings()]. -/
namespace Gq
open PySem L2 Sho NdefX Shg Sh1
theorem stays_grows {T : List (Addr × Str)} {H H' : Hp} (g : Grows T H H') : Stays H H' := fun b o e n => by
  rw [g.ext b o e n]
  exact fun z => nomatch z
theorem tabs_at {D : Addr} {H : Hp} {zs : List V} {o : HO} {T : List (Addr × Str)} (hl : H D = some (.lst zs)) (t : LamX.Tabs T H) : LamX.Tabs T (upd H D o) := fun p hp => by
  obtain ⟨qs, q1, q2, q3⟩ := t p hp
  have ne : ∀ {b : Addr} {u : HO}, H b = some u → (∀ z, u ≠ .lst z) → b ≠ D := fun {b u} h n z => by
    rw [z, hl] at h
    cases h
    exact n _ rfl
  refine ⟨qs, by rw [upd_ne (ne q1 fun _ z => nomatch z)]; exact q1, q2, fun p' cv h => ?_⟩
  obtain ⟨c, e1, e2⟩ := q3 p' cv h
  exact ⟨c, e1, by rw [upd_ne (ne e2 fun _ z => nomatch z)]; exact e2⟩
theorem km_upd {C D : Addr} {H : Hp} {zs ys : List V} {T : List (Addr × Str)} (e : H D = some (.lst zs)) : Km (· = D) C T H (upd H D (.lst ys)) where
  keep := fun a o h n _ => by rw [upd_ne n]; exact h
  old := fun a z => by subst z; exact ⟨_, e, trivial⟩
  new := fun a z => by subst z; exact ⟨_, upd_same, trivial⟩
  tab := tabs_at e
/-- the whole list of pairs -/
theorem cross_list {C : Addr} {T : List (Addr × Str)} {p : Addr} {xs : List Stay} {H : Hp} {σ : L2.St} {i : Nat} {Q : VK} (PA : PartyAt C H p xs) (hs : Short xs) (hl : xs.length ≤ 100) (hT : LamX.Tabs T H) (hi : i < σ.length)
    (h : ∀ (D : Addr) (H' : Hp) (out : List V), Grows T H H' → H D = none → H' D = some (.lst out) → PySem.Paired (PairAt H') out (crossed (xs.map rw3)) → Q (.ref D) H') :
    ∀ D, H D = none → ∃ (L : Nat) (Ct : Gq.Ct) (En : Hp → Hp → Prop) (W : Nat → Hp → Prop), spCrossQ C T [.ref p] (upd H D (.lst [])) L Ct En ∧ (∀ m Hr x H', Ct.Yd m Hr x H' → Stays Hr H') ∧ (∀ Hr H', En Hr H' → Stays Hr H') ∧
      (∀ m H', W m H' → H' D ≠ none) ∧ W L (upd H D (.lst [])) ∧ (∀ Hr H', W 0 Hr → En Hr H' → Q (.ref D) H') ∧ ∀ m Hr x H', W (m + 1) Hr → Ct.Yd m Hr x H' → gName i x (wipe σ [i]) H' fun σ2 H2 => wipe σ2 [i] = wipe σ [i] ∧ tYes σ2 H2 fun b H3 =>
        if b = true then tVar i σ2 H3 fun y H4 => ∃ acc, H4 D = some (.lst acc) ∧ acc.length < sizeLine ∧ Ct.Cr H' (upd H4 D (.lst (acc ++ [y]))) ∧ W m (upd H4 D (.lst (acc ++ [y]))) else Ct.Cr H' H3 ∧ W m H3 := by
  intro D hD
  have G0 : Grows T H (upd H D (.lst [])) := Grows.upd hD
  have eD : upd H D (.lst []) D = some (.lst []) := upd_same
  have hM : ∀ a, a = D → ∃ o, upd H D (.lst []) a = some o ∧ Fre C o := fun a z => by subst z; exact ⟨_, upd_same, trivial⟩
  have PA0 : PartyAt C (upd H D (.lst [])) p xs := by
    obtain ⟨dx, a, ws, h1, h2, h3⟩ := PA
    exact ⟨dx, a, ws, G0.ext _ _ h1 (fun _ z => nomatch z), G0.ext _ _ h2 (fun _ z => nomatch z), Shg.pair_mono (fun _ _ ⟨t, e, ht⟩ => ⟨t, e, G0.ext _ _ ht fun _ z => nomatch z⟩) h3⟩
  have T0 := G0.tab hT
  have big : (crossed (xs.map rw3)).length ≤ 10000 := by
    have := flat_le (f := fun x : Rw => (lifted (xs.map rw3) x).map fun y => (x.nm, y.nm)) (n := 100) (fun x => by
      rw [List.length_map]
      exact Nat.le_trans (lifted_len _ x) (by rw [List.length_map]; exact hl)) (takers (xs.map rw3))
    rw [takers_length, List.length_map] at this
    exact Nat.le_trans this (Nat.mul_le_mul_right 100 hl)
  generalize hH0 : upd H D (.lst []) = H0 at G0 eD hM PA0 T0 ⊢
  generalize hcr : crossed (xs.map rw3) = qs at h big
  refine ⟨qs.length, ⟨fun m Hr x H1 => Grows T Hr H1 ∧ ∃ q, qs[qs.length - 1 - m]? = some q ∧ PairAt H1 x q, fun H1 H2 => Km (· = D) C T H1 H2⟩, fun Hr H1 => Grows T Hr H1, fun m H' => m ≤ qs.length ∧ Km (· = D) C T H0 H' ∧ ∃ acc, H' D = some (.lst acc) ∧ PySem.Paired (PairAt H') acc (qs.take (qs.length - m)),
    ⟨p, xs, (· = D), rfl, PA0, hs, hl, T0, by rw [hcr], hM, fun m Hr x H1 q _ _ g e pa => ⟨g, q, by rw [← hcr]; exact (hcr ▸ e), pa⟩, fun _ _ k => k, fun _ _ _ g => g⟩, fun _ _ _ _ y => stays_grows y.1, fun _ _ g => stays_grows g, fun m H' w => ?_, ⟨Nat.le_refl _, Km.refl hM, [], eD, by rw [Nat.sub_self]; exact .nil⟩, fun Hr H' w g => ?_, fun m Hr x H' w y => ?_⟩
  · obtain ⟨_, _, acc, e, _⟩ := w
    rw [e]
    exact fun z => nomatch z
  · obtain ⟨_, k, acc, e, r⟩ := w
    rw [Nat.sub_zero, List.take_length] at r
    have k2 := k.then g.ext g.tab
    refine h D H' acc ⟨fun a o e1 n => ?_, fun t => k2.tab (by rw [← hH0]; exact LamX.Tabs.ext t fun b u q => by rw [upd_ne (ne_of_none q hD)]; exact q)⟩ hD (g.ext _ _ e fun _ z => nomatch z) (Shg.pair_mono (fun _ _ z => PairAt.ext g.ext z) r)
    refine k2.keep a o ?_ (fun z => by subst z; rw [hD] at e1; cases e1) n
    rw [← hH0, upd_ne (ne_of_none e1 hD)]
    exact e1
  · obtain ⟨lm, k, acc, e, r⟩ := w
    obtain ⟨g, q, hq, pa⟩ := y
    have e' := g.ext _ _ e fun _ z => nomatch z
    have k' := k.then g.ext g.tab
    have la := Shg.pair_len r
    have sq : wipe ((wipe σ [i]).set i (some x)) [i] = wipe σ [i] := by
      show ((σ.set i none).set i (some x)).set i none = σ.set i none
      rw [List.set_set, List.set_set]
    refine ⟨sq, ?_⟩
    dsimp only [tYes]
    rw [if_pos rfl]
    refine ⟨x, ?_, acc, e', ?_, km_upd e', by omega, k'.trans (km_upd e'), _, upd_same, ?_⟩
    · show ((σ.set i none).set i (some x))[i]? = _
      rw [List.getElem?_set_self (by rw [List.length_set]; exact hi)]
    · rw [la, List.length_take]
      have : 20000 < sizeLine := by decide
      omega
    · have et : qs.take (qs.length - m) = qs.take (qs.length - (m + 1)) ++ [q] := by
        rw [show qs.length - m = (qs.length - (m + 1)) + 1 from by omega, List.take_succ, show qs.length - (m + 1) = qs.length - 1 - m from by omega, hq]
        rfl
      rw [et]
      have ku : ∀ {v : V} {z : Str × Str}, PairAt H' v z → PairAt (upd H' D (.lst (acc ++ [x]))) v z := fun {v z} ⟨t, ev, ht⟩ => ⟨t, ev, by
        rw [upd_ne fun y => by rw [y, e'] at ht; cases ht]
        exact ht⟩
      exact Shg.pair_app (Shg.pair_mono (fun _ _ z => ku (PairAt.ext g.ext z)) r) (.cons (ku pa) .nil)
end Gq
set_option Elab.async false
set_option linter.all false
set_option maxRecDepth 100000
set_option maxHeartbeats 8000000
set_option autoImplicit false
/-! _crossing_names: whose stays cross whose. -/
namespace Ck
open PySem L2 Sho NdefX Shg Sh1 Gq
/-- who crosses n, in the order of the pairs -/
def nearOf (qs : List (Str × Str)) (n : Str) : List Str := qs.flatMap fun q => (if q.1 = n then [q.2] else []) ++ (if q.2 = n then [q.1] else [])
/-- a dict from each name to the list of those who cross it -/
def NearK (H : Hp) (kvs : List (Key × V)) (ns : List Str) (f : Str → List Str) : Prop := PySem.Paired (fun (kv : Key × V) (n : Str) => kv.1 = .inr n ∧ ∃ a, kv.2 = .ref a ∧ H a = some (.lst ((f n).map V.str))) kvs ns
abbrev NCn : List Str := ["party", "crossing", "one", "other", "name"]
theorem val_none {kvs : List (Key × V)} {k : Key} (h : ∀ kv ∈ kvs, kv.1 ≠ k) : valV kvs k = none := by
  unfold valV
  rw [List.find?_eq_none.mpr fun kv hkv => by simpa using h kv hkv]
  rfl
theorem none_back {H H1 : Hp} {q : Addr} (s : Same H H1) (h : H1 q = none) : H q = none := by
  cases e : H q with
  | none => rfl
  | some o => rw [s _ _ e] at h; cases h
theorem above_sub (x : Rw) : ∀ {l : List Rw} {y : Rw}, y ∈ above x l → y ∈ l
  | [], _, h => h
  | z :: l, y, h => by
    unfold above at h
    split at h
    · exact List.mem_cons_of_mem _ h
    · exact List.mem_cons_of_mem _ (above_sub x h)
theorem lifted_mem {rs : List Rw} {x y : Rw} (h : y ∈ lifted rs x) : y ∈ rs := by
  unfold lifted at h
  exact bot_mem.mp (above_sub x (List.mem_reverse.mp (List.mem_filter.mp h).1))
theorem no_attr {v : V} {n : Str} (h : (n == ("_stays" : Str)) = false) : List.lookup n [(("_stays" : Str), v)] = none := by
  simp [List.lookup, h]
theorem pair_ix {α β : Type} {R S : α → β → Prop} : ∀ {as : List α} {bs : List β}, PySem.Paired R as bs → (∀ (i : Nat) a b, as[i]? = some a → bs[i]? = some b → R a b → S a b) → PySem.Paired S as bs
  | _, _, .nil, _ => .nil
  | _, _, .cons h t, f => .cons (f 0 _ _ rfl rfl h) (pair_ix t fun i a b e1 e2 => f (i + 1) a b (by simpa using e1) (by simpa using e2))
theorem near_get {H : Hp} {kvs : List (Key × V)} {ns : List Str} {f : Str → List Str} (r : NearK H kvs ns f) {n : Str} (hn : n ∈ ns) : ∃ (a : Addr) (i : Nat) (kv : Key × V), kvs[i]? = some kv ∧ ns[i]? = some n ∧ kv.2 = .ref a ∧ valV kvs (.inr n) = some (.ref a) ∧ H a = some (.lst ((f n).map V.str)) := by
  unfold NearK at r
  induction r with
  | nil => cases hn
  | @cons kv m kvs ns h r ih =>
    obtain ⟨e1, a, e2, e3⟩ := h
    by_cases e : m = n
    · subst e
      exact ⟨a, 0, kv, rfl, rfl, e2, by rw [valV_pos e1, e2], e3⟩
    · obtain ⟨a', i, kv', h1, h2, h3, h4, h5⟩ := ih ((List.mem_cons.mp hn).resolve_left fun z => e z.symm)
      exact ⟨a', i + 1, kv', by simpa using h1, by simpa using h2, h3, by rw [valV_neg (fun z => e (by rw [e1] at z; exact Sum.inr.inj z))]; exact h4, h5⟩
theorem near_upd {H : Hp} {kvs : List (Key × V)} {ns : List Str} {f : Str → List Str} (r : NearK H kvs ns f) (nk : (kvs.map fun kv => kv.2).Nodup) (nn : ns.Nodup) {n z : Str} {a : Addr} {i : Nat} {kv : Key × V} (h1 : kvs[i]? = some kv) (h2 : ns[i]? = some n) (h3 : kv.2 = .ref a) :
    NearK (upd H a (.lst ((f n).map V.str ++ [.str z]))) kvs ns fun m => f m ++ if n = m then [z] else [] := by
  refine pair_ix r fun j kv' m e1 e2 ⟨q1, a', q2, q3⟩ => ⟨q1, a', q2, ?_⟩
  by_cases e : j = i
  · subst e
    rw [h1] at e1
    rw [h2] at e2
    cases e1
    cases e2
    rw [h3] at q2
    show _ = some (HO.lst ((f n ++ if n = n then [z] else []).map V.str))
    rw [← V.ref.inj q2, upd_same, if_pos rfl, List.map_append]
    rfl
  · have na : a' ≠ a := fun y => by
      have x1 : (kvs.map fun kv => kv.2)[j]? = some (.ref a) := by rw [List.getElem?_map, e1, ← y, ← q2]; rfl
      have x2 : (kvs.map fun kv => kv.2)[i]? = some (.ref a) := by rw [List.getElem?_map, h1, ← h3]; rfl
      exact e ((List.getElem?_inj (by
        have := (List.getElem?_eq_some_iff.mp x1).1
        exact this) nk).mp (x1.trans x2.symm))
    have nm : n ≠ m := fun y => by
      subst y
      exact e ((List.getElem?_inj ((List.getElem?_eq_some_iff.mp e2).1) nn).mp (e2.trans h2.symm))
    show _ = some (HO.lst ((f m ++ if n = m then [z] else []).map V.str))
    rw [upd_ne na, if_neg nm, List.append_nil]
    exact q3
section
variable {P : Program} {w : World} {K : PySem.W.Frag} {mg : Str → Option Value} {base : Heap}
def spNear (C : Addr) (T : List (Addr × Str)) : Sp := fun vs H Q _ => ∃ (p : Addr) (xs : List Stay), vs = [.ref p] ∧ PartyAt C H p xs ∧ Short xs ∧ xs.length ≤ 100 ∧ (xs.map fun x => x.1).Nodup ∧ LamX.Tabs T H ∧
  ∀ (D : Addr) (kvs : List (Key × V)) H', Grows T H H' → H' D = some (.dK kvs) → NearK H' kvs (xs.map fun x => x.1) (nearOf (crossed (xs.map rw3))) → Q (.ref D) H'
theorem scCn : FnScope NCn ["party"] (defScope sCrossingNames) := ⟨rfl, rfl, rfl, by decide +kernel, rfl, by decide +kernel, by decide +kernel⟩
theorem units1 {k : Nat} {A : Around} (r : Room k A) : A.units + 1 < cLine := by have := r.un; omega
theorem ok_near {f C fX fN pN : Addr} {fd fdX fdN : FuncData} {T : List (Addr × Str)} (F : Fun K "_crossing_names" "_crossing_names" sCrossingNames f fd) (PC : PartyC K mg C)
    (GN : FnOk P w K mg base CX0 1 fN fdN ["self"] (spPNames C)) (hN : PropOf K C "names" pN fN) (bN : Binds K fdN ["self"] [])
    (GX : GFnQ P w K mg base 8 fX fdX ["self"] (spCrossQ C T)) (mX : Meth K C "crossings" fX) (bX : Binds K fdX ["self"] []) :
    FnOk P w K mg base CX0 10 f fd ["party"] (spNear C T) := by
  refine F.ok scCn (fun vs H Q E h => ?_) (fun cdv A outer s H vs Q E hr h => ?_)
  · obtain ⟨p, xs, rfl, _⟩ := h
    rfl
  obtain ⟨p, xs, rfl, PA, hs, hl, nm, hT, k⟩ := h
  have nd := scCn.nd
  refine ⟨_, pss_cons (ps_setDcK (i := 1) (own := [("name", 4)]) (g := gName 4) (tt := tYes) (tk := tVar 4) (tv := tLst tNil) rfl nd rfl rfl (swD_true rfl rfl rfl (by decide +kernel)) (pi_tup (pe_prop (pv 0) PC.cl hN GN (hr.mono (by decide)) bN .nil pass0 rfl)) (blkOk_by (own := [("name", 4)]) (N := NCn) (sc := defScope sCrossingNames) (by decide +kernel))
      (fun _ _ _ _ _ => pg_name (i := 4) nd rfl (Or.inl rfl)) (fun _ _ _ _ _ => pts_nil) (fun _ _ _ _ _ => pv 4) (fun _ _ _ _ _ => pe_lst pa_nil))
    (pss_cons (ps_forG (k := 8) rfl rfl rfl (hr.mono (by decide)) (pgq_meth0 (pv 0) PC.cl mX GX (hr.mono (by decide)) bX .nil) (pg_tup rfl (pgs_cons (pg_name (i := 2) nd rfl (Or.inl rfl)) (pgs_cons (pg_name (i := 3) nd rfl (Or.inl rfl)) pgs_nil)))
      (pss_cons (ps_expr (pe_bm PySem.F.plainAttrs_list PySem.F.slot_list_append PySem.F.type_list_append mt_append (pe_dget (units1 hr) (pv 1) (pv 2) (fun _ _ => rfl)) (pa_cons (pv 3) pa_nil)))
        (pss_one (ps_expr (pe_bm PySem.F.plainAttrs_list PySem.F.slot_list_append PySem.F.type_list_append mt_append (pe_dget (units1 hr) (pv 1) (pv 3) (fun _ _ => rfl)) (pa_cons (pv 2) pa_nil))))))
      (pss_one (ps_ret (pv 1)))), ?_⟩
  obtain ⟨dx, b, ws, h1, h2, h3⟩ := id PA
  refine asg_rel (fun v H' => ∃ (D : Addr) (kvs : List (Key × V)), v = .ref D ∧ Same H H' ∧ H' D = some (.dK kvs) ∧ PySem.Paired (fun (kv : Key × V) (n : Str) => kv.1 = .inr n ∧ ∃ a, kv.2 = .ref a ∧ H' a = some (.lst []) ∧ H a = none) kvs (xs.map fun x => x.1) ∧ (kvs.map fun kv => kv.2).Nodup) (fun R0 h0 => ?_) fun vD HD hD => ?_
  · refine ⟨_, rfl, p, dx, _, rfl, h1, p, xs, rfl, PA, Nat.le_trans hl (by decide), fun H1 t s1 nt et => ⟨t, rfl, ⟨_, SqT.of et⟩, fun D nD => ?_⟩⟩
    have sD : Same H1 (upd H1 D (.dK [])) := Shg.same_upd nD
    refine loop_any (walk_tup (K := K) (a := t) (xs := xs.map fun x => V.str x.1)) (fun j H' => ∃ kvs, Same H1 H' ∧ H' D = some (.dK kvs) ∧ PySem.Paired (fun (kv : Key × V) (n : Str) => kv.1 = .inr n ∧ ∃ a, kv.2 = .ref a ∧ H' a = some (.lst []) ∧ H1 a = none) kvs ((xs.map fun x => x.1).take j) ∧ (kvs.map fun kv => kv.2).Nodup)
      ⟨[], sD, upd_same, .nil, List.nodup_nil⟩ (fun j H' _ q => by obtain ⟨_, s, _⟩ := q; exact SqT.of (s _ _ et)) (fun j v H4 H5 hj q yy => ?_) fun H4 q => ?_
    · obtain ⟨kvs, s4, e4, r4, n4⟩ := q
      obtain ⟨rfl, e2⟩ := yy
      rw [List.getElem?_map] at e2
      obtain ⟨x, hx, rfl⟩ := Option.map_eq_some_iff.mp e2
      have lk := Shg.pair_len r4
      refine ⟨rfl, _, rfl, Nat.zero_le _, fun q hq => ?_⟩
      have s5 := Shg.same_upd (o := .lst []) hq
      have eD := s5 _ _ e4
      have nin : x.1 ∉ (xs.map fun x => x.1).take j := fun h => by
        obtain ⟨i, hi⟩ := List.getElem?_of_mem h
        rw [List.getElem?_take] at hi
        split at hi
        · have e1 : (xs.map fun x => x.1)[j]? = some x.1 := by rw [List.getElem?_map, hx]; rfl
          have := L2.nodup_ix nm hi e1
          omega
        · cases hi
      have fresh : valV kvs (.inr x.1) = none := val_none fun kv hkv e => by
        obtain ⟨i, hi⟩ := List.getElem?_of_mem hkv
        obtain ⟨n, hn, e1, _⟩ := Shg.pair_get r4 hi
        rw [e1] at e
        exact nin (Sum.inr.inj e ▸ List.mem_of_getElem? hn)
      have e3 : (upd (upd H5 q (.lst [])) D (.dK (putK kvs (.inr x.1) (.ref q)))) D = some (.dK (kvs ++ [(.inr x.1, .ref q)])) := by rw [upd_same, putK_new _ fresh]
      have qD : q ≠ D := fun z => by rw [z, e4] at hq; cases hq
      have keep : ∀ a, H5 a = some (.lst []) → (upd (upd H5 q (.lst [])) D (.dK (putK kvs (.inr x.1) (.ref q)))) a = some (.lst []) := fun a ha => by
        rw [upd_ne fun z => by rw [z, e4] at ha; cases ha]
        exact s5 _ _ ha
      refine ⟨kvs, .inr x.1, rfl, eD, ?_, kvs ++ [(.inr x.1, .ref q)], fun b u e => ?_, e3, ?_, ?_⟩
      · rw [lk, List.length_take, List.length_map]
        have : 1000 < sizeLine := by decide
        omega
      · rw [upd_ne (ne_of_none e nD)]
        exact (s4.trans s5) b u e
      · rw [List.take_succ, List.getElem?_map, hx]
        refine Shg.pair_app (Shg.pair_mono (fun kv n ⟨e1, a, e2, e3, e4⟩ => ⟨e1, a, e2, keep a e3, e4⟩) r4) (.cons ⟨rfl, q, rfl, ?_, none_back s4 hq⟩ .nil)
        rw [upd_ne qD]
        exact upd_same
      · rw [List.map_append, List.nodup_append]
        refine ⟨n4, by simp, fun u hu z hz e => ?_⟩
        rw [List.mem_singleton.mp hz] at e
        subst e
        obtain ⟨kv, hkv, e⟩ := List.mem_map.mp hu
        obtain ⟨i, hi⟩ := List.getElem?_of_mem hkv
        obtain ⟨n, hn, _, a, e1, e2, _⟩ := Shg.pair_get r4 hi
        rw [e] at e1
        rw [← V.ref.inj e1, hq] at e2
        cases e2
    · obtain ⟨kvs, s4, e4, r4, n4⟩ := q
      rw [List.take_of_length_le (by rw [List.length_map, List.length_map]; exact Nat.le_refl _)] at r4
      exact h0 _ _ ⟨D, kvs, rfl, s1.trans s4, e4, Shg.pair_mono (fun kv n ⟨e1, a, e2, e3, e4⟩ => ⟨e1, a, e2, e3, none_back s1 e4⟩) r4, n4⟩
  obtain ⟨D, kvs, rfl, sD, eD, rD, nD⟩ := hD
  have lk := Shg.pair_len rD
  have PD := PA.same sD
  have TD := LamX.Tabs.ext hT sD
  have mEm : ∀ a, (∃ kv ∈ kvs, kv.2 = V.ref a) → HD a = some (.lst []) ∧ H a = none := fun a ⟨kv, hkv, e⟩ => by
    obtain ⟨i, hi⟩ := List.getElem?_of_mem hkv
    obtain ⟨n, hn, _, a', e1, e2, e3⟩ := Shg.pair_get rD hi
    rw [e] at e1
    rw [V.ref.inj e1]
    exact ⟨e2, e3⟩
  generalize hMd : (fun a => ∃ kv ∈ kvs, kv.2 = V.ref a) = M
  have mEm : ∀ a, M a → HD a = some (.lst []) ∧ H a = none := fun a h => mEm a (by rw [← hMd] at h; exact h)
  have mOf : ∀ kv ∈ kvs, ∀ a, kv.2 = V.ref a → M a := fun kv h a e => by rw [← hMd]; exact ⟨kv, h, e⟩
  have hM : ∀ a, M a → ∃ o, HD a = some o ∧ Fre C o := fun a h => ⟨_, (mEm a h).1, trivial⟩
  have nMD : ¬ M D := fun z => by
    have := (mEm D z).1
    rw [eD] at this
    cases this
  obtain ⟨dx2, b2, ws2, p1, p2, p3⟩ := id PD
  generalize hq : crossed (xs.map rw3) = qs at k
  refine ⟨_, rfl, p, dx2, _, rfl, p1, no_attr (by decide +kernel), rfl, qs.length, ⟨fun m Hr x H1 => Grows T Hr H1 ∧ ∃ q, qs[qs.length - 1 - m]? = some q ∧ PairAt H1 x q, fun H1 H2 => Km M C T H1 H2⟩, fun Hr H1 => Grows T Hr H1,
    fun m σ H' => m ≤ qs.length ∧ (∃ o2 o3, σ = [some (.ref p), some (.ref D), o2, o3, none]) ∧ Km M C T HD H' ∧ NearK H' kvs (xs.map fun x => x.1) (nearOf (qs.take (qs.length - m))),
    ⟨p, xs, M, rfl, PD, hs, hl, TD, by rw [hq], hM, fun m Hr x H1 q _ _ g e pa => ⟨g, q, by rw [← hq]; exact (hq ▸ e), pa⟩, fun _ _ k => k, fun _ _ _ g => g⟩, fun _ _ _ _ y => stays_grows y.1, fun _ _ g => stays_grows g,
    ⟨Nat.le_refl _, ⟨none, none, rfl⟩, Km.refl hM, ?_⟩, fun σ Hr H' w g => ?_, fun m σ Hr x H' w y => ?_⟩
  · rw [Nat.sub_self]
    exact Shg.pair_mono (fun kv n ⟨e1, a, e2, e3, _⟩ => ⟨e1, a, e2, e3⟩) rD
  · obtain ⟨_, ⟨o2, o3, rfl⟩, kM, nk⟩ := w
    rw [Nat.sub_zero, List.take_length] at nk
    have k2 := kM.then g.ext g.tab
    refine ⟨_, rfl, k D kvs H' ⟨fun a o e n => k2.keep a o (sD _ _ e) (fun z => ?_) n, fun t => k2.tab (LamX.Tabs.ext t sD)⟩ (k2.keep D _ eD nMD fun _ z => nomatch z) (Shg.pair_mono (fun kv n ⟨e1, a, e2, e3⟩ => ⟨e1, a, e2, g.ext _ _ e3 fun _ z => nomatch z⟩) nk)⟩
    rw [(mEm a z).2] at e
    cases e
  · obtain ⟨lm, ⟨o2, o3, rfl⟩, kM, nk⟩ := w
    obtain ⟨g, q, hq1, t, rfl, ht⟩ := y
    refine ⟨t, _, rfl, SqT.of ht, rfl, _, _, rfl, _, _, rfl, rfl, ?_⟩
    have k2 := kM.then g.ext g.tab
    have eD2 := k2.keep D _ eD nMD fun _ z => nomatch z
    have nk2 : NearK H' kvs (xs.map fun x => x.1) (nearOf (qs.take (qs.length - (m + 1)))) := Shg.pair_mono (fun kv n ⟨e1, a, e2, e3⟩ => ⟨e1, a, e2, g.ext _ _ e3 fun _ z => nomatch z⟩) nk
    have mem : q.1 ∈ (xs.map fun x => x.1) ∧ q.2 ∈ (xs.map fun x => x.1) := by
      have h1 := List.mem_of_getElem? hq1
      rw [← hq] at h1
      unfold crossed at h1
      obtain ⟨r, hr', h2⟩ := List.mem_flatMap.mp h1
      obtain ⟨r2, hr2, rfl⟩ := List.mem_map.mp h2
      have h3 := takers_mem hr'
      have h4 : r2 ∈ xs.map rw3 := lifted_mem hr2
      obtain ⟨x, hx, rfl⟩ := List.mem_map.mp h3
      obtain ⟨y, hy, rfl⟩ := List.mem_map.mp h4
      exact ⟨List.mem_map.mpr ⟨x, hx, rfl⟩, List.mem_map.mpr ⟨y, hy, rfl⟩⟩
    have few : ∀ n, (nearOf (qs.take (qs.length - (m + 1))) n).length + 2 < sizeLine := fun n => by
      have h1 := flat_le (f := fun q : Str × Str => (if q.1 = n then [q.2] else []) ++ (if q.2 = n then [q.1] else [])) (n := 2) (fun q => by
        rw [List.length_append]
        have e1 : ((if q.1 = n then [q.2] else [] : List Str)).length ≤ 1 := by split <;> simp
        have e2 : ((if q.2 = n then [q.1] else [] : List Str)).length ≤ 1 := by split <;> simp
        omega) (qs.take (qs.length - (m + 1)))
      have h2 : (nearOf (qs.take (qs.length - (m + 1))) n).length ≤ (qs.take (qs.length - (m + 1))).length * 2 := h1
      have h3 := flat_le (f := fun x : Rw => (lifted (xs.map rw3) x).map fun y => (x.nm, y.nm)) (n := 100) (fun x => by
        rw [List.length_map]
        exact Nat.le_trans (lifted_len _ x) (by rw [List.length_map]; exact hl)) (takers (xs.map rw3))
      rw [takers_length, List.length_map] at h3
      have h4 : qs.length ≤ xs.length * 100 := by rw [← hq]; exact h3
      have h5 : 30000 < sizeLine := by decide
      rw [List.length_take] at h2
      omega
    obtain ⟨a1, i1, kv1, c1, c2, c3, c4, c5⟩ := near_get nk2 mem.1
    have M1 := mOf kv1 (List.mem_of_getElem? c1) a1 c3
    refine ⟨_, rfl, _, rfl, D, .ref a1, rfl, ?_, .inl ⟨rfl, _, SqL.of c5⟩, _, rfl, a1, _, _, rfl, rfl, c5, ?_, ?_⟩
    · rw [← c4]
      exact DGet.k (k := Sum.inr q.1) eD2
    · rw [List.length_map]
      have := few q.1
      omega
    have nk3 := near_upd nk2 nD nm c1 c2 c3 (z := q.2)
    have km3 : Km M C T H' (upd H' a1 (.lst ((nearOf (qs.take (qs.length - (m + 1))) q.1).map V.str ++ [.str q.2]))) := ⟨fun b o e n _ => by
      have nb : b ≠ a1 := fun z => by subst z; exact n M1
      rw [upd_ne nb]; exact e, k2.new, fun b h => by
      by_cases e : b = a1
      · subst e; exact ⟨_, upd_same, trivial⟩
      · rw [upd_ne e]; exact k2.new b h, fun t => tabs_at c5 t⟩
    have eD3 := km3.keep D _ eD2 nMD fun _ z => nomatch z
    generalize upd H' a1 (.lst ((nearOf (qs.take (qs.length - (m + 1))) q.1).map V.str ++ [.str q.2])) = H3 at nk3 km3 eD3 ⊢
    obtain ⟨a2, i2, kv2, d1, d2, d3, d4, d5⟩ := near_get nk3 mem.2
    have M2 := mOf kv2 (List.mem_of_getElem? d1) a2 d3
    refine ⟨_, rfl, _, rfl, D, .ref a2, rfl, ?_, .inl ⟨rfl, _, SqL.of d5⟩, _, rfl, a2, _, _, rfl, rfl, d5, ?_, ?_⟩
    · rw [← d4]
      exact DGet.k (k := Sum.inr q.2) eD3
    · rw [List.length_map]
      have := few q.2
      show ((nearOf (qs.take (qs.length - (m + 1))) q.2) ++ _).length < _
      rw [List.length_append]
      have : ((if q.1 = q.2 then [q.2] else [] : List Str)).length ≤ 1 := by split <;> simp
      omega
    have nk4 := near_upd nk3 nD nm d1 d2 d3 (z := q.1)
    have et : qs.take (qs.length - m) = qs.take (qs.length - (m + 1)) ++ [q] := by
      rw [show qs.length - m = (qs.length - (m + 1)) + 1 from by omega, List.take_succ, show qs.length - (m + 1) = qs.length - 1 - m from by omega, hq1]
      rfl
    have ef : (fun n => (nearOf (qs.take (qs.length - (m + 1))) n ++ if q.1 = n then [q.2] else []) ++ if q.2 = n then [q.1] else []) = nearOf (qs.take (qs.length - m)) := by
      funext n
      rw [et]
      unfold nearOf
      rw [List.flatMap_append, List.flatMap_cons, List.flatMap_nil, List.append_nil, List.append_assoc]
    have nk5 : NearK _ kvs (xs.map fun x => x.1) _ := nk4
    rw [ef] at nk5
    have km4 : Km M C T H3 (upd H3 a2 (.lst ((nearOf (qs.take (qs.length - (m + 1))) q.2 ++ if q.1 = q.2 then [q.2] else []).map V.str ++ [.str q.1]))) := ⟨fun b o e n _ => by
      have nb : b ≠ a2 := fun z => by subst z; exact n M2
      rw [upd_ne nb]; exact e, km3.new, fun b h => by
      by_cases e : b = a2
      · subst e; exact ⟨_, upd_same, trivial⟩
      · rw [upd_ne e]; exact km3.new b h, fun t => tabs_at d5 t⟩
    exact ⟨km3.trans km4, by omega, ⟨_, _, rfl⟩, (k2.trans km3).trans km4, nk5⟩
end
end Ck
set_option Elab.async false
set_option linter.all false
set_option maxRecDepth 100000
set_option maxHeartbeats 2000000
set_option autoImplicit false
/-! Who crosses whom: numbers. -/
namespace Ck
open PySem L2 Sho NdefX Shg Sh1 Gq
theorem crossed_mem {rs : List Rw} {q : Str × Str} (hq : q ∈ crossed rs) : q.1 ∈ rs.map Rw.nm ∧ q.2 ∈ rs.map Rw.nm := by
  unfold crossed at hq
  obtain ⟨r, hr', h2⟩ := List.mem_flatMap.mp hq
  obtain ⟨r2, hr2, rfl⟩ := List.mem_map.mp h2
  exact ⟨List.mem_map.mpr ⟨r, takers_mem hr', rfl⟩, List.mem_map.mpr ⟨r2, lifted_mem hr2, rfl⟩⟩
theorem near_mem {rs : List Rw} {n m : Str} (h : m ∈ nearOf (crossed rs) n) : m ∈ rs.map Rw.nm := by
  unfold nearOf at h
  obtain ⟨q, hq, h⟩ := List.mem_flatMap.mp h
  have both := crossed_mem hq
  rcases List.mem_append.mp h with h | h
  · split at h
    · rw [List.mem_singleton.mp h]; exact both.2
    · cases h
  · split at h
    · rw [List.mem_singleton.mp h]; exact both.1
    · cases h
theorem crossed_few (rs : List Rw) {k : Nat} (hk : rs.length ≤ k) : (crossed rs).length ≤ k * k := by
  have h3 := flat_le (f := fun x : Rw => (lifted rs x).map fun y => (x.nm, y.nm)) (n := k) (fun x => by
    rw [List.length_map]
    exact Nat.le_trans (lifted_len _ x) hk) (takers rs)
  rw [takers_length] at h3
  exact Nat.le_trans h3 (Nat.mul_le_mul_right k hk)
theorem near_few (qs : List (Str × Str)) (n : Str) : (nearOf qs n).length ≤ qs.length * 2 := flat_le (f := fun q : Str × Str => (if q.1 = n then [q.2] else []) ++ (if q.2 = n then [q.1] else [])) (n := 2) (fun q => by
  rw [List.length_append]
  have e1 : ((if q.1 = n then [q.2] else [] : List Str)).length ≤ 1 := by split <;> simp
  have e2 : ((if q.2 = n then [q.1] else [] : List Str)).length ≤ 1 := by split <;> simp
  omega) qs
theorem nm_rw (xs : List Stay) : (xs.map rw3).map Rw.nm = xs.map fun x => x.1 := by
  rw [List.map_map]
  rfl
theorem near_sym {qs : List (Str × Str)} {n m : Str} (h : m ∈ nearOf qs n) : n ∈ nearOf qs m := by
  unfold nearOf at h ⊢
  obtain ⟨q, hq, h⟩ := List.mem_flatMap.mp h
  refine List.mem_flatMap.mpr ⟨q, hq, ?_⟩
  rcases List.mem_append.mp h with h | h
  · split at h
    · rename_i e
      rw [List.mem_singleton.mp h, e]
      exact List.mem_append_right _ (by simp)
    · cases h
  · split at h
    · rename_i e
      rw [List.mem_singleton.mp h, e]
      exact List.mem_append_left _ (by simp)
    · cases h
theorem near_iff {qs : List (Str × Str)} {n m : Str} : m ∈ nearOf qs n ↔ (n, m) ∈ qs ∨ (m, n) ∈ qs := by
  unfold nearOf
  rw [List.mem_flatMap]
  constructor
  · rintro ⟨q, hq, h⟩
    obtain ⟨a, b⟩ := q
    rcases List.mem_append.mp h with h1 | h1
    · by_cases e : a = n
      · have h1 : m ∈ (if a = n then [b] else []) := h1
        rw [if_pos e] at h1
        rw [← e, List.mem_singleton.mp h1]
        exact .inl hq
      · have h1 : m ∈ (if a = n then [b] else []) := h1
        rw [if_neg e] at h1
        cases h1
    · by_cases e : b = n
      · have h1 : m ∈ (if b = n then [a] else []) := h1
        rw [if_pos e] at h1
        rw [← e, List.mem_singleton.mp h1]
        exact .inr hq
      · have h1 : m ∈ (if b = n then [a] else []) := h1
        rw [if_neg e] at h1
        cases h1
  · rintro (h | h)
    · exact ⟨_, h, List.mem_append_left _ (by simp)⟩
    · exact ⟨_, h, List.mem_append_right _ (by simp)⟩
theorem near_same {H H' : Hp} {kvs : List (Key × V)} {gs : List Str} {F0 : Str → List Str} (nk : NearK H kvs gs F0) (s : Same H H') : NearK H' kvs gs F0 := Shg.pair_mono (fun kv n ⟨e1, a, e2, e3⟩ => ⟨e1, a, e2, s _ _ e3⟩) nk
theorem and_yes {A B : TT} {σ : L2.St} {H : Hp} {Q : Bool → Hp → Prop} (hA : ∀ R : Bool → Hp → Prop, R true H → A σ H R) (hB : B σ H Q) : tAnd A B σ H Q := hA _ (iteT hB)
theorem and_not {A B : TT} {σ : L2.St} {H : Hp} {Q : Bool → Hp → Prop} (hA : ∀ R : Bool → Hp → Prop, R false H → A σ H R) (hQ : Q false H) : tAnd A B σ H Q := hA _ (iteF hQ)
theorem cut_take (ws : List V) (k : Nat) : cutV ws none (some (k : Int)) = ws.take k := by
  unfold cutV
  rw [HT.sIx_none, HT.sIx_nat, List.drop_zero, Nat.sub_zero]
  by_cases h : k ≤ ws.length
  · rw [Nat.min_eq_left h]
  · rw [Nat.min_eq_right (by omega), List.take_length, List.take_of_length_le (by omega)]
theorem atI_m1 {xs : List V} {x : V} (h : 1 ≤ xs.length) (e : xs[xs.length - 1]? = some x) : atI xs (-1) = some x := by
  have hne : xs ≠ [] := fun z => by rw [z] at h; exact absurd h (by decide)
  have e2 : xs.getLast hne = x := by
    rw [List.getElem?_eq_getElem (by omega)] at e
    rw [List.getLast_eq_getElem]
    exact Option.some.inj e
  have e3 := List.dropLast_concat_getLast hne
  rw [e2] at e3
  rw [← e3]
  exact atI_last _ _
theorem walk_enumL {K : PySem.W.Frag} {a : Addr} {xs : List V} : Walk (Ite K a) xs.length (fun H => SqL K H a xs) (YPair (fun i => some (.int (i : Nat))) (fun i => xs[i]?)) := by
  refine ⟨fun i H hi q => ⟨xs, xs[i], q, by simp [hi]⟩, fun H q => ⟨xs, q, Nat.le_refl _⟩, fun i H v H' _ q y => ?_⟩
  obtain ⟨T, x, h1, h2, h3, h4⟩ := y
  exact ⟨T, .int (i : Nat), x, h1, h2, h3, rfl, h4 xs q⟩
end Ck
set_option Elab.async false
set_option linter.all false
set_option maxRecDepth 100000
set_option maxHeartbeats 4000000
/-! What is sorted: bot is a permutation, in the order of coming, stable. -/
namespace Sh1
open PySem L2 Sho NdefX Shg
theorem insK_perm {α : Type} {p : Int × α} : ∀ {l : List (Int × α)}, (insK p l).Perm (p :: l)
  | [] => List.Perm.refl _
  | q :: l => by
    unfold insK
    split
    · exact List.Perm.refl _
    · exact ((insK_perm (p := p) (l := l)).cons q).trans (List.Perm.swap p q l)
theorem sortK_perm {α : Type} : ∀ {l : List (Int × α)}, (sortK l).Perm l
  | [] => List.Perm.refl _
  | q :: l => by
    unfold sortK
    exact insK_perm.trans ((sortK_perm (l := l)).cons q)
theorem insK_sorted {α : Type} {p : Int × α} : ∀ {l : List (Int × α)}, l.Pairwise (fun a b => a.1 ≤ b.1) → (insK p l).Pairwise (fun a b => a.1 ≤ b.1)
  | [], _ => by
    unfold insK
    simp
  | q :: l, h => by
    rw [List.pairwise_cons] at h
    unfold insK
    split
    · rename_i hle
      rw [List.pairwise_cons]
      refine ⟨fun b hb => ?_, List.pairwise_cons.mpr h⟩
      rcases List.mem_cons.mp hb with rfl | hb
      · exact hle
      · exact Int.le_trans hle (h.1 b hb)
    · rename_i hle
      rw [List.pairwise_cons]
      refine ⟨fun b hb => ?_, insK_sorted h.2⟩
      rcases insK_mem.mp hb with rfl | hb
      · omega
      · exact h.1 b hb
theorem sortK_sorted {α : Type} : ∀ {l : List (Int × α)}, (sortK l).Pairwise (fun a b => a.1 ≤ b.1)
  | [] => by
    unfold sortK
    exact List.Pairwise.nil
  | q :: l => by
    unfold sortK
    exact insK_sorted sortK_sorted
theorem zip_map_self {α β : Type} (f : α → β) : ∀ l : List α, (l.map f).zip l = l.map fun x => (f x, x)
  | [] => rfl
  | x :: l => by rw [List.map_cons, List.zip_cons_cons, zip_map_self f l, List.map_cons]
theorem bot_perm (rs : List Rw) : (bot rs).Perm rs := by
  unfold bot sortV
  rw [zip_map_self]
  refine (sortK_perm.map _).trans ?_
  rw [List.map_map]
  simp [Function.comp_def]
theorem bot_sorted (rs : List Rw) : (bot rs).Pairwise (fun a b => a.come ≤ b.come) := by
  unfold bot sortV
  rw [zip_map_self]
  rw [List.pairwise_map]
  refine List.Pairwise.imp_of_mem (fun {a b} ha hb h => ?_) sortK_sorted
  obtain ⟨x, _, rfl⟩ := List.mem_map.mp (sortK_mem.mp ha)
  obtain ⟨y, _, rfl⟩ := List.mem_map.mp (sortK_mem.mp hb)
  exact h
theorem bot_key {rs : List Rw} : ∀ q ∈ sortK (rs.map fun x => (x.come, x)), q.1 = q.2.come := fun q hq => by
  obtain ⟨x, _, rfl⟩ := List.mem_map.mp (sortK_mem.mp hq)
  rfl
theorem sortV_self (f : Rw → Int) (rs : List Rw) : sortV (rs.map f) rs = (sortK (rs.map fun x => (f x, x))).map (·.2) := by
  unfold sortV
  rw [zip_map_self]
theorem sortV_filter (f : Rw → Int) (rs : List Rw) (c : Int) : (sortV (rs.map f) rs).filter (fun r => decide (f r = c)) = rs.filter fun r => decide (f r = c) := by
  have key : ∀ q ∈ sortK (rs.map fun x => (f x, x)), q.1 = f q.2 := fun q hq => by
    obtain ⟨x, _, rfl⟩ := List.mem_map.mp (sortK_mem.mp hq)
    rfl
  rw [sortV_self, List.filter_map]
  have e1 : (sortK (rs.map fun x => (f x, x))).filter ((fun r => decide (f r = c)) ∘ fun x => x.2) = (sortK (rs.map fun x => (f x, x))).filter fun q => q.1 == c :=
    List.filter_congr fun q hq => by
      show decide (f q.2 = c) = (q.1 == c)
      rw [key q hq, Bool.eq_iff_iff]
      simp
  rw [e1, sortK_filter, List.filter_map, List.map_map]
  have e2 : ((fun x : Int × Rw => x.2) ∘ fun x : Rw => (f x, x)) = id := rfl
  rw [e2, List.map_id]
  refine List.filter_congr fun x _ => ?_
  show (f x == c) = decide (f x = c)
  rw [Bool.eq_iff_iff]
  simp
theorem sortV_perm (f : Rw → Int) (rs : List Rw) : (sortV (rs.map f) rs).Perm rs := by
  rw [sortV_self]
  refine (sortK_perm.map _).trans ?_
  rw [List.map_map]
  simp [Function.comp_def]
theorem sortV_sorted (f : Rw → Int) (rs : List Rw) : (sortV (rs.map f) rs).Pairwise (fun a b => f a ≤ f b) := by
  rw [sortV_self, List.pairwise_map]
  refine List.Pairwise.imp_of_mem (fun {a b} ha hb h => ?_) sortK_sorted
  obtain ⟨x, _, rfl⟩ := List.mem_map.mp (sortK_mem.mp ha)
  obtain ⟨y, _, rfl⟩ := List.mem_map.mp (sortK_mem.mp hb)
  exact h
end Sh1
set_option Elab.async false
set_option linter.all false
set_option maxRecDepth 100000
set_option maxHeartbeats 2000000
set_option autoImplicit false
/-! Nobody crosses himself. -/
namespace Fp
open PySem L2 Sho NdefX Shg Sh1 Gq Ck
theorem above_ne {x : Rw} : ∀ {l : List Rw} {y : Rw}, (l.map Rw.nm).Nodup → y ∈ above x l → y.nm ≠ x.nm
  | [], y, _, h => (by cases h)
  | z :: l, y, nd, h => by
    rw [List.map_cons, List.nodup_cons] at nd
    by_cases e : z = x
    · unfold above at h
      rw [if_pos e] at h
      intro q
      rw [← e] at q
      exact nd.1 (q ▸ List.mem_map.mpr ⟨y, h, rfl⟩)
    · unfold above at h
      rw [if_neg e] at h
      exact above_ne nd.2 h
theorem crossed_irr {rs : List Rw} (nd : (rs.map Rw.nm).Nodup) {q : Str × Str} (h : q ∈ crossed rs) : q.1 ≠ q.2 := by
  unfold crossed at h
  obtain ⟨r, _, h2⟩ := List.mem_flatMap.mp h
  obtain ⟨r2, hr2, rfl⟩ := List.mem_map.mp h2
  unfold lifted at hr2
  have h3 := List.mem_reverse.mp (List.mem_filter.mp hr2).1
  exact fun z => above_ne (((bot_perm rs).map Rw.nm).nodup_iff.mpr nd) h3 z.symm
theorem near_irr {rs : List Rw} (nd : (rs.map Rw.nm).Nodup) (n : Str) : n ∉ nearOf (crossed rs) n := fun h => by
  rcases near_iff.mp h with h | h
  · exact crossed_irr nd h rfl
  · exact crossed_irr nd h rfl
end Fp
set_option Elab.async false
set_option linter.all false
set_option maxRecDepth 100000
set_option maxHeartbeats 4000000
/-! Rows played tick by tick: who lifts whom, as pairs of rows; numbers only. -/
namespace Pq
open PySem L2 Sho NdefX Shg Sh1
/-- the takers in the order of going, who lie higher first -/
def takers (rs : List Rw) : List Rw := sortV ((bot rs).reverse.map Rw.go) (bot rs).reverse
def crossed (rs : List Rw) : List (Rw × Rw) := (takers rs).flatMap fun x => (lifted rs x).map fun y => (x, y)
theorem takers_mem {rs : List Rw} {r : Rw} (h : r ∈ takers rs) : r ∈ rs := by
  unfold takers sortV at h
  obtain ⟨x, hx, rfl⟩ := List.mem_map.mp h
  exact bot_mem.mp (List.mem_reverse.mp (List.of_mem_zip (sortK_mem.mp hx)).2)
/-- the goings of a tick, from the top down: what is lifted, the pile that is left -/
def gone (t : Int) : List Rw → List (Rw × Rw) × List Rw
  | [] => ([], [])
  | p :: l => if p.go = t then ((gone t l).1 ++ (gone t l).2.reverse.map fun y => (p, y), (gone t l).2) else ((gone t l).1, p :: (gone t l).2)
/-- one tick: what is lifted, the pile behind it -/
def tickOf (rs : List Rw) (t : Int) (pile : List Rw) : List (Rw × Rw) × List Rw := ((gone t pile).1, (gone t pile).2 ++ rs.filter fun r => decide (r.come = t))
def playOn (rs : List Rw) : List Int → List Rw → List (Rw × Rw)
  | [], _ => []
  | t :: ts, pile => (tickOf rs t pile).1 ++ playOn rs ts (tickOf rs t pile).2
def liftsOf (rs : List Rw) (x : Rw) : List (Rw × Rw) := (lifted rs x).map fun y => (x, y)
theorem gone_left (t : Int) : ∀ l : List Rw, (gone t l).2 = l.filter fun r => decide (r.go ≠ t)
  | [] => rfl
  | p :: l => by
    unfold gone
    by_cases h : p.go = t
    · rw [if_pos h, List.filter_cons, if_neg (by simp [h])]
      exact gone_left t l
    · rw [if_neg h, List.filter_cons, if_pos (by simp [h])]
      show p :: (gone t l).2 = _
      rw [gone_left t l]
theorem above_cons_ne {x p : Rw} {l : List Rw} (h : p ≠ x) : above x (p :: l) = above x l := by
  show (if p = x then l else above x l) = _
  rw [if_neg h]
theorem above_cons_eq {x : Rw} {l : List Rw} : above x (x :: l) = l := by
  show (if x = x then l else above x l) = _
  rw [if_pos rfl]
theorem flat_congrI {α β : Type} {f g : α → List β} : ∀ {l : List α}, (∀ x ∈ l, f x = g x) → l.flatMap f = l.flatMap g
  | [], _ => rfl
  | x :: l, h => by
    rw [List.flatMap_cons, List.flatMap_cons, h x List.mem_cons_self, flat_congrI fun y hy => h y (List.mem_cons_of_mem _ hy)]
theorem flat_congr {α β : Type} {f g : α → List β} : ∀ {l : List α}, (∀ x ∈ l, f x = g x) → l.flatMap f = l.flatMap g
  | [], _ => rfl
  | x :: l, h => by
    rw [List.flatMap_cons, List.flatMap_cons, h x List.mem_cons_self, flat_congr fun y hy => h y (List.mem_cons_of_mem _ hy)]
theorem gone_out (t : Int) : ∀ l : List Rw, l.Nodup → (gone t l).1 = (l.filter fun r => decide (r.go = t)).reverse.flatMap fun x => ((above x l).filter fun r => decide (r.go ≠ t)).reverse.map fun y => (x, y)
  | [], _ => rfl
  | p :: l, nd => by
    rw [List.nodup_cons] at nd
    have ih := gone_out t l nd.2
    have cg : (l.filter fun r => decide (r.go = t)).reverse.flatMap (fun x => ((above x (p :: l)).filter fun r => decide (r.go ≠ t)).reverse.map fun y => (x, y)) = (gone t l).1 := by
      rw [ih]
      refine flat_congr fun x hx => ?_
      have hxl : x ∈ l := (List.mem_filter.mp (List.mem_reverse.mp hx)).1
      rw [above_cons_ne fun e => nd.1 (by rw [e]; exact hxl)]
    unfold gone
    by_cases h : p.go = t
    · rw [if_pos h, List.filter_cons, if_pos (by simp [h]), List.reverse_cons, List.flatMap_append, cg, List.flatMap_cons, List.flatMap_nil, List.append_nil, above_cons_eq, gone_left]
    · rw [if_neg h, List.filter_cons, if_neg (by simp [h])]
      exact cg.symm
theorem above_filter {p : Rw → Bool} {x : Rw} (hp : p x = true) : ∀ l : List Rw, above x (l.filter p) = (above x l).filter p
  | [] => rfl
  | r :: l => by
    by_cases e : r = x
    · subst e
      rw [List.filter_cons, if_pos hp, above_cons_eq, above_cons_eq]
    · rw [above_cons_ne e, List.filter_cons]
      split
      · rw [above_cons_ne e, above_filter hp l]
      · exact above_filter hp l
theorem bot_filter (rs : List Rw) (c : Int) : (bot rs).filter (fun r => decide (r.come = c)) = rs.filter fun r => decide (r.come = c) := sortV_filter Rw.come rs c
theorem sorted_split {f : Rw → Int} {t : Int} : ∀ {l : List Rw}, l.Pairwise (fun a b => f a ≤ f b) → l.filter (fun r => decide (f r ≤ t)) = l.filter (fun r => decide (f r < t)) ++ l.filter (fun r => decide (f r = t))
  | [], _ => rfl
  | r :: l, h => by
    rw [List.pairwise_cons] at h
    have ih := sorted_split (t := t) h.2
    rcases Int.lt_trichotomy (f r) t with e | e | e
    · rw [List.filter_cons, if_pos (by simp; omega), List.filter_cons, if_pos (by simp; omega), List.filter_cons, if_neg (by simp; omega), ih]
      rfl
    · have z : l.filter (fun r => decide (f r < t)) = [] := by
        rw [List.filter_eq_nil_iff]
        intro a ha
        have := h.1 a ha
        simp
        omega
      rw [z] at ih
      rw [List.filter_cons, if_pos (by simp; omega), List.filter_cons, if_neg (by simp; omega), z, List.filter_cons, if_pos (by simp; omega), ih]
      rfl
    · have z : ∀ a ∈ l, t < f a := fun a ha => by
        have := h.1 a ha
        omega
      have z1 : l.filter (fun r => decide (f r ≤ t)) = [] := by
        rw [List.filter_eq_nil_iff]
        intro a ha
        have := z a ha
        simp
        omega
      rw [z1] at ih
      rw [List.filter_cons, if_neg (by simp; omega), List.filter_cons, if_neg (by simp; omega), List.filter_cons, if_neg (by simp; omega), z1, ← ih]
/-- what lies on the pile behind tick t -/
def pileOf (rs : List Rw) (t : Int) : List Rw := (bot rs).filter fun r => decide (r.come ≤ t) && decide (t < r.go)
/-- .. and ahead of the goings of tick t -/
def pileTo (rs : List Rw) (t : Int) : List Rw := (bot rs).filter fun r => decide (r.come < t) && decide (t ≤ r.go)
theorem tick_pile {rs : List Rw} (hv : ∀ r ∈ rs, r.come < r.go) (t : Int) : (tickOf rs t (pileTo rs t)).2 = pileOf rs t := by
  show (gone t (pileTo rs t)).2 ++ _ = _
  rw [gone_left]
  unfold pileTo pileOf
  rw [List.filter_filter]
  have s := sorted_split (f := Rw.come) (t := t) (bot_sorted rs)
  have e : (bot rs).filter (fun r => decide (r.come ≤ t) && decide (t < r.go)) = ((bot rs).filter fun r => decide (r.come ≤ t)).filter fun r => decide (t < r.go) := by
    rw [List.filter_filter]
    exact List.filter_congr fun r _ => Bool.and_comm ..
  rw [e, s, List.filter_append, List.filter_filter, bot_filter]
  congr 1
  · refine List.filter_congr fun r _ => ?_
    rw [Bool.eq_iff_iff]
    simp
    omega
  · refine (List.filter_eq_self.mpr fun r hr => ?_).symm
    obtain ⟨h1, h2⟩ := List.mem_filter.mp hr
    have := hv r h1
    simp at h2 ⊢
    omega
theorem nodup_bot {rs : List Rw} (h : rs.Nodup) : (bot rs).Nodup := (bot_perm rs).nodup_iff.mpr h
theorem tick_out {rs : List Rw} (hv : ∀ r ∈ rs, r.come < r.go) (nd : rs.Nodup) (t : Int) : (tickOf rs t (pileTo rs t)).1 = ((bot rs).reverse.filter fun r => decide (r.go = t)).flatMap (liftsOf rs) := by
  show (gone t (pileTo rs t)).1 = _
  have nd' : (pileTo rs t).Nodup := (nodup_bot nd).filter _
  rw [gone_out t _ nd']
  have e1 : ((pileTo rs t).filter fun r => decide (r.go = t)).reverse = (bot rs).reverse.filter fun r => decide (r.go = t) := by
    rw [List.filter_reverse]
    congr 1
    unfold pileTo
    rw [List.filter_filter]
    refine List.filter_congr fun r hr => ?_
    have := hv r (bot_mem.mp hr)
    rw [Bool.eq_iff_iff]
    simp
    omega
  rw [e1]
  refine flat_congr fun x hx => ?_
  obtain ⟨hx1, hx2⟩ := List.mem_filter.mp hx
  have hxb : x ∈ bot rs := List.mem_reverse.mp hx1
  have xg : x.go = t := of_decide_eq_true hx2
  have xc := hv x (bot_mem.mp hxb)
  unfold liftsOf lifted
  congr 1
  rw [List.filter_reverse]
  congr 1
  unfold pileTo
  rw [above_filter (by simp; omega), List.filter_filter]
  refine List.filter_congr fun r hr => ?_
  unfold crosses
  rw [Bool.eq_iff_iff]
  simp
  omega
theorem pile_between {rs : List Rw} {p t : Int} (hpt : p < t) (h : ∀ r ∈ rs, (r.come ≤ p ∨ t ≤ r.come) ∧ (r.go ≤ p ∨ t ≤ r.go)) : pileOf rs p = pileTo rs t := by
  unfold pileOf pileTo
  refine List.filter_congr fun r hr => ?_
  have := h r (bot_mem.mp hr)
  rw [Bool.eq_iff_iff]
  simp
  omega
theorem play_ticks {rs : List Rw} (hv : ∀ r ∈ rs, r.come < r.go) (nd : rs.Nodup) : ∀ (ts : List Int) (p : Int), ts.Pairwise (fun a b => a < b) → (∀ t ∈ ts, p < t) → (∀ r ∈ rs, (r.come ≤ p ∨ r.come ∈ ts) ∧ (r.go ≤ p ∨ r.go ∈ ts)) →
    playOn rs ts (pileOf rs p) = ts.flatMap fun t => ((bot rs).reverse.filter fun r => decide (r.go = t)).flatMap (liftsOf rs)
  | [], _, _, _, _ => rfl
  | t :: ts, p, hs, hp, hc => by
    rw [List.pairwise_cons] at hs
    have ge : ∀ z, z ∈ t :: ts → t ≤ z := fun z hz => by
      rcases List.mem_cons.mp hz with rfl | hz
      · exact Int.le_refl _
      · exact Int.le_of_lt (hs.1 z hz)
    have e := pile_between (rs := rs) (hp t List.mem_cons_self) fun r hr => ⟨(hc r hr).1.imp id (ge _), (hc r hr).2.imp id (ge _)⟩
    show (tickOf rs t (pileOf rs p)).1 ++ playOn rs ts (tickOf rs t (pileOf rs p)).2 = _
    rw [e, tick_pile hv, tick_out hv nd, List.flatMap_cons]
    congr 1
    refine play_ticks hv nd ts t hs.2 hs.1 fun r hr => ?_
    have := hp t List.mem_cons_self
    constructor
    · rcases (hc r hr).1 with h | h
      · exact .inl (by omega)
      · rcases List.mem_cons.mp h with h | h
        · exact .inl (by omega)
        · exact .inr h
    · rcases (hc r hr).2 with h | h
      · exact .inl (by omega)
      · rcases List.mem_cons.mp h with h | h
        · exact .inl (by omega)
        · exact .inr h
theorem sorted_flat {f : Rw → Int} : ∀ (ts : List Int) (l : List Rw), ts.Pairwise (fun a b => a < b) → l.Pairwise (fun a b => f a ≤ f b) → (∀ r ∈ l, f r ∈ ts) → ts.flatMap (fun t => l.filter fun r => decide (f r = t)) = l
  | [], [], _, _, _ => rfl
  | [], r :: l, _, _, h => nomatch h r List.mem_cons_self
  | t :: ts, l, hs, hl, h => by
    rw [List.pairwise_cons] at hs
    have ge : ∀ r ∈ l, t ≤ f r := fun r hr => by
      rcases List.mem_cons.mp (h r hr) with e | e
      · omega
      · exact Int.le_of_lt (hs.1 _ e)
    have ih := sorted_flat ts (l.filter fun r => decide (t < f r)) hs.2 (hl.filter _) fun r hr => by
      obtain ⟨h1, h2⟩ := List.mem_filter.mp hr
      have h2 := of_decide_eq_true h2
      rcases List.mem_cons.mp (h r h1) with e | e
      · omega
      · exact e
    have e1 : ts.flatMap (fun z => l.filter fun r => decide (f r = z)) = ts.flatMap fun z => (l.filter fun r => decide (t < f r)).filter fun r => decide (f r = z) := flat_congr fun z hz => by
      have := hs.1 z hz
      rw [List.filter_filter]
      refine List.filter_congr fun r _ => ?_
      rw [Bool.eq_iff_iff]
      simp
      omega
    rw [List.flatMap_cons, e1, ih]
    have key : ∀ m : List Rw, m.Pairwise (fun a b => f a ≤ f b) → (∀ r ∈ m, t ≤ f r) → (m.filter fun r => decide (f r = t)) ++ (m.filter fun r => decide (t < f r)) = m := fun m => by
      induction m with
      | nil => intros; rfl
      | cons r m ihm =>
        intro hm hg
        rw [List.pairwise_cons] at hm
        have g0 := hg r List.mem_cons_self
        by_cases e : f r = t
        · rw [List.filter_cons, if_pos (by simp [e]), List.filter_cons, if_neg (by simp; omega), List.cons_append, ihm hm.2 fun y hy => hg y (List.mem_cons_of_mem _ hy)]
        · have z : (m.filter fun r => decide (f r = t)) = [] := by
            rw [List.filter_eq_nil_iff]
            intro a ha
            have := hm.1 a ha
            simp
            omega
          have ih2 := ihm hm.2 fun y hy => hg y (List.mem_cons_of_mem _ hy)
          rw [z, List.nil_append] at ih2
          rw [List.filter_cons, if_neg (by simp [e]), z, List.nil_append, List.filter_cons, if_pos (by simp; omega), ih2]
    exact key l hl ge
/-- the theorem: a party that is played lifts as `crossed` tells -/
theorem play_crossed {rs : List Rw} (hv : ∀ r ∈ rs, r.come < r.go) (nd : rs.Nodup) {ts : List Int} (hs : ts.Pairwise (fun a b => a < b)) (hc : ∀ r ∈ rs, r.come ∈ ts ∧ r.go ∈ ts) : playOn rs ts [] = crossed rs := by
  obtain ⟨p, hp⟩ : ∃ p : Int, ∀ t ∈ ts, p < t := by
    clear hc
    induction ts with
    | nil => exact ⟨0, fun _ h => nomatch h⟩
    | cons t ts _ =>
      rw [List.pairwise_cons] at hs
      refine ⟨t - 1, fun z hz => ?_⟩
      rcases List.mem_cons.mp hz with rfl | hz
      · omega
      · have := hs.1 z hz
        omega
  have e0 : ([] : List Rw) = pileOf rs p := by
    unfold pileOf
    refine (List.filter_eq_nil_iff.mpr fun r hr => ?_).symm
    have := hp _ (hc r (bot_mem.mp hr)).1
    simp
    omega
  rw [e0, play_ticks hv nd ts p hs hp fun r hr => ⟨.inr (hc r hr).1, .inr (hc r hr).2⟩]
  have st := sorted_flat (f := Rw.go) ts (takers rs) hs (sortV_sorted Rw.go _) fun r hr => (hc r (takers_mem hr)).2
  show _ = (takers rs).flatMap (liftsOf rs)
  rw [← st]
  have fl : ∀ l : List Int, (l.flatMap fun t => (takers rs).filter fun r => decide (r.go = t)).flatMap (liftsOf rs) = l.flatMap fun t => ((bot rs).reverse.filter fun r => decide (r.go = t)).flatMap (liftsOf rs) := fun l => by
    induction l with
    | nil => rfl
    | cons t l ih =>
      rw [List.flatMap_cons, List.flatMap_append, ih, List.flatMap_cons]
      congr 2
      exact sortV_filter Rw.go (bot rs).reverse t
  exact (fl ts).symm
end Pq
set_option Elab.async false
set_option linter.all false
set_option maxRecDepth 100000
set_option maxHeartbeats 2000000
namespace Sh1
open PySem L2 Sho NdefX
/-! ### stays compared -/
def stayD (x : Stay) : PyData := .tuple [.str x.1, .int x.2.1, .int x.2.2]
theorem dp_stays {K : PySem.W.Frag} {H : Hp} : ∀ {ws : List V} {xs : List Stay}, StaysV H ws xs → DpAll K H ws (xs.map stayD)
  | _, _, .nil => .nil
  | _, _, .cons ⟨t, e, ht⟩ r => by
    subst e
    exact .cons (.tup (SqT.of ht) (.cons (.str _) (.cons (.int _) (.cons (.int _) .nil)))) (dp_stays r)
theorem lay_stays : ∀ {xs : List Stay}, Short xs → PyData.canLayAll0 (xs.map stayD) = true
  | [], _ => rfl
  | x :: xs, h => by
    have h1 := (h x List.mem_cons_self).2
    have h2 := lay_stays (xs := xs) fun y hy => h y (List.mem_cons_of_mem _ hy)
    show (PyData.canLay0 (stayD x) && PyData.canLayAll0 (xs.map stayD)) = true
    rw [h2, Bool.and_true]
    show (PyData.canLay0 (.str x.1) && (true && (true && true))) = true
    simp only [Bool.and_true]
    exact h1
theorem depth_stays : ∀ xs : List Stay, PyData.depthAll (xs.map stayD) ≤ 1
  | [] => Nat.zero_le _
  | x :: xs => by
    have h := depth_stays xs
    show max (PyData.depth (stayD x)) (PyData.depthAll (xs.map stayD)) ≤ 1
    have e : PyData.depth (stayD x) = 1 := rfl
    rw [e]
    omega
theorem shaped_tup {xs : List Stay} (h : Short xs) : SeqAt.shaped (.tuple (xs.map stayD)) = true := by
  unfold SeqAt.shaped
  have h1 : PyData.canLay0 (.tuple (xs.map stayD)) = true := lay_stays h
  have h2 : PyData.depth (.tuple (xs.map stayD)) ≤ 64 := Nat.le_trans (Nat.succ_le_succ (depth_stays xs)) (by decide)
  rw [h1, decide_eq_true h2]
  rfl
theorem shaped_lst {xs : List Stay} (h : Short xs) : SeqAt.shaped (.list (xs.map stayD)) = true := by
  unfold SeqAt.shaped
  have h1 : PyData.canLay0 (.list (xs.map stayD)) = true := lay_stays h
  have h2 : PyData.depth (.list (xs.map stayD)) ≤ 64 := Nat.le_trans (Nat.succ_le_succ (depth_stays xs)) (by decide)
  rw [h1, decide_eq_true h2]
  rfl
theorem shaped_stay {x : Stay} (h : x.1.cps.all (· < 0x110000) = true) : SeqAt.shaped (stayD x) = true := by
  unfold SeqAt.shaped
  have h1 : PyData.canLay0 (stayD x) = true := by
    show (PyData.canLay0 (.str x.1) && (true && (true && true))) = true
    simp only [Bool.and_true]
    exact h
  rw [h1]
  rfl
theorem eqv_stay (x y : Stay) : PyData.eqv (stayD x) (stayD y) = decide (x = y) := by
  obtain ⟨x1, x2, x3⟩ := x
  obtain ⟨y1, y2, y3⟩ := y
  show ((x1 == y1) && ((x2 == y2) && ((x3 == y3) && true))) = _
  rw [Bool.eq_iff_iff]
  simp
theorem eqv_stays : ∀ xs ys : List Stay, PyData.eqvAll (xs.map stayD) (ys.map stayD) = decide (xs = ys)
  | [], [] => rfl
  | [], y :: ys => by
    rw [decide_eq_false (by simp)]
    rfl
  | x :: xs, [] => by
    rw [decide_eq_false (by simp)]
    rfl
  | x :: xs, y :: ys => by
    show (PyData.eqv (stayD x) (stayD y) && PyData.eqvAll (xs.map stayD) (ys.map stayD)) = _
    rw [eqv_stay, eqv_stays xs ys, Bool.eq_iff_iff]
    simp
section
variable {P : Program} {w : World} {K : PySem.W.Frag} {mg : Str → Option Value} {base : Heap}
/-! ### __eq__ -/
def spPEq (C : Addr) : Sp := fun vs H Q _ => ∃ (p : Addr) (xs : List Stay) (y : V), vs = [.ref p, y] ∧ PartyAt C H p xs ∧ Short xs ∧
  ((∃ q ys, y = .ref q ∧ PartyAt C H q ys ∧ Short ys ∧ Q (.bl (decide (xs = ys))) H) ∨ ∃ b zs, y = .ref b ∧ H b = some (.tup zs) ∧ Q (.bl false) H)
theorem scPEq : FnScope ["self", "other"] ["self", "other"] (defScope sPEq) := ⟨rfl, rfl, rfl, by decide +kernel, rfl, by decide +kernel, by decide +kernel⟩
theorem ok_peq {f C : Addr} {fd : FuncData} (F : Fun K "__eq__" "Party.__eq__" sPEq f fd) (B : Blt mg) (PC : PartyC K mg C) : FnOk P w K mg base CX0 1 f fd ["self", "other"] (spPEq C) := by
  refine F.ok scPEq (fun vs H Q E h => ?_) (fun cdv A outer s H vs Q E hr h => ?_)
  · obtain ⟨p, xs, y, rfl, _⟩ := h
    rfl
  · obtain ⟨p, xs, y, rfl, ⟨dx, a, ws, h1, h2, h3⟩, hsx, k⟩ := h
    refine ⟨_, pss_one (ps_ret (pe_and (pe_callB call_isi (by rfl) B.isi (by decide +kernel) (pa_cons (pv 1) (pa_cons (pe_glob (v := .ref C) rfl PC.gm rfl) pa_nil)))
      (pe_one (pe_cmpR (op_eqD hr.units) (pe_fld (pv 0) rfl) (pe_fld (pv 1) rfl) (nomark _))))), ?_⟩
    rcases k with ⟨q, ys, rfl, ⟨dy, b, zs, g1, g2, g3⟩, hsy, k⟩ | ⟨b, zs, rfl, hb, k⟩
    · refine ⟨_, rfl, .ref q, .ref C, .ref C, .ref C, true, rfl, .own C, .base (.ins g1 PC.cl PC.ca PC.cn PC.ct PC.mo), PC.kS, _, rfl, iteT ?_⟩
      refine ⟨_, rfl, p, C, dx, _, .ref a, rfl, h1, PC.cl, PC.nS, lk_stays _, _, rfl, q, C, dy, _, .ref b, rfl, g1, PC.cl, PC.nS, lk_stays _, ?_⟩
      refine ⟨.tuple (xs.map stayD), .tuple (ys.map stayD), .tup (SqT.of h2) (dp_stays h3), .tup (SqT.of g2) (dp_stays g3), shaped_tup hsx, shaped_tup hsy, ?_⟩
      have e : PyData.eqv (.tuple (xs.map stayD)) (.tuple (ys.map stayD)) = decide (xs = ys) := eqv_stays xs ys
      rw [e]
      exact k
    · refine ⟨_, rfl, .ref b, .ref C, .type "tuple", .ref C, false, rfl, .own C, .base (.tup hb), PC.kT, _, rfl, iteF k⟩
end
end Sh1
set_option Elab.async false
set_option linter.all false
set_option maxRecDepth 100000
set_option maxHeartbeats 2000000
namespace Sh1
open PySem L2 Sho NdefX
/-! ### valid lists of stays -/
structure Valid (xs : List Stay) : Prop where
  len : xs.length ≤ 24
  nd : (xs.map fun x => x.1).Nodup
  ok : ∀ x ∈ xs, okStay x.1 x.2.1 x.2.2 = true
theorem any_mem {l : List Str} {z : Str} : l.any (fun y => y == z) = true ↔ z ∈ l := by
  rw [List.any_eq_true]
  constructor
  · rintro ⟨y, hy, e⟩
    have := eq_of_beq e
    rw [← this]
    exact hy
  · intro h
    exact ⟨z, h, by simp⟩
theorem fbf_none : ∀ (xs : List Stay) (i : Nat) (seen : List Str), i ≤ 24 → firstBadFrom i seen xs = none →
    i + xs.length ≤ 24 ∧ (∀ x ∈ xs, x.1 ∉ seen) ∧ (xs.map fun x => x.1).Nodup ∧ ∀ x ∈ xs, okStay x.1 x.2.1 x.2.2 = true
  | [], i, seen, hi, _ => ⟨hi, by simp, by simp, by simp⟩
  | x :: r, i, seen, hi, h => by
    unfold firstBadFrom at h
    by_cases hb : badStay i seen x = true
    · rw [if_pos hb] at h
      cases h
    · rw [if_neg hb] at h
      have hb2 := Bool.eq_false_iff.mpr hb
      unfold badStay at hb2
      rw [Bool.or_eq_false_iff, Bool.or_eq_false_iff] at hb2
      obtain ⟨b1, b2, b3⟩ := hb2
      have n24 : (i : Int) ≠ 24 := of_decide_eq_false b1
      have ns : x.1 ∉ seen := fun m => by
        rw [any_mem.mpr m] at b2
        cases b2
      have ok1 : okStay x.1 x.2.1 x.2.2 = true := by
        cases e : okStay x.1 x.2.1 x.2.2 with
        | true => rfl
        | false => rw [e] at b3; cases b3
      obtain ⟨c1, c2, c3, c4⟩ := fbf_none r (i + 1) (seen ++ [x.1]) (by omega) h
      refine ⟨by rw [List.length_cons]; omega, fun y hy => ?_, ?_, fun y hy => ?_⟩
      · rcases List.mem_cons.mp hy with rfl | hy
        · exact ns
        · exact fun m => c2 y hy (List.mem_append_left _ m)
      · rw [List.map_cons, List.nodup_cons]
        refine ⟨fun m => ?_, c3⟩
        obtain ⟨y, hy, e⟩ := List.mem_map.mp m
        exact c2 y hy (by rw [e]; simp)
      · rcases List.mem_cons.mp hy with rfl | hy
        · exact ok1
        · exact c4 y hy
theorem fbf_of : ∀ (xs : List Stay) (i : Nat) (seen : List Str), i + xs.length ≤ 24 → (∀ x ∈ xs, x.1 ∉ seen) → (xs.map fun x => x.1).Nodup → (∀ x ∈ xs, okStay x.1 x.2.1 x.2.2 = true) → firstBadFrom i seen xs = none
  | [], _, _, _, _, _, _ => rfl
  | x :: r, i, seen, h1, h2, h3, h4 => by
    rw [List.length_cons] at h1
    have hb : badStay i seen x = false := by
      unfold badStay
      rw [h4 x List.mem_cons_self, decide_eq_false (by omega)]
      have e : seen.any (fun y => y == x.1) = false := by
        rw [Bool.eq_false_iff]
        exact fun q => h2 x List.mem_cons_self (any_mem.mp q)
      rw [e]
      rfl
    unfold firstBadFrom
    rw [if_neg (by rw [hb]; exact Bool.false_ne_true)]
    rw [List.map_cons, List.nodup_cons] at h3
    refine fbf_of r (i + 1) _ (by omega) (fun y hy m => ?_) h3.2 fun y hy => h4 y (List.mem_cons_of_mem _ hy)
    rcases List.mem_append.mp m with m | m
    · exact h2 y (List.mem_cons_of_mem _ hy) m
    · rw [List.mem_singleton] at m
      exact h3.1 (List.mem_map.mpr ⟨y, hy, m⟩)
theorem valid_iff {xs : List Stay} : firstBad xs = none ↔ Valid xs := by
  constructor
  · intro h
    obtain ⟨a, _, b, c⟩ := fbf_none xs 0 [] (by decide) h
    exact ⟨by omega, b, c⟩
  · intro h
    exact fbf_of xs 0 [] (by have := h.len; omega) (by simp) h.nd h.ok
theorem Valid.filter {xs : List Stay} (h : Valid xs) (p : Stay → Bool) : Valid (xs.filter p) :=
  ⟨Nat.le_trans (List.length_filter_le ..) h.len, (List.Nodup.sublist (List.Sublist.map _ List.filter_sublist) h.nd), fun x hx => h.ok x (List.mem_filter.mp hx).1⟩
theorem Short.filter {xs : List Stay} (h : Short xs) (p : Stay → Bool) : Short (xs.filter p) := fun x hx => h x (List.mem_filter.mp hx).1
/-- what is kept of paired lists -/
theorem stays_filter {H : Hp} (p : Stay → Bool) : ∀ {ws : List V} {xs : List Stay}, StaysV H ws xs → StaysV H ((ws.zip xs).filterMap fun q => if p q.2 = true then some q.1 else none) (xs.filter p)
  | _, _, .nil => .nil
  | _, _, .cons (a := v) (b := x) h r => by
    have ih := stays_filter p r
    rw [List.zip_cons_cons, List.filterMap_cons, List.filter_cons]
    by_cases e : p x = true
    · simp only [e, if_true]
      exact .cons h ih
    · simp only [e, if_false]
      exact ih
section
variable {P : Program} {w : World} {K : PySem.W.Frag} {mg : Str → Option Value} {base : Heap}
/-! ### __sub__ -/
def without (xs : List Stay) (x : Stay) : List Stay := xs.filter fun y => !decide (y = x)
def spPSub (C CU : Addr) : Sp := fun vs H Q E => ∃ (p : Addr) (z : Str) (xs : List Stay), vs = [.ref p, .str z] ∧ PartyAt C H p xs ∧ Short xs ∧ Valid xs ∧ z.length ≤ 100000 ∧
  (∀ x, guest xs z = some x → ∀ q H', Same H H' → H q = none → PartyAt C H' q (without xs x) → Q (.ref q) H') ∧
  (guest xs z = none → ∀ (H' : Hp) (d : Addr), Same H H' → H d = none → H' d = some (.xd [(("name" : Str), .str z)]) → E (.ref CU) (some d) H')
theorem scPSub : FnScope ["self", "name", "gone", "stays", "stay"] ["self", "name"] (defScope sPSub) := ⟨rfl, rfl, rfl, by decide +kernel, rfl, by decide +kernel, by decide +kernel⟩
theorem ok_psub {f C CI CU fS fI : Addr} {fd fdS : FuncData} (F : Fun K "__sub__" "Party.__sub__" sPSub f fd) (PC : PartyC K mg C)
    (GS : FnOk P w K mg base (L2.CX P w) 3 fS fdS ["self", "name"] (spStayOf C CU)) (mS : Meth K C "_stay_of" fS) (bS : Binds K fdS ["self", "name"] [])
    (M : Mk K C fI) (GI : FnR P w K mg base (L2.CX P w) 5 fI (spPNew C CI)) : FnOk P w K mg base (L2.CX P w) 7 f fd ["self", "name"] (spPSub C CU) := by
  refine F.okX scPSub (fun vs H Q E h => ?_) (fun cdv A outer s H vs Q E hr h => ?_)
  · obtain ⟨p, z, xs, rfl, _⟩ := h
    rfl
  · obtain ⟨p, z, xs, rfl, PA, hsh, hv, hz, kOk, kBad⟩ := h
    have nd := scPSub.nd
    have pass : Passes (L2.CX P w) (cxOf (L2.CX P w) P w K mg base ["self", "name", "gone", "stays", "stay"] "Party.__sub__" (defScope sPSub) f cdv A outer s H E) E := passes_call (takes_of rfl rfl rfl rfl) fun _ _ _ _ z => z
    refine ⟨_, pss_cons (ps_set (i := 2) nd rfl (Or.inr rfl) (pe_meth (pv 0) PC.cl mS GS (hr.mono (by decide)) bS .nil pass (pa_cons (pv 1) pa_nil)))
      (pss_cons (ps_setLc (i := 3) (own := [("stay", 4)]) (g := gName 4) (tt := tTest (tOp (rNeD K) (tVar 4) (tVar 2))) rfl nd rfl rfl (sw_true rfl rfl rfl (by decide +kernel)) (pi_tup (pe_fld (pv 0) rfl)) (blkOk_by (own := [("stay", 4)]) (N := ["self", "name", "gone", "stays", "stay"]) (sc := defScope sPSub) (by decide +kernel))
        (fun _ _ _ _ _ => pg_name (i := 4) nd rfl (Or.inl rfl)) (fun _ _ _ _ _ => pts_one (pt_cmpR (op_neD hr.units) (pv 4) (pv 2) (nomark _))) (fun _ _ _ _ _ => pv 4))
      (pss_one (ps_ret (pe_makeS M GI hr rfl PC.gm pass (pv 3))))), ?_⟩
    obtain ⟨dx, a, ws, h1, h2, h3⟩ := id PA
    refine ⟨_, rfl, p, dx, _, rfl, h1, no_meth _ (by decide +kernel), _, rfl, p, z, xs, rfl, PA, hz, fun x t hx ht => ?_, kBad⟩
    refine ⟨_, rfl, p, C, dx, _, .ref a, rfl, h1, PC.cl, PC.nS, lk_stays _, a, rfl, ⟨_, SqT.of h2⟩, fun D hD => ?_⟩
    have lenE := pair_len h3
    have hz24 : ws.length ≤ sizeLine := by
      rw [lenE]
      exact Nat.le_trans hv.len (by decide)
    have hxs : x.1.cps.all (· < 0x110000) = true := (hsh x (List.mem_of_find?_eq_some hx)).2
    have dpx : ∀ {t : Addr} {y : Stay} {H1 : Hp}, H1 t = some (.tup [.str y.1, .int y.2.1, .int y.2.2]) → Dp K H1 (.ref t) (stayD y) := fun {t y H1} e => .tup (SqT.of e) (.cons (.str _) (.cons (.int _) (.cons (.int _) .nil)))
    refine lc_gather walk_tup (fun i => ((ws.zip xs)[i]?).bind fun q => if (!decide (q.2 = x)) = true then some q.1 else none) hD hz24 (fun H1 s1 => SqT.of (s1 _ _ h2)) (fun i v H1 H' hi s1 y R k1 => ?_) fun H1 s1 e1 => ?_
    · obtain ⟨rfl, e2⟩ := y
      obtain ⟨y, hy, t', rfl, ht'⟩ := pair_get h3 e2
      have k2 := k1 _ (Same.refl _)
      have ez : (ws.zip xs)[i]? = some (.ref t', y) := by
        rw [List.getElem?_zip_eq_some]
        exact ⟨e2, hy⟩
      rw [ez] at k2
      refine ⟨rfl, _, rfl, _, rfl, stayD y, stayD x, dpx (s1 _ _ ht'), dpx (s1 _ _ ht), shaped_stay (hsh y (List.mem_of_getElem? hy)).2, shaped_stay hxs, _, rfl, ?_⟩
      rw [eqv_stay]
      by_cases e : y = x
      · have : decide (y = x) = true := decide_eq_true e
        rw [this]
        refine iteF ?_
        simp only [Option.bind_some, this] at k2
        exact k2
      · have : decide (y = x) = false := decide_eq_false e
        rw [this]
        refine iteT ⟨_, rfl, ?_⟩
        simp only [Option.bind_some, this] at k2
        exact k2
    · have e2 : (ws.zip xs).length = ws.length := by
        rw [List.length_zip, lenE]
        exact Nat.min_self _
      rw [← e2, gather_list] at e1
      have sv := stays_filter (fun y => !decide (y = x)) (h3.same s1)
      refine ⟨_, rfl, D, _, rfl, .inr (SqL.of e1), ?_⟩
      refine party_new sv (hsh.filter _) ?_ (fun _ q H' s' hq PQ => ?_) (fun i hi => ?_)
      · rw [pair_len sv]
        exact Nat.le_trans (hv.filter _).len (by decide)
      · exact kOk x hx q H' (s1.trans s') (s1.free hq) PQ
      · rw [valid_iff.mpr (hv.filter _)] at hi
        cases hi
end
end Sh1
set_option Elab.async false
set_option linter.all false
set_option maxRecDepth 100000
set_option maxHeartbeats 2000000
namespace Sh1
open PySem L2 Sho NdefX
theorem cat_one {K : PySem.W.Frag} {H : Hp} {a b : Addr} {xs ys : List V} {Q : VK} (ha : SqT K H a xs) (hb : SqT K H b ys) (hz : xs.length + ys.length ≤ sizeLine) (h : ∀ c H', Same H H' → SqT K H' c (xs ++ ys) → Q (.ref c) H') : rCatA K (.ref a) (.ref b) H Q := by
  refine ⟨a, b, xs, ys, rfl, rfl, ha, hb, hz, fun e => ?_, fun _ e => ?_, fun _ _ p hp => ?_⟩
  · exact h b H (Same.refl _) (by rw [e]; exact hb)
  · exact h a H (Same.refl _) (by rw [e, List.append_nil]; exact ha)
  · refine h p _ (fun c o e => ?_) (SqT.of upd_same)
    rw [upd_ne (ne_of_none e hp)]
    exact e
theorem paired_append {α β : Type} {R : α → β → Prop} : ∀ {a c : List α} {b d : List β}, PySem.Paired R a b → PySem.Paired R c d → PySem.Paired R (a ++ c) (b ++ d)
  | _, _, _, _, .nil, h => h
  | _, _, _, _, .cons x r, h => .cons x (paired_append r h)
theorem Short.append {xs ys : List Stay} (h : Short xs) (k : Short ys) : Short (xs ++ ys) := fun x hx => (List.mem_append.mp hx).elim (h x) (k x)
/-- stays moved -/
def moved (n : Int) (xs : List Stay) : List Stay := xs.map fun x => (x.1, x.2.1 + n, x.2.2 + n)
theorem Short.moved {xs : List Stay} (h : Short xs) (n : Int) : Short (moved n xs) := fun x hx => by
  obtain ⟨y, hy, e⟩ := List.mem_map.mp hx
  subst e
  exact h y hy
theorem stays_of {H : Hp} : ∀ {ys : List V} {xs : List Stay}, ys.length = xs.length → (∀ (i : Nat) (y : V), ys[i]? = some y → ∃ x, xs[i]? = some x ∧ StayV H y x) → StaysV H ys xs
  | [], [], _, _ => .nil
  | [], _ :: _, h, _ => by simp at h
  | _ :: _, [], h, _ => by simp at h
  | y :: ys, x :: xs, h, k => by
    obtain ⟨x', e, r⟩ := k 0 y rfl
    simp at e
    subst e
    exact .cons r (stays_of (by simpa using h) fun i y' e => by
      obtain ⟨x', e2, r2⟩ := k (i + 1) y' (by simpa using e)
      exact ⟨x', by simpa using e2, r2⟩)
section
variable {P : Program} {w : World} {K : PySem.W.Frag} {mg : Str → Option Value} {base : Heap}
/-- what making a Party of xs may end in -/
def Making (C CI : Addr) (H : Hp) (xs : List Stay) (Q : VK) (E : XK) : Prop :=
  (firstBad xs = none → ∀ (p : Addr) (H' : Hp), Same H H' → H p = none → PartyAt C H' p xs → Q (.ref p) H') ∧
  ∀ i, firstBad xs = some i → ∀ (H' : Hp) (d : Addr), Same H H' → H d = none → H' d = some (.xd [(("index" : Str), .int (i : Nat))]) → E (.ref CI) (some d) H'
theorem Making.after {C CI : Addr} {H H1 : Hp} {xs : List Stay} {Q : VK} {E : XK} (m : Making C CI H xs Q E) (s : Same H H1) : Making C CI H1 xs Q E :=
  ⟨fun h p H' s' hp P => m.1 h p H' (s.trans s') (s.free hp) P, fun i h H' d s' hd e => m.2 i h H' d (s.trans s') (s.free hd) e⟩
def spPAdd (C CI : Addr) : Sp := fun vs H Q E => ∃ (p q : Addr) (xs ys : List Stay), vs = [.ref p, .ref q] ∧ PartyAt C H p xs ∧ PartyAt C H q ys ∧ Short xs ∧ Short ys ∧ xs.length + ys.length ≤ 1000 ∧ Making C CI H (xs ++ ys) Q E
theorem scPAdd : FnScope ["self", "other", "stays"] ["self", "other"] (defScope sPAdd) := ⟨rfl, rfl, rfl, by decide +kernel, rfl, by decide +kernel, by decide +kernel⟩
theorem ok_padd {f C CI fI : Addr} {fd : FuncData} (F : Fun K "__add__" "Party.__add__" sPAdd f fd) (PC : PartyC K mg C) (M : Mk K C fI) (GI : FnR P w K mg base (L2.CX P w) 5 fI (spPNew C CI)) :
    FnOk P w K mg base (L2.CX P w) 7 f fd ["self", "other"] (spPAdd C CI) := by
  refine F.okX scPAdd (fun vs H Q E h => ?_) (fun cdv A outer s H vs Q E hr h => ?_)
  · obtain ⟨p, q, xs, ys, rfl, _⟩ := h
    rfl
  · obtain ⟨p, q, xs, ys, rfl, ⟨dx, a, ws, h1, h2, h3⟩, ⟨dy, b, zs, g1, g2, g3⟩, hsx, hsy, hz, k⟩ := h
    have nd := scPAdd.nd
    have pass : Passes (L2.CX P w) (cxOf (L2.CX P w) P w K mg base ["self", "other", "stays"] "Party.__add__" (defScope sPAdd) f cdv A outer s H E) E := passes_call (takes_of rfl rfl rfl rfl) fun _ _ _ _ z => z
    refine ⟨_, pss_cons (ps_set (i := 2) nd rfl (Or.inl rfl) (pe_op op_catA (pe_fld (pv 0) rfl) (pe_fld (pv 1) rfl))) (pss_one (ps_ret (pe_makeS M GI hr rfl PC.gm pass (pv 2)))), ?_⟩
    refine ⟨_, rfl, p, C, dx, _, .ref a, rfl, h1, PC.cl, PC.nS, lk_stays _, _, rfl, q, C, dy, _, .ref b, rfl, g1, PC.cl, PC.nS, lk_stays _, ?_⟩
    have l1 := pair_len h3
    have l2 := pair_len g3
    have l3 : ws.length + zs.length ≤ 1000 := by omega
    refine cat_one (SqT.of h2) (SqT.of g2) (Nat.le_trans l3 (by decide)) fun c H' s' hc => ?_
    have k' := k.after s'
    refine ⟨_, rfl, c, ws ++ zs, rfl, .inl hc, ?_⟩
    exact party_new (paired_append (h3.same s') (g3.same s')) (hsx.append hsy) (by rw [List.length_append]; exact Nat.le_trans l3 (by decide)) k'.1 k'.2
def spPShift (C CI : Addr) : Sp := fun vs H Q E => ∃ (p : Addr) (n : Int) (xs : List Stay), vs = [.ref p, .int n] ∧ PartyAt C H p xs ∧ Short xs ∧ xs.length ≤ 1000 ∧ Making C CI H (moved n xs) Q E
theorem scPShift : FnScope ["self", "ticks", "stays", "name", "come", "go"] ["self", "ticks"] (defScope sPShift) := ⟨rfl, rfl, rfl, by decide +kernel, rfl, by decide +kernel, by decide +kernel⟩
theorem ok_pshift {f C CI fI : Addr} {fd : FuncData} (F : Fun K "__rshift__" "Party.__rshift__" sPShift f fd) (PC : PartyC K mg C) (M : Mk K C fI) (GI : FnR P w K mg base (L2.CX P w) 5 fI (spPNew C CI)) :
    FnOk P w K mg base (L2.CX P w) 7 f fd ["self", "ticks"] (spPShift C CI) := by
  refine F.okX scPShift (fun vs H Q E h => ?_) (fun cdv A outer s H vs Q E hr h => ?_)
  · obtain ⟨p, n, xs, rfl, _⟩ := h
    rfl
  · obtain ⟨p, n, xs, rfl, ⟨dx, a, ws, h1, h2, h3⟩, hsx, hz, k⟩ := h
    have nd := scPShift.nd
    have pass : Passes (L2.CX P w) (cxOf (L2.CX P w) P w K mg base ["self", "ticks", "stays", "name", "come", "go"] "Party.__rshift__" (defScope sPShift) f cdv A outer s H E) E := passes_call (takes_of rfl rfl rfl rfl) fun _ _ _ _ z => z
    refine ⟨_, pss_cons (ps_setLc (i := 2) (own := [("name", 3), ("come", 4), ("go", 5)]) (g := gTup K 3 (gCons (gName 3) (gCons (gName 4) (gCons (gName 5) gNil)))) (tt := tYes) rfl nd rfl rfl (sw_true rfl rfl rfl (by decide +kernel))
        (pi_tup (pe_fld (pv 0) rfl)) (blkOk_by (own := [("name", 3), ("come", 4), ("go", 5)]) (N := ["self", "ticks", "stays", "name", "come", "go"]) (sc := defScope sPShift) (by decide +kernel))
        (fun _ _ _ _ _ => pg_tup rfl (pgs_cons (pg_name (i := 3) nd rfl (Or.inl rfl)) (pgs_cons (pg_name (i := 4) nd rfl (Or.inl rfl)) (pgs_cons (pg_name (i := 5) nd rfl (Or.inl rfl)) pgs_nil))))
        (fun _ _ _ _ _ => pts_nil) (fun _ _ _ _ _ => pe_tup (pa_cons (pv 3) (pa_cons (pe_op op_add (pv 4) (pv 1)) (pa_cons (pe_op op_add (pv 5) (pv 1)) pa_nil)))))
      (pss_one (ps_ret (pe_makeS M GI hr rfl PC.gm pass (pv 2)))), ?_⟩
    have l1 := pair_len h3
    refine ⟨_, rfl, p, C, dx, _, .ref a, rfl, h1, PC.cl, PC.nS, lk_stays _, a, rfl, ⟨_, SqT.of h2⟩, fun D hD => ?_⟩
    refine lc_rel walk_tup (fun i y H => ∃ x, (moved n xs)[i]? = some x ∧ StayV H y x) hD (by rw [l1]; exact Nat.le_trans hz (by decide)) (fun H1 s1 => SqT.of (s1 _ _ h2)) (fun i y H H' st r => ?_) (fun i v H1 H' hi s1 y R k1 => ?_) fun H1 ys s1 e1 e2 e3 => ?_
    · obtain ⟨x, e, t, e2, e3⟩ := r
      exact ⟨x, e, t, e2, st _ _ e3⟩
    · obtain ⟨rfl, e2⟩ := y
      obtain ⟨x, hx, t, rfl, ht⟩ := pair_get h3 e2
      refine ⟨t, _, rfl, SqT.of (s1 _ _ ht), rfl, _, _, rfl, _, _, rfl, _, _, rfl, rfl, rfl, _, rfl, _, rfl, _, rfl, _, _, rfl, rfl, _, rfl, _, rfl, _, _, rfl, rfl, by show 3 ≤ sizeLine; decide, fun q hq => ?_⟩
      refine k1 _ _ (fun b o e => by rw [upd_ne (ne_of_none e hq)]; exact e) ⟨(x.1, x.2.1 + n, x.2.2 + n), ?_, q, rfl, upd_same⟩
      unfold moved
      rw [List.getElem?_map, hx]
      rfl
    · have lm : (moved n xs).length = xs.length := by
        unfold moved
        rw [List.length_map]
      have sv : StaysV H1 ys (moved n xs) := stays_of (by rw [e2, lm, l1]) e3
      have k' := k.after s1
      refine ⟨_, rfl, D, ys, rfl, .inr (SqL.of e1), ?_⟩
      exact party_new sv (hsx.moved n) (by rw [e2, l1]; exact Nat.le_trans hz (by decide)) k'.1 k'.2
end
end Sh1
set_option Elab.async false
set_option linter.all false
set_option maxRecDepth 100000
set_option maxHeartbeats 2000000
namespace Sh1
open PySem L2 Sho NdefX
/-! ### draws: the state is the list at l -/
structure DrawSt (K : PySem.W.Frag) (H : Hp) (l a : Addr) (ns : List Int) : Prop where
  ex : ∃ pos seed rest : Int, H l = some (.lst [.ref a, .int pos, .int seed, .int rest]) ∧ 0 ≤ pos ∧ (0 ≤ seed ∧ seed < 2147483647) ∧ 0 ≤ rest
  sc : SqL K H a (ns.map V.int)
  len : ns.length ≤ 63
/-- all but the object at l stays -/
def But (l : Addr) (H H' : Hp) : Prop := ∀ b o, H b = some o → b ≠ l → H' b = some o
theorem But.trans {l : Addr} {H H1 H2 : Hp} (a : But l H H1) (b : But l H1 H2) : But l H H2 := fun c o e n => b c o (a c o e n) n
theorem But.of {l : Addr} {H H' : Hp} (s : Same H H') : But l H H' := fun b o e _ => s b o e
theorem sql_but {K : PySem.W.Frag} {H H' : Hp} {l a : Addr} {ns : List Int} {r : List V} (hl : H l = some (.lst (.ref a :: r))) (h : SqL K H a (ns.map V.int)) (s : But l H H') : SqL K H' a (ns.map V.int) := by
  have ne : ∀ u, H a = some u → (∀ ys, u = .lst (V.ref a :: ys) → False) → a ≠ l := fun u e k z => by
    rw [z, hl] at e
    exact k r (by rw [← Option.some.inj e, z])
  rcases h with (h | ⟨o, h⟩) | h
  · refine .inl (.inl (s _ _ h (ne _ h fun ys e => ?_)))
    injection e with e
    cases ns with
    | nil => cases e
    | cons n ns => cases e
  · exact .inl (.inr ⟨o, s _ _ h (ne _ h fun ys e => by cases e)⟩)
  · exact .inr h
section
variable {P : Program} {w : World} {K : PySem.W.Frag} {mg : Str → Option Value} {base : Heap}
def spStart (K : PySem.W.Frag) : Sp := fun vs H Q _ => ∃ (a : Addr) (ns : List Int), vs = [.ref a] ∧ SqL K H a (ns.map V.int) ∧ ns.length ≤ 63 ∧ ∀ H' l, Same H H' → H l = none → DrawSt K H' l a ns → Q (.ref l) H'
theorem scStart : FnScope ["_law_script", "_law_mixed", "_law_cell"] ["_law_script"] (defScope sStart) := ⟨rfl, rfl, rfl, by decide +kernel, rfl, by decide +kernel, by decide +kernel⟩
theorem ok_start {f : Addr} {fd : FuncData} (F : Fun K "_law_start" "_law_start" sStart f fd) : FnOk P w K mg base CX0 1 f fd ["_law_script"] (spStart K) := by
  refine F.ok scStart (fun vs H Q E h => ?_) (fun cdv A outer s H vs Q E hr h => ?_)
  · obtain ⟨a, ns, rfl, _⟩ := h
    rfl
  · obtain ⟨a, ns, rfl, ha, hlen, k⟩ := h
    have nd := scStart.nd
    refine ⟨_, pss_cons (ps_set (i := 1) nd rfl (Or.inl rfl) pe_int) (pss_cons (ps_for PassesOwn.never rfl (pi_list (pv 0)) (pg_name (i := 2) nd rfl (Or.inl rfl))
        (pss_one (ps_set (i := 1) nd rfl (Or.inl rfl) (pe_op op_mod (pe_op op_add (pe_op op_add (pe_op op_mul (pv 1) pe_int) (pv 2)) pe_int) pe_int))))
      (pss_one (ps_ret (pe_lst (pa_cons (pv 0) (pa_cons pe_int (pa_cons (pv 1) (pa_cons pe_int pa_nil)))))))), ?_⟩
    refine ⟨_, rfl, a, rfl, ⟨_, ha⟩, for_it walk_list (fun i σ H2 => ∃ (m : Int) (o : Option V), σ = [some (.ref a), some (.int m), o] ∧ H2 = H ∧ 0 ≤ m ∧ m < 2147483647) ⟨1, none, rfl, rfl, by decide, by decide⟩
      (fun i σ H2 _ ⟨_, _, _, e, _⟩ => by rw [e]; exact ha) ?_ ?_⟩
    · rintro i y σ H2 H3 hi ⟨m, o, rfl, rfl, m0, m1⟩ ⟨rfl, e2⟩
      obtain ⟨c, rfl⟩ : ∃ c, y = V.int c := by
        rw [List.getElem?_map] at e2
        cases e : ns[i]? with
        | none =>
          rw [e] at e2
          cases e2
        | some c =>
          rw [e] at e2
          exact ⟨c, (Option.some.inj e2).symm⟩
      refine ⟨_, rfl, _, _, rfl, rfl, .inr ⟨by decide, by decide⟩, _, rfl, _, _, rfl, rfl, _, _, rfl, rfl, _, _, rfl, rfl, (by show (0 : Int) < 2147483647; decide), ?_⟩
      exact ⟨_, _, rfl, rfl, Int.emod_nonneg _ (by decide), Int.emod_lt_of_pos _ (by decide)⟩
    · rintro σ H2 ⟨m, o, rfl, rfl, m0, m1⟩
      refine ⟨_, rfl, _, rfl, by show 4 ≤ sizeLine; decide, fun l hl => ?_⟩
      have s1 : Same H2 (upd H2 l (.lst [.ref a, .int 0, .int m, .int 0])) := fun b o e => by rw [upd_ne (ne_of_none e hl)]; exact e
      exact k _ l s1 hl ⟨⟨0, m, 0, upd_same, by decide, ⟨m0, m1⟩, by decide⟩, s1.seq ha, hlen⟩
def spDrawn (K : PySem.W.Frag) : Sp := fun vs H Q _ => ∃ (l a : Addr) (ns : List Int) (n : Int), vs = [.ref l, .int n] ∧ DrawSt K H l a ns ∧ 0 < n ∧ n < 1073741824 ∧ ∀ (r : Int) H', 0 ≤ r → r < n → But l H H' → DrawSt K H' l a ns → Q (.int r) H'
theorem scDrawn : FnScope ["_law_state", "_law_count", "_law_result", "_law_cell"] ["_law_state", "_law_count"] (defScope sDrawn) := ⟨rfl, rfl, rfl, by decide +kernel, rfl, by decide +kernel, by decide +kernel⟩
theorem ok_drawn {f : Addr} {fd : FuncData} (F : Fun K "_law_drawn" "_law_drawn" sDrawn f fd) (B : Blt mg) : FnOk P w K mg base CX0 1 f fd ["_law_state", "_law_count"] (spDrawn K) := by
  refine F.ok scDrawn (fun vs H Q E h => ?_) (fun cdv A outer s H vs Q E hr h => ?_)
  · obtain ⟨l, a, ns, n, rfl, _⟩ := h
    rfl
  · obtain ⟨l, a, ns, n, rfl, ⟨⟨pos, seed, rest, hl, p0, ⟨s0, s1⟩, r0⟩, hsc, hlen⟩, n0, n1, k⟩ := h
    have nd := scDrawn.nd
    refine ⟨_, pss_cons (ps_if (pt_cmpR op_gt (pe_ix ix_list (pv 0) pe_int (fun _ _ => rfl)) pe_int (nomark _))
        (pss_cons (ps_set (i := 2) nd rfl (Or.inl rfl) (pe_op op_mod (pe_ix ix_list (pv 0) pe_int (fun _ _ => rfl)) (pv 1)))
          (pss_cons (ps_asg (pe_op op_fdiv (pe_ix ix_list (pv 0) pe_int (fun _ _ => rfl)) (pv 1)) (pg_sub (pv 0) pe_int set_list))
          (pss_one (ps_ret (pv 2))))) pss_nil)
      (pss_cons (ps_asg (pe_op op_add (pe_ix ix_list (pv 0) pe_int (fun _ _ => rfl)) pe_int) (pg_sub (pv 0) pe_int set_list))
      (pss_cons (ps_if (pt_cmpR op_le (pe_ix ix_list (pv 0) pe_int (fun _ _ => rfl)) (pe_callB call_len_seq (by rfl) B.len PySem.boot_len (pa_cons (pe_ix ix_list (pv 0) pe_int (fun _ _ => rfl)) pa_nil)) (nomark _))
        (pss_cons (ps_set (i := 3) nd rfl (Or.inl rfl) (pe_ix ix_list (pe_ix ix_list (pv 0) pe_int (fun _ _ => rfl)) (pe_op op_sub (pe_ix ix_list (pv 0) pe_int (fun _ _ => rfl)) pe_int) (fun _ _ => rfl)))
          (pss_cons (ps_asg (pe_ifExp (pt_cmpR op_ge (pv 3) (pe_op op_pow pe_int pe_int) (nomark _)) (pe_op op_fdiv (pv 3) (pv 1)) pe_int) (pg_sub (pv 0) pe_int set_list))
          (pss_one (ps_ret (pe_op op_mod (pv 3) (pv 1)))))) pss_nil)
      (pss_cons (ps_asg (pe_op op_mod (pe_op op_add (pe_op op_mul (pe_ix ix_list (pv 0) pe_int (fun _ _ => rfl)) pe_int) pe_int) pe_int) (pg_sub (pv 0) pe_int set_list))
      (pss_one (ps_ret (pe_op op_mod (pe_op op_fdiv (pe_ix ix_list (pv 0) pe_int (fun _ _ => rfl)) pe_int) (pv 1))))))), ?_⟩
    have upBut : ∀ {H1 : Hp} {o : HO}, But l H1 (upd H1 l o) := fun {H1 o} b u e nb => by rw [upd_ne nb]; exact e
    have fin : ∀ (r p' s' r' : Int) (H1 : Hp), 0 ≤ r → r < n → But l H H1 → H1 l = some (.lst [.ref a, .int p', .int s', .int r']) → 0 ≤ p' → 0 ≤ s' → s' < 2147483647 → 0 ≤ r' → Q (.int r) H1 := fun r p' s' r' H1 a1 a2 bu e b1 b2 b3 b4 =>
      k r H1 a1 a2 bu ⟨⟨p', s', r', e, b1, ⟨b2, b3⟩, b4⟩, sql_but hl hsc bu, hlen⟩
    refine ⟨_, rfl, l, _, 3, .int rest, rfl, rfl, SqL.of hl, atI_nat (j := 3) rfl, _, _, rfl, rfl, _, rfl, ?_⟩
    refine ite2 (fun h1 => ?_) (fun h1 => ?_)
    · refine ⟨_, rfl, l, _, 3, .int rest, rfl, rfl, SqL.of hl, atI_nat (j := 3) rfl, _, rfl, _, _, rfl, rfl, n0, _, rfl, l, _, 3, .int rest, rfl, rfl, SqL.of hl, atI_nat (j := 3) rfl, _, rfl, _, _, rfl, rfl, ⟨n0, n1⟩, _, rfl, l, _, 3, 3, rfl, rfl, hl, rfl, _, rfl, ?_⟩
      exact fin _ pos seed (rest / n) _ (Int.emod_nonneg _ (by omega)) (Int.emod_lt_of_pos _ n0) upBut upd_same p0 s0 s1 (Int.ediv_nonneg r0 (by omega))
    · refine ⟨_, rfl, l, _, 1, .int pos, rfl, rfl, SqL.of hl, atI_nat (j := 1) rfl, _, _, rfl, rfl, _, rfl, l, _, 1, 1, rfl, rfl, hl, rfl, ?_⟩
      generalize hH1 : upd H l (.lst ([V.ref a, .int pos, .int seed, .int rest].set 1 (.int (pos + 1)))) = H1
      have hl1 : H1 l = some (.lst [.ref a, .int (pos + 1), .int seed, .int rest]) := by rw [← hH1]; exact upd_same
      have b1 : But l H H1 := by rw [← hH1]; exact upBut
      have sc1 := sql_but hl hsc b1
      refine ⟨_, rfl, l, _, 1, .int (pos + 1), rfl, rfl, SqL.of hl1, atI_nat (j := 1) rfl, _, rfl, l, _, 0, .ref a, rfl, rfl, SqL.of hl1, atI_nat (j := 0) rfl, a, _, rfl, .inl sc1, _, _, rfl, rfl, _, rfl, ?_⟩
      refine ite2 (fun h2 => ?_) (fun h2 => ?_)
      · have h2' : pos + 1 ≤ ((ns.map V.int).length : Nat) := of_decide_eq_true h2
        rw [List.length_map] at h2'
        have lt : pos.toNat < ns.length := by omega
        obtain ⟨c, hc⟩ : ∃ c, ns[pos.toNat]? = some c := ⟨_, List.getElem?_eq_getElem lt⟩
        have hci : atI (ns.map V.int) (pos + 1 - 1) = some (.int c) := by
          have e : pos + 1 - 1 = ((pos.toNat : Nat) : Int) := by omega
          rw [e]
          refine atI_nat ?_
          rw [List.getElem?_map, hc]
          rfl
        refine ⟨_, rfl, l, _, 0, .ref a, rfl, rfl, SqL.of hl1, atI_nat (j := 0) rfl, _, rfl, l, _, 1, .int (pos + 1), rfl, rfl, SqL.of hl1, atI_nat (j := 1) rfl, _, _, rfl, rfl, a, _, _, .int c, rfl, rfl, sc1, hci, ?_⟩
        refine ⟨_, rfl, _, _, rfl, rfl, ⟨by decide, by decide, by decide⟩, _, _, rfl, rfl, _, rfl, ?_⟩
        have last : ∀ r' : Int, 0 ≤ r' → Q (.int (c % n)) (upd H1 l (.lst ([V.ref a, .int (pos + 1), .int seed, .int rest].set 3 (.int r')))) := fun r' hr' =>
          fin _ (pos + 1) seed r' _ (Int.emod_nonneg _ (by omega)) (Int.emod_lt_of_pos _ n0) (b1.trans upBut) upd_same (by omega) s0 s1 hr'
        refine ite2 (fun h3 => ?_) (fun h3 => ?_)
        · have c0 : 0 ≤ c := by
            have h3' := of_decide_eq_true h3
            have : (0 : Int) ≤ 10 ^ (Int.toNat 18) := by decide
            omega
          refine ⟨_, rfl, _, rfl, _, _, rfl, rfl, ⟨n0, n1⟩, _, rfl, l, _, 3, 3, rfl, rfl, hl1, rfl, _, rfl, _, rfl, _, _, rfl, rfl, n0, ?_⟩
          exact last _ (Int.ediv_nonneg c0 (by omega))
        · refine ⟨_, rfl, l, _, 3, 3, rfl, rfl, hl1, rfl, _, rfl, _, rfl, _, _, rfl, rfl, n0, ?_⟩
          exact last 0 (by decide)
      · refine ⟨_, rfl, l, _, 2, .int seed, rfl, rfl, SqL.of hl1, atI_nat (j := 2) rfl, _, _, rfl, rfl, .inr ⟨by decide, by decide⟩, _, _, rfl, rfl, _, _, rfl, rfl, (by show (0 : Int) < 2147483647; decide), _, rfl, l, _, 2, 2, rfl, rfl, hl1, rfl, ?_⟩
        refine ⟨_, rfl, l, _, 2, .int ((seed * 48271 + 11) % 2147483647), rfl, rfl, SqL.of upd_same, atI_nat (j := 2) rfl, _, _, rfl, rfl, ⟨by decide, by decide⟩, _, rfl, _, _, rfl, rfl, n0, ?_⟩
        exact fin _ (pos + 1) _ rest _ (Int.emod_nonneg _ (by omega)) (Int.emod_lt_of_pos _ n0) (b1.trans upBut) upd_same (by omega) (Int.emod_nonneg _ (by decide)) (Int.emod_lt_of_pos _ (by decide)) r0
end
end Sh1
/-! Draws: told in K1j0, which a law without parties can use too. -/
set_option Elab.async false
set_option linter.all false
set_option maxRecDepth 100000
set_option maxHeartbeats 2000000
namespace Sh1
open PySem L2 Sho NdefX
/-- x stands for d, at most n deep: ints, texts, tuples, lists -/
def Leaf (x : V) (d : PyData) : Prop := (∃ i, x = .int i ∧ d = .int i) ∨ ∃ z, x = .str z ∧ d = .str z
def Stands (H : Hp) : Nat → V → PyData → Prop
  | 0, x, d => Leaf x d
  | n + 1, x, d => Leaf x d ∨ (∃ (a : Addr) (xs : List V) (ds : List PyData), x = .ref a ∧ d = .tuple ds ∧ H a = some (.tup xs) ∧ xs.length ≤ 1000 ∧ PySem.Paired (fun y e => Stands H n y e) xs ds)
theorem Stands.same {H H' : Hp} (s : Same H H') : ∀ {n : Nat} {x : V} {d : PyData}, Stands H n x d → Stands H' n x d
  | 0, _, _, h => h
  | n + 1, x, d, h => by
    rcases h with h | ⟨a, xs, ds, e1, e2, e3, e4, e5⟩
    · exact .inl h
    · refine .inr ⟨a, xs, ds, e1, e2, s _ _ e3, e4, ?_⟩
      clear e3 e4 e1 e2
      induction e5 with
      | nil => exact .nil
      | cons h r ih => exact .cons (Stands.same s h) ih
section
variable {P : Program} {w : World} {K : PySem.W.Frag} {mg : Str → Option Value} {base : Heap}
def spSame (n : Nat) : Sp := fun vs H Q _ => ∃ (x y : V) (d : PyData), vs = [x, y] ∧ Stands H n x d ∧ Stands H n y d ∧ ∀ H', Same H H' → Q (.bl true) H'
theorem scSame : FnScope ["_law_result", "_law_expected", "_law_k"] ["_law_result", "_law_expected"] (defScope sSame) := ⟨rfl, rfl, rfl, by decide +kernel, rfl, by decide +kernel, by decide +kernel⟩
theorem kA {K : PySem.W.Frag} {t : String} (h1 : kitB t "tuple" = some false) (h2 : kitB t "list" = some false) : PySem.W.kitAny K (.type t) [.type "tuple", .type "list"] = some false :=
  kitAny_cons (b := false) h1 (fun _ => kitAny_cons (b := false) h2 (fun _ => rfl) fun z => nomatch z) fun z => nomatch z
theorem kT {K : PySem.W.Frag} : PySem.W.kitAny K (.type "tuple") [.type "tuple", .type "list"] = some true :=
  kitAny_cons (b := true) (show kitB "tuple" "tuple" = some true by decide +kernel) (fun z => nomatch z) fun _ => rfl
/-- a leaf's class -/
theorem leaf_ty {K : PySem.W.Frag} {x : V} {d : PyData} (h : Leaf x d) : ∃ t : String, (∀ H, TyX K H x (.type t)) ∧ PySem.W.kitAny K (.type t) [.type "tuple", .type "list"] = some false ∧ kitB t "bool" = some false ∧ ∃ b, kitB t "int" = some b ∧ (b = true → ∃ i, d = .int i) ∧ (b = false → ∃ z, d = .str z) ∧ scal x x = true := by
  rcases h with ⟨i, rfl, rfl⟩ | ⟨z, rfl, rfl⟩
  · exact ⟨"int", fun _ => .base (.int i), kA (by decide +kernel) (by decide +kernel), by decide +kernel, true, by decide +kernel, fun _ => ⟨i, rfl⟩, (fun z => nomatch z), rfl⟩
  · exact ⟨"str", fun _ => .base (.str z), kA (by decide +kernel) (by decide +kernel), by decide +kernel, false, by decide +kernel, (fun z => nomatch z), fun _ => ⟨z, rfl⟩, rfl⟩
theorem leaf_eq {x y : V} {d : PyData} (h : Leaf x d) (k : Leaf y d) : x = y := by
  rcases h with ⟨i, rfl, rfl⟩ | ⟨z, rfl, rfl⟩ <;> rcases k with ⟨j, rfl, e⟩ | ⟨j, rfl, e⟩ <;> cases e <;> rfl
theorem stands_split {H : Hp} {n : Nat} {sp' : Sp} {x y : V} {d : PyData} (hn : n = 0 ∨ ∃ m, n = m + 1 ∧ sp' = spSame m) (hx : Stands H n x d) (hy : Stands H n y d) :
    (Leaf x d ∧ x = y) ∨ ∃ (m : Nat) (a b : Addr) (xs ys : List V) (ds : List PyData), sp' = spSame m ∧ x = .ref a ∧ y = .ref b ∧ H a = some (.tup xs) ∧ H b = some (.tup ys) ∧ xs.length ≤ 1000 ∧
      PySem.Paired (fun y e => Stands H m y e) xs ds ∧ PySem.Paired (fun y e => Stands H m y e) ys ds := by
  rcases hn with rfl | ⟨m, rfl, e⟩
  · exact .inl ⟨hx, leaf_eq hx hy⟩
  · rcases hx with hx | ⟨a, xs, ds, rfl, rfl, h1, h2, h3⟩
    · rcases hy with hy | ⟨b, ys, es, rfl, rfl, _⟩
      · exact .inl ⟨hx, leaf_eq hx hy⟩
      · rcases hx with ⟨i, _, z⟩ | ⟨i, _, z⟩ <;> cases z
    · rcases hy with hy | ⟨b, ys, es, rfl, e2, g1, g2, g3⟩
      · rcases hy with ⟨i, _, z⟩ | ⟨i, _, z⟩ <;> cases z
      · cases e2
        exact .inr ⟨m, a, b, xs, ys, ds, e, rfl, rfl, h1, g1, h2, h3, g3⟩
theorem same_step {k n : Nat} {sp' : Sp} {f : Addr} {fd : FuncData} (F : Fun K "_law_same" "_law_same" sSame f fd) (B : Blt mg) (mF : mg "_law_same" = some (.ref f)) (bF : Binds K fd ["_law_result", "_law_expected"] [])
    (ih : FnOk P w K mg base CX0 k f fd ["_law_result", "_law_expected"] sp') (hn : n = 0 ∨ ∃ m, n = m + 1 ∧ sp' = spSame m) : FnOk P w K mg base CX0 (k + 1) f fd ["_law_result", "_law_expected"] (spSame n) := by
  refine F.ok scSame (fun vs H Q E h => ?_) (fun cdv A outer s H vs Q E hr h => ?_)
  · obtain ⟨x, y, d, rfl, _⟩ := h
    rfl
  · obtain ⟨x, y, d, rfl, hx, hy, kk⟩ := h
    have nd := scSame.nd
    refine ⟨_, pss_cons (ps_if (pt_val (pe_callB call_isiT (by rfl) B.isi (by decide +kernel) (pa_cons (pv 1) (pa_cons (pe_tup (pa_cons (pe_bltn (v := .ty "tuple") (by rfl) B.tuple (by decide +kernel) rfl) (pa_cons (pe_bltn (v := .ty "list") (by rfl) B.list (by decide +kernel) rfl) pa_nil))) pa_nil))))
        (pss_cons (ps_if (PW.pt (pw_or (pt_not (pt_val (pe_callB call_isiT (by rfl) B.isi (by decide +kernel) (pa_cons (pv 0) (pa_cons (pe_tup (pa_cons (pe_bltn (v := .ty "tuple") (by rfl) B.tuple (by decide +kernel) rfl) (pa_cons (pe_bltn (v := .ty "list") (by rfl) B.list (by decide +kernel) rfl) pa_nil))) pa_nil)))))
            (pw_or1 (pt_cmpR op_ne (pe_callB call_isi (by rfl) B.isi (by decide +kernel) (pa_cons (pv 0) (pa_cons (pe_bltn (v := .ty "list") (by rfl) B.list (by decide +kernel) rfl) pa_nil))) (pe_callB call_isi (by rfl) B.isi (by decide +kernel) (pa_cons (pv 1) (pa_cons (pe_bltn (v := .ty "list") (by rfl) B.list (by decide +kernel) rfl) pa_nil))) (nomark _)))))
            (pss_one (ps_ret pe_bl)) pss_nil)
        (pss_cons (ps_if (pt_cmpR op_ne (pe_callB call_len_seq (by rfl) B.len PySem.boot_len (pa_cons (pv 0) pa_nil)) (pe_callB call_len_seq (by rfl) B.len PySem.boot_len (pa_cons (pv 1) pa_nil)) (nomark _)) (pss_one (ps_ret pe_bl)) pss_nil)
        (pss_one (ps_ret (pe_cmpR (op_eqD (hr.mono (Nat.zero_le _)).units) (pe_lc (own := [("_law_k", 2)]) (g := gName 2) (tt := tNot (tB (tCall sp' [] E0 (tCons (tOp (rIxT K) (tVar 0) (tVar 2)) (tCons (tOp (rIxT K) (tVar 1) (tVar 2)) tNil))))) rfl nd
            (pi_range1 (by rfl) B.range (pa_cons (pe_callB call_len_seq (by rfl) B.len PySem.boot_len (pa_cons (pv 1) pa_nil)) pa_nil)) (blkOk_by (own := [("_law_k", 2)]) (N := ["_law_result", "_law_expected", "_law_k"]) (sc := defScope sSame) (by decide +kernel))
            (fun _ _ _ _ _ => pg_name (i := 2) nd rfl (Or.inl rfl))
            (fun _ _ _ _ _ => pts_one (pt_not (pt_val (pe_call ih hr rfl mF F.kp bF .nil pass0 (pa_cons (pe_ix ix_tup (pv 0) (pv 2) (fun _ _ => rfl)) (pa_cons (pe_ix ix_tup (pv 1) (pv 2) (fun _ _ => rfl)) pa_nil))))))
            (fun _ _ _ _ _ => pv 2)) (pe_lst pa_nil) (nomark _)))))) pss_nil)
      (pss_cons (ps_if (pt_cmpR op_ne (pe_callB call_isi (by rfl) B.isi (by decide +kernel) (pa_cons (pv 0) (pa_cons (pe_bltn (v := .ty "bool") (by rfl) B.bool (by decide +kernel) rfl) pa_nil))) (pe_callB call_isi (by rfl) B.isi (by decide +kernel) (pa_cons (pv 1) (pa_cons (pe_bltn (v := .ty "bool") (by rfl) B.bool (by decide +kernel) rfl) pa_nil))) (nomark _)) (pss_one (ps_ret pe_bl)) pss_nil)
      (pss_one (ps_ret (pe_and (pe_cmpR op_eq (pe_callB call_isi (by rfl) B.isi (by decide +kernel) (pa_cons (pv 0) (pa_cons (pe_bltn (v := .ty "int") (by rfl) B.int (by decide +kernel) rfl) pa_nil))) (pe_callB call_isi (by rfl) B.isi (by decide +kernel) (pa_cons (pv 1) (pa_cons (pe_bltn (v := .ty "int") (by rfl) B.int (by decide +kernel) rfl) pa_nil))) (nomark _))
        (pe_one (pe_cmpR op_eq (pv 0) (pv 1) (nomark _))))))), ?_⟩
    rcases stands_split hn hx hy with ⟨hl, e⟩ | ⟨m, a, b, xs, ys, ds, e, rfl, rfl, h1, h2, h3, h4, h5⟩
    · subst e
      obtain ⟨t, ty, ka, kb, bi, ki, ki1, ki2, hsc⟩ := leaf_ty (K := K) hl
      refine ⟨_, rfl, by decide, fun tp htp => ?_⟩
      have s1 : Same H (upd H tp (.tup [.ty "tuple", .ty "list"])) := fun b o e => by rw [upd_ne (ne_of_none e htp)]; exact e
      refine ⟨x, tp, _, .type t, [.type "tuple", .type "list"], false, rfl, upd_same, .cons (.ty _) (.cons (.ty _) .nil), ty _, ka, _, rfl, iteF ?_⟩
      refine ⟨_, rfl, x, _, .type t, .type "bool", false, rfl, .ty _, ty _, kb, _, rfl, x, _, .type t, .type "bool", false, rfl, .ty _, ty _, kb, rfl, _, rfl, iteF ?_⟩
      refine ⟨_, rfl, x, _, .type t, .type "int", bi, rfl, .ty _, ty _, ki, _, rfl, x, _, .type t, .type "int", bi, rfl, .ty _, ty _, ki, rfl, true, by rw [decide_eq_true rfl], iteT ⟨_, rfl, _, rfl, hsc, ?_⟩⟩
      rw [decide_eq_true rfl]
      exact kk _ s1
    · subst e
      have lx := pair_len h4
      have ly := pair_len h5
      have new : ∀ {H1 : Hp} {p : Addr} {o : HO}, H1 p = none → Same H1 (upd H1 p o) := fun {H1 p o} hp b u e => by rw [upd_ne (ne_of_none e hp)]; exact e
      refine ⟨_, rfl, by decide, fun tp htp => ?_⟩
      have s1 := new (o := .tup [.ty "tuple", .ty "list"]) htp
      refine ⟨.ref b, tp, _, .type "tuple", [.type "tuple", .type "list"], true, rfl, upd_same, .cons (.ty _) (.cons (.ty _) .nil), .base (.tup (s1 _ _ h2)), kT, _, rfl, iteT ?_⟩
      refine ⟨_, rfl, by decide, fun tq htq => ?_⟩
      have s2 := s1.trans (new (o := .tup [.ty "tuple", .ty "list"]) htq)
      refine ⟨.ref a, tq, _, .type "tuple", [.type "tuple", .type "list"], true, rfl, upd_same, .cons (.ty _) (.cons (.ty _) .nil), .base (.tup (s2 _ _ h1)), kT, _, rfl, iteF ?_⟩
      refine ⟨_, rfl, .ref a, _, .type "tuple", .type "list", false, rfl, .ty _, .base (.tup (s2 _ _ h1)), kit_ty (by decide +kernel), _, rfl, .ref b, _, .type "tuple", .type "list", false, rfl, .ty _, .base (.tup (s2 _ _ h2)), kit_ty (by decide +kernel), rfl, _, rfl, iteF ?_⟩
      generalize upd (upd H tp (.tup [.ty "tuple", .ty "list"])) tq (.tup [.ty "tuple", .ty "list"]) = H2 at s2
      refine ⟨_, rfl, a, xs, rfl, .inr (SqT.of (s2 _ _ h1)), _, rfl, b, ys, rfl, .inr (SqT.of (s2 _ _ h2)), rfl, false, ?_, iteF ?_⟩
      · have e : (xs.length : Int) = (ys.length : Int) := by rw [lx, ly]
        rw [e, decide_eq_true rfl]
        rfl
      · have hlen : (ys.length : Int).toNat = ys.length := by simp
        have l1000 : ys.length ≤ 1000 := by omega
        refine ⟨_, rfl, b, ys, rfl, .inr (SqT.of (s2 _ _ h2)), (ys.length : Nat), rfl, by omega, by omega, fun D hD => ?_⟩
        refine lc_gather walk_range (fun _ => none) hD (by rw [hlen]; exact Nat.le_trans l1000 (by decide)) (fun _ _ => trivial) (fun i v H3 H4 hi s3 yv R k1 => ?_) fun H3 s3 e3 => ?_
        · obtain ⟨rfl, rfl⟩ := yv
          rw [hlen] at hi
          obtain ⟨y', hy'⟩ : ∃ y', ys[i]? = some y' := ⟨_, List.getElem?_eq_getElem hi⟩
          obtain ⟨x', hx'⟩ : ∃ x', xs[i]? = some x' := ⟨_, List.getElem?_eq_getElem (by omega)⟩
          obtain ⟨e1, he1, st1⟩ := pair_get h4 hx'
          obtain ⟨e2, he2, st2⟩ := pair_get h5 hy'
          rw [he1] at he2
          cases he2
          have s23 := s2.trans s3
          have zi : (0 : Int) + (i : Nat) = (i : Nat) := by omega
          refine ⟨rfl, _, rfl, _, rfl, a, xs, _, x', rfl, rfl, SqT.of (s23 _ _ h1), by rw [zi]; exact atI_nat hx', _, rfl, _, rfl, b, ys, _, y', rfl, rfl, SqT.of (s23 _ _ h2), by rw [zi]; exact atI_nat hy', ?_⟩
          exact ⟨x', y', e1, rfl, st1.same s23, st2.same s23, fun H5 s5 => ⟨_, rfl, iteF (k1 _ s5)⟩⟩
        · have g0 : gather (fun _ => none) ((ys.length : Int).toNat) = [] := by
            unfold gather
            simp
          rw [g0] at e3
          refine ⟨by decide, fun L hL => ?_⟩
          have s4 := new (o := .lst []) hL
          exact ⟨.list [], .list [], .lst (SqL.of (s4 _ _ e3)) .nil, .lst (SqL.of upd_same) .nil, rfl, rfl, kk _ ((s2.trans s3).trans s4)⟩
theorem ok_same {f : Addr} {fd : FuncData} (F : Fun K "_law_same" "_law_same" sSame f fd) (B : Blt mg) (mF : mg "_law_same" = some (.ref f)) (bF : Binds K fd ["_law_result", "_law_expected"] []) : ∀ n, FnOk P w K mg base CX0 (n + 1) f fd ["_law_result", "_law_expected"] (spSame n)
  | 0 => same_step (sp' := fun _ _ _ _ => False) F B mF bF ⟨fun _ _ _ _ h => False.elim h, fun _ _ _ _ _ _ _ _ _ _ _ _ _ h => False.elim h⟩ (.inl rfl)
  | n + 1 => same_step F B mF bF (ok_same F B mF bF n) (.inr ⟨n, rfl, rfl⟩)
end
end Sh1
set_option Elab.async false
set_option linter.all false
set_option maxRecDepth 100000
set_option maxHeartbeats 2000000
/-! list(text). -/
namespace Sho
open PySem PySem.Spec PyProof.Rows L2
def signs (z : Str) : List V := z.cps.toList.map fun c => V.str ⟨#[c]⟩
theorem paired_of {α β : Type} {R : α → β → Prop} : ∀ {as : List α} {bs : List β}, as.length = bs.length → (∀ (i : Nat) (b : β), bs[i]? = some b → ∃ a, as[i]? = some a ∧ R a b) → PySem.Paired R as bs
  | [], [], _, _ => .nil
  | [], _ :: _, h, _ => by simp at h
  | _ :: _, [], h, _ => by simp at h
  | a :: as, b :: bs, h, k => by
    obtain ⟨a', e, r⟩ := k 0 b rfl
    simp at e
    subst e
    exact .cons r (paired_of (by simpa using h) fun i b' e => by
      obtain ⟨a', e2, r2⟩ := k (i + 1) b' (by simpa using e)
      exact ⟨a', by simpa using e2, r2⟩)
theorem vals_signs {z : Str} {acc : Array Value} (h : ItemsOf (SignAt z) acc z.cps.size) : Vals (signs z) acc.toList := by
  refine paired_of ?_ fun i v e => ?_
  · unfold signs
    rw [List.length_map, Array.length_toList, Array.length_toList]
    exact h.1.symm
  · rw [Array.getElem?_toList] at e
    obtain ⟨c, t, hc, rfl⟩ := h.2 i v e
    refine ⟨.str ⟨#[c]⟩, ?_, t, rfl⟩
    unfold signs
    rw [List.getElem?_map, Array.getElem?_toList, hc]
    rfl
theorem call_listStr {X : Cx} (hc : X.calm = true) : CallR X (.type "list") (fun xs H Q => ∃ z : Str, xs = [.str z] ∧ z.length ≤ sizeLine ∧ ∀ l, H l = none → Q (.ref l) (upd H l (.lst (signs z)))) := by
  intro pins s σ H xs us Q I r h
  obtain ⟨z, rfl, hz, q⟩ := h
  obtain ⟨u, rfl, rx⟩ := vals1 r
  obtain ⟨t, rfl⟩ := rx
  refine call_list_str (I.ok.hd hc) z t (fun h' tk acc' c' kp e hi => ?_) hz
  refine ⟨.ref s.heap.objs.size, _, I.laid (t' := tk) kp (Nat.le_refl _) (show ObjOk X.prog X.w _ h' _ (.lst (signs z)) from ⟨?_, acc'.toList, c', vals_signs hi, by simpa using e⟩), rfl, q _ (I.hok.fresh (Nat.le_refl _))⟩
  unfold signs
  rw [List.length_map, Array.length_toList]
  exact hz
end Sho
set_option Elab.async false
set_option linter.all false
set_option maxRecDepth 100000
set_option maxHeartbeats 2000000
namespace Sh1
open PySem L2 Sho NdefX
abbrev sg (c : Nat) : V := .str ⟨#[c]⟩
def l26 : List Nat := (List.range 26).map fun i => 97 + i
theorem signs_l26 : signs (Str.ofString "abcdefghijklmnopqrstuvwxyz") = l26.map sg := by
  have e : (Str.ofString "abcdefghijklmnopqrstuvwxyz").cps.toList = l26 := by decide +kernel
  unfold signs
  rw [e]
structure Rows (high : Int) (xs : List Stay) : Prop where
  nd : (xs.map fun x => x.1).Nodup
  one : ∀ x ∈ xs, ∃ c : Nat, x.1 = ⟨#[c]⟩ ∧ 97 ≤ c ∧ c ≤ 122
  tm : ∀ x ∈ xs, 0 ≤ x.2.1 ∧ x.2.1 < high ∧ x.2.1 < x.2.2 ∧ x.2.2 ≤ x.2.1 + high
theorem StayV.but {l : Addr} {H H' : Hp} {v : V} {x : Stay} {zs : List V} (hl : H l = some (.lst zs)) (s : But l H H') (h : StayV H v x) : StayV H' v x := by
  obtain ⟨t, e, ht⟩ := h
  refine ⟨t, e, s _ _ ht fun z => ?_⟩
  rw [z, hl] at ht
  cases ht
theorem StaysV.but {l : Addr} {H H' : Hp} {zs : List V} (hl : H l = some (.lst zs)) (s : But l H H') : ∀ {vs : List V} {xs : List Stay}, StaysV H vs xs → StaysV H' vs xs
  | _, _, .nil => .nil
  | _, _, .cons h r => .cons (h.but hl s) (StaysV.but hl s r)
theorem DrawSt.at {K : PySem.W.Frag} {H : Hp} {l a : Addr} {ns : List Int} (d : DrawSt K H l a ns) : ∃ zs, H l = some (.lst (V.ref a :: zs)) := by
  obtain ⟨⟨p, s, r, h, _⟩, _, _⟩ := d
  exact ⟨_, h⟩
theorem DrawSt.but {K : PySem.W.Frag} {H H' : Hp} {l a : Addr} {ns : List Int} (d : DrawSt K H l a ns) (h : H' l = H l) (b : But l H H') : DrawSt K H' l a ns := by
  obtain ⟨⟨p, s, r, e, k⟩, sc, len⟩ := d
  exact ⟨⟨p, s, r, h.trans e, k⟩, sql_but e sc b, len⟩
section
variable {P : Program} {w : World} {K : PySem.W.Frag} {mg : Str → Option Value} {base : Heap}
def spRows (K : PySem.W.Frag) : Sp := fun vs H Q _ => ∃ (l a : Addr) (ns : List Int) (most high : Int), vs = [.ref l, .int most, .int high] ∧ DrawSt K H l a ns ∧ 0 ≤ most ∧ most ≤ 25 ∧ 0 < high ∧ high < 1073741824 ∧
  ∀ (H' : Hp) (R : Addr) (ws : List V) (xs : List Stay), But l H H' → DrawSt K H' l a ns → H R = none → H' R = some (.lst ws) → StaysV H' ws xs → (xs.length : Int) ≤ most → Rows high xs → Q (.ref R) H'
theorem scRows : FnScope ["_law_state", "_law_most", "_law_high", "_law_left", "_law_rows_here", "_law_k", "_law_come"] ["_law_state", "_law_most", "_law_high"] (defScope sRows) := ⟨rfl, rfl, rfl, by decide +kernel, rfl, by decide +kernel, by decide +kernel⟩
theorem map_erase {α β : Type} (f : α → β) : ∀ (l : List α) (k : Nat), (l.map f).eraseIdx k = (l.eraseIdx k).map f
  | [], k => by simp
  | x :: l, 0 => rfl
  | x :: l, k + 1 => by simp [map_erase f l k]
theorem seq_nat {j n : Nat} (h : j < n) : seqIndex? (j : Int) n = some j := by
  have e0 : (if (j : Int) < 0 then (j : Int) + n else (j : Int)) = (j : Int) := if_neg (by omega)
  show (if (decide (0 ≤ (if (j : Int) < 0 then (j : Int) + n else (j : Int))) && decide ((if (j : Int) < 0 then (j : Int) + n else (j : Int)) < (n : Int))) = true then some (if (j : Int) < 0 then (j : Int) + n else (j : Int)).toNat else none) = some j
  rw [e0]
  have e : (decide (0 ≤ (j : Int)) && decide ((j : Int) < (n : Int))) = true := by simp; omega
  rw [if_pos e]
  simp
theorem sql_fresh {K : PySem.W.Frag} {H : Hp} {a L : Addr} {xs : List V} (h : SqL K H a xs) (hL : H L = none) : a ≠ L ∨ ∀ H', SqL K H' a xs := by
  rcases h with (h | ⟨o, h⟩) | h
  · exact .inl (ne_of_none h hL)
  · exact .inl (ne_of_none h hL)
  · exact .inr fun _ => .inr h
theorem sql_to {K : PySem.W.Frag} {H H' : Hp} {a L : Addr} {xs : List V} (h : SqL K H a xs) (n : a ≠ L ∨ ∀ H', SqL K H' a xs) (b : But L H H') : SqL K H' a xs := by
  rcases n with n | n
  · rcases h with (h | ⟨o, h⟩) | h
    · exact .inl (.inl (b _ _ h n))
    · exact .inl (.inr ⟨o, b _ _ h n⟩)
    · exact .inr h
  · exact n H'
theorem DrawSt.to {K : PySem.W.Frag} {H H' : Hp} {l a L : Addr} {ns : List Int} (d : DrawSt K H l a ns) (nl : l ≠ L) (n : a ≠ L ∨ ∀ H', SqL K H' a (ns.map V.int)) (b : But L H H') : DrawSt K H' l a ns := by
  obtain ⟨⟨p, s, r, e, k⟩, sc, len⟩ := d
  exact ⟨⟨p, s, r, b _ _ e nl, k⟩, sql_to sc n b, len⟩
theorem but_upd {l : Addr} {H : Hp} {o : HO} : But l H (upd H l o) := fun b u e nb => by rw [upd_ne nb]; exact e
theorem same_upd {p : Addr} {H : Hp} {o : HO} (hp : H p = none) : Same H (upd H p o) := fun b u e => by rw [upd_ne (ne_of_none e hp)]; exact e
theorem DrawSt.same {K : PySem.W.Frag} {H H' : Hp} {l a : Addr} {ns : List Int} (d : DrawSt K H l a ns) (s : Same H H') : DrawSt K H' l a ns := by
  obtain ⟨⟨p, s', r, e, k⟩, sc, len⟩ := d
  exact ⟨⟨p, s', r, s _ _ e, k⟩, s.seq sc, len⟩
theorem Rows.snoc {high : Int} {xs : List Stay} {c : Nat} {a t : Int} (h : Rows high xs) (hc : 97 ≤ c ∧ c ≤ 122) (hx : ∀ x ∈ xs, x.1 ≠ ⟨#[c]⟩) (a0 : 0 ≤ a) (a1 : a < high) (t0 : 0 ≤ t) (t1 : t < high) : Rows high (xs ++ [(⟨#[c]⟩, a, a + 1 + t)]) := by
  refine ⟨?_, fun x hx' => ?_, fun x hx' => ?_⟩
  · rw [List.map_append, List.nodup_append]
    refine ⟨h.nd, by simp, fun z hz y hy e => ?_⟩
    simp at hy
    obtain ⟨x, hx', e2⟩ := List.mem_map.mp hz
    exact hx x hx' (e2.trans (e.trans hy))
  · rcases List.mem_append.mp hx' with q | q
    · exact h.one x q
    · rw [List.mem_singleton] at q
      subst q
      exact ⟨c, rfl, hc.1, hc.2⟩
  · rcases List.mem_append.mp hx' with q | q
    · exact h.tm x q
    · rw [List.mem_singleton] at q
      subst q
      exact ⟨a0, a1, by show a < a + 1 + t; omega, by show a + 1 + t ≤ a + high; omega⟩
theorem one_ne {c d : Nat} (h : c ≠ d) : (⟨#[c]⟩ : Str) ≠ ⟨#[d]⟩ := fun e => by
  injection e with e
  simp at e
  exact h e
/-- between two turns -/
def RowsIn (K : PySem.W.Frag) (H0 : Hp) (l a : Addr) (ns : List Int) (high : Int) (L R : Addr) (i : Nat) (H : Hp) : Prop :=
  ∃ (left : List Nat) (ws : List V) (xs : List Stay), But l H0 H ∧ DrawSt K H l a ns ∧ H L = some (.lst (left.map sg)) ∧ H R = some (.lst ws) ∧ StaysV H ws xs ∧ xs.length = i ∧ left.length + i = 26 ∧ left.Nodup ∧ (∀ c ∈ left, 97 ≤ c ∧ c ≤ 122) ∧
    Rows high xs ∧ ∀ x ∈ xs, ∀ c ∈ left, x.1 ≠ ⟨#[c]⟩
theorem ok_rows {f fD : Addr} {fd fdD : FuncData} (F : Fun K "_law_rows" "_law_rows" sRows f fd) (B : Blt mg)
    (GD : FnOk P w K mg base CX0 1 fD fdD ["_law_state", "_law_count"] (spDrawn K)) (mD : mg "_law_drawn" = some (.ref fD)) (kD : PySem.W.keepIn K (.ref fD) = true) (bD : Binds K fdD ["_law_state", "_law_count"] []) :
    FnOk P w K mg base CX0 2 f fd ["_law_state", "_law_most", "_law_high"] (spRows K) := by
  refine F.ok scRows (fun vs H Q E h => ?_) (fun cdv A outer s H vs Q E hr h => ?_)
  · obtain ⟨l, a, ns, most, high, rfl, _⟩ := h
    rfl
  · obtain ⟨l, a, ns, most, high, rfl, hD, m0, m1, h0, h1, k⟩ := h
    have nd := scRows.nd
    refine ⟨_, pss_cons (ps_set (i := 3) nd rfl (Or.inl rfl) (pe_callTy (call_listStr rfl) (by rfl) B.list (by decide +kernel) (pa_cons pe_str pa_nil)))
      (pss_cons (ps_set (i := 4) nd rfl (Or.inl rfl) (pe_lst pa_nil))
      (pss_cons (ps_for PassesOwn.never rfl (pi_range1 (by rfl) B.range (pa_cons (pe_call GD hr rfl mD kD bD .nil pass0 (pa_cons (pv 0) (pa_cons (pe_op op_add (pv 1) pe_int) pa_nil))) pa_nil)) (pg_name (i := 5) nd rfl (Or.inl rfl))
        (pss_cons (ps_set (i := 6) nd rfl (Or.inl rfl) (pe_call GD hr rfl mD kD bD .nil pass0 (pa_cons (pv 0) (pa_cons (pv 2) pa_nil))))
        (pss_one (ps_expr (pe_bm PySem.F.plainAttrs_list PySem.F.slot_list_append PySem.F.type_list_append mt_append (pv 4) (pa_cons (pe_tup (pa_cons
            (pe_bm PySem.F.plainAttrs_list PySem.F.slot_list_pop PySem.F.type_list_pop mt_popAt (pv 3) (pa_cons (pe_call GD hr rfl mD kD bD .nil pass0 (pa_cons (pv 0) (pa_cons (pe_callB call_len_seq (by rfl) B.len PySem.boot_len (pa_cons (pv 3) pa_nil)) pa_nil))) pa_nil))
            (pa_cons (pv 6) (pa_cons (pe_op op_add (pe_op op_add (pv 6) pe_int) (pe_call GD hr rfl mD kD bD .nil pass0 (pa_cons (pv 0) (pa_cons (pv 2) pa_nil)))) pa_nil)))) pa_nil))))))
      (pss_one (ps_ret (pv 4))))), ?_⟩
    refine ⟨_, rfl, by decide +kernel, fun L hL => ⟨Nat.zero_le _, fun R hR => ?_⟩⟩
    rw [signs_l26] at hR ⊢
    obtain ⟨zs, hl⟩ := hD.at
    have hL0 : H L = none := hL
    have nLR : L ≠ R := fun z => by
      rw [← z, upd_same] at hR
      cases hR
    have hR0 : H R = none := by
      rw [upd_ne (Ne.symm nLR)] at hR
      exact hR
    have nl1 : l ≠ L := ne_of_none hl hL0
    have nl2 : l ≠ R := ne_of_none hl hR0
    have aL := sql_fresh hD.sc hL0
    have aR := sql_fresh hD.sc hR0
    have sm : Same H (upd (upd H L (.lst (l26.map sg))) R (.lst [])) := fun b o e => by
      rw [upd_ne (ne_of_none e hR0), upd_ne (ne_of_none e hL0)]
      exact e
    have hD1 : DrawSt K (upd (upd H L (.lst (l26.map sg))) R (.lst [])) l a ns := hD.but (by rw [upd_ne nl2, upd_ne nl1]) (But.of sm)
    have hL1 : (upd (upd H L (.lst (l26.map sg))) R (.lst [])) L = some (.lst (l26.map sg)) := by rw [upd_ne nLR, upd_same]
    have hR1 : (upd (upd H L (.lst (l26.map sg))) R (.lst [])) R = some (.lst []) := upd_same
    generalize upd (upd H L (.lst (l26.map sg))) R (.lst []) = H1 at *
    refine ⟨_, rfl, _, rfl, _, _, rfl, rfl, l, a, ns, most + 1, rfl, hD1, by omega, by omega, fun r H2 r0 r1 b2 hD2 => ⟨r, rfl, by omega, by omega, ?_⟩⟩
    refine for_it walk_range (fun i σ H2 => ∃ o5 o6, σ = [some (.ref l), some (.int most), some (.int high), some (.ref L), some (.ref R), o5, o6] ∧ RowsIn K H l a ns high L R i H2)
      ⟨none, none, rfl, l26, [], [], (But.of sm).trans b2, hD2, b2 _ _ hL1 (Ne.symm nl1), b2 _ _ hR1 (Ne.symm nl2), .nil, rfl, by decide +kernel, by decide +kernel, by decide +kernel, ⟨List.nodup_nil, by simp, by simp⟩, by simp⟩ (fun _ _ _ _ _ => trivial) ?_ ?_
    · rintro i v σ H3' H3 hi ⟨o5, o6, rfl, left, ws, xs, b3, d3, hL3, hR3, sv3, lx, ll, ln, lr, rows, sep⟩ ⟨rfl, rfl⟩
      have hleft : 0 < left.length := by omega
      have lw : ws.length = i := by rw [pair_len sv3]; exact lx
      -- come
      refine ⟨_, rfl, _, rfl, l, a, ns, high, rfl, d3, h0, h1, fun c H4 c0 c1 b4 d4 => ?_⟩
      obtain ⟨z3, hl3⟩ := d3.at
      have hL4 := b4 _ _ hL3 (Ne.symm nl1)
      have hR4 := b4 _ _ hR3 (Ne.symm nl2)
      have sv4 := sv3.but hl3 b4
      refine ⟨_, rfl, .inl ⟨rfl, _, SqL.of hR4⟩, _, rfl, .inl ⟨rfl, _, SqL.of hL4⟩, _, rfl, _, rfl, L, _, rfl, .inl (SqL.of hL4), ?_⟩
      rw [List.length_map]
      refine ⟨l, a, ns, (left.length : Nat), rfl, d4, by omega, by omega, fun q H5 q0 q1 b5 d5 => ?_⟩
      obtain ⟨z4, hl4⟩ := d4.at
      have hL5 := b5 _ _ hL4 (Ne.symm nl1)
      have hR5 := b5 _ _ hR4 (Ne.symm nl2)
      have sv5 := sv4.but hl4 b5
      obtain ⟨j, rfl⟩ : ∃ j : Nat, q = (j : Int) := ⟨q.toNat, by omega⟩
      have jl : j < left.length := by omega
      obtain ⟨g, hg⟩ : ∃ g, left[j]? = some g := ⟨_, List.getElem?_eq_getElem jl⟩
      have hgm : g ∈ left := List.mem_of_getElem? hg
      refine ⟨L, _, (j : Int), j, sg g, rfl, rfl, hL5, by omega, by omega, ?_, by rw [List.getElem?_map, hg]; rfl, ?_⟩
      · rw [List.length_map]
        exact seq_nat jl
      rw [map_erase]
      have bL : But L H5 (upd H5 L (.lst ((left.eraseIdx j).map sg))) := but_upd
      have sv6 := sv5.but hL5 bL
      have d6 := d5.to nl1 aL bL
      have hR6 := bL _ _ hR5 (Ne.symm nLR)
      have hL6 : (upd H5 L (.lst ((left.eraseIdx j).map sg))) L = some (.lst ((left.eraseIdx j).map sg)) := upd_same
      have b36 : ∀ b o, H3 b = some o → b ≠ l → b ≠ L → (upd H5 L (.lst ((left.eraseIdx j).map sg))) b = some o := fun b o e n1 n2 => bL _ _ (b5 _ _ (b4 _ _ e n1) n1) n2
      generalize upd H5 L (.lst ((left.eraseIdx j).map sg)) = H6 at *
      -- the other items of the tuple
      refine ⟨_, rfl, _, rfl, _, _, rfl, rfl, _, rfl, _, rfl, l, a, ns, high, rfl, d6, h0, h1, fun t H7 t0 t1 b7 d7 => ⟨_, _, rfl, rfl, by show 3 ≤ sizeLine; decide, fun p hp => ?_⟩⟩
      obtain ⟨z6, hl6⟩ := d6.at
      have s8 : Same H7 (upd H7 p (.tup [sg g, .int c, .int (c + 1 + t)])) := same_upd hp
      have hp8 : (upd H7 p (.tup [sg g, .int c, .int (c + 1 + t)])) p = some (.tup [sg g, .int c, .int (c + 1 + t)]) := upd_same
      have hR8 := s8 _ _ (b7 _ _ hR6 (Ne.symm nl2))
      have hL8 := s8 _ _ (b7 _ _ hL6 (Ne.symm nl1))
      have d8 := d7.same s8
      have sv8 := (sv6.but hl6 b7).same s8
      have b38 : ∀ b o, H3 b = some o → b ≠ l → b ≠ L → (upd H7 p (.tup [sg g, .int c, .int (c + 1 + t)])) b = some o := fun b o e n1 n2 => s8 _ _ (b7 _ _ (b36 _ _ e n1 n2) n1)
      generalize upd H7 p (.tup [sg g, .int c, .int (c + 1 + t)]) = H8 at *
      refine ⟨R, ws, _, rfl, rfl, hR8, ?_, ?_⟩
      · rw [lw]
        have : (i : Int) < r := by omega
        exact Nat.lt_of_lt_of_le (show i < 26 by omega) (by decide)
      · have bR : But R H8 (upd H8 R (.lst (ws ++ [.ref p]))) := but_upd
        have np : p ≠ R := fun z => by
          rw [z, hR8] at hp8
          cases hp8
        refine ⟨_, _, rfl, left.eraseIdx j, ws ++ [.ref p], xs ++ [(⟨#[g]⟩, c, c + 1 + t)], fun b o e nb => ?_, d8.to nl2 aR bR, bR _ _ hL8 nLR, upd_same, ?_, by simp [lx], ?_, ln.sublist (List.eraseIdx_sublist ..), fun d hd => lr d ((List.eraseIdx_sublist ..).subset hd), rows.snoc (lr g hgm) (fun x hx => sep x hx g hgm) c0 c1 t0 t1, fun x hx d hd => ?_⟩
        · have n1 : b ≠ L := ne_of_none e hL0
          have n2 : b ≠ R := ne_of_none e hR0
          exact bR _ _ (b38 _ _ (b3 _ _ e nb) nb n1) n2
        · exact paired_append (sv8.but hR8 bR) (.cons ⟨p, rfl, bR _ _ hp8 np⟩ .nil)
        · rw [List.length_eraseIdx, if_pos jl]
          omega
        · have hdl := (List.eraseIdx_sublist left j).subset hd
          rcases List.mem_append.mp hx with q | q
          · exact sep x q d hdl
          · rw [List.mem_singleton] at q
            subst q
            refine one_ne fun z => ?_
            subst z
            obtain ⟨i2, hi2, ne2, e2⟩ := List.mem_eraseIdx_iff_getElem.mp hd
            have e3 := (List.getElem?_eq_some_iff.mp hg).2
            exact ne2 ((List.getElem_inj ln).mp (e2.trans e3.symm))
    · rintro σ H3 ⟨o5, o6, rfl, left, ws, xs, b3, d3, hL3, hR3, sv3, lx, ll, ln, lr, rows, sep⟩
      refine ⟨_, rfl, k H3 R ws xs b3 d3 hR0 hR3 sv3 ?_ rows⟩
      rw [lx]
      omega
end
end Sh1
set_option Elab.async false
set_option linter.all false
set_option maxRecDepth 100000
set_option maxHeartbeats 2000000
set_option autoImplicit false
/-! Numbers of the law of whole lifting. -/
namespace Kb
open PySem L2 Sho NdefX Shg Sh1
theorem crossed_nm (rs : List Rw) : Sh1.crossed rs = (Pq.crossed rs).map fun q => (q.1.nm, q.2.nm) := by
  show (Pq.takers rs).flatMap (fun x => (lifted rs x).map fun y => (x.nm, y.nm)) = ((Pq.takers rs).flatMap fun x => (lifted rs x).map fun y => (x, y)).map fun q => (q.1.nm, q.2.nm)
  rw [List.map_flatMap]
  congr 1
  funext x
  rw [List.map_map]
  rfl
theorem one_taker (f : Rw → List Rw) : ∀ {l : List Rw} {r : Rw}, (l.map Rw.nm).Nodup → r ∈ l → (l.flatMap fun x => (f x).map fun y => (x, y)).filter (fun q => decide (q.1.nm = r.nm)) = (f r).map fun y => (r, y)
  | x :: l, r, nd, h => by
    rw [List.map_cons, List.nodup_cons] at nd
    rw [List.flatMap_cons, List.filter_append]
    have all : ∀ z : Rw, z.nm = r.nm → ((f z).map fun y => (z, y)).filter (fun q => decide (q.1.nm = r.nm)) = (f z).map fun y => (z, y) := fun z e => List.filter_eq_self.mpr fun q hq => by
      obtain ⟨y, _, rfl⟩ := List.mem_map.mp hq
      exact decide_eq_true e
    have non : ∀ z : Rw, z.nm ≠ r.nm → ((f z).map fun y => (z, y)).filter (fun q => decide (q.1.nm = r.nm)) = [] := fun z e => List.filter_eq_nil_iff.mpr fun q hq => by
      obtain ⟨y, _, rfl⟩ := List.mem_map.mp hq
      simp [e]
    rcases List.mem_cons.mp h with rfl | h
    · rw [all _ rfl]
      have : (l.flatMap fun x => (f x).map fun y => (x, y)).filter (fun q => decide (q.1.nm = r.nm)) = [] := List.filter_eq_nil_iff.mpr fun q hq => by
        obtain ⟨z, hz, hq⟩ := List.mem_flatMap.mp hq
        obtain ⟨y, _, rfl⟩ := List.mem_map.mp hq
        have : z.nm ≠ r.nm := fun e => nd.1 (List.mem_map.mpr ⟨z, hz, e⟩)
        simp [this]
      rw [this, List.append_nil]
    · rw [non x fun e => nd.1 (List.mem_map.mpr ⟨r, h, e.symm⟩), List.nil_append]
      exact one_taker f nd.2 h
theorem takers_perm (rs : List Rw) : (Pq.takers rs).Perm rs := by
  unfold Pq.takers
  refine (sortV_perm Rw.go _).trans ((List.reverse_perm _).trans (bot_perm rs))
theorem lifts_of {rs : List Rw} {r : Rw} (nd : (rs.map Rw.nm).Nodup) (h : r ∈ rs) : (Pq.crossed rs).filter (fun q => decide (q.1.nm = r.nm)) = (lifted rs r).map fun y => (r, y) :=
  one_taker (lifted rs) ((takers_perm rs).map Rw.nm |>.nodup_iff.mpr nd) ((takers_perm rs).mem_iff.mpr h)
/-- between two ticks the pile stays -/
theorem pile_same {rs : List Rw} {t t0 : Int} (h0 : t0 ≤ t) (h : ∀ k, (∃ r ∈ rs, r.come = k ∨ r.go = k) → k ≤ t → k ≤ t0) : Pq.pileOf rs t = Pq.pileOf rs t0 := by
  unfold Pq.pileOf
  refine List.filter_congr fun r hr => ?_
  have hr : r ∈ rs := bot_mem.mp hr
  have h1 := h r.come ⟨r, hr, .inl rfl⟩
  have h2 := h r.go ⟨r, hr, .inr rfl⟩
  have e1 : decide (r.come ≤ t) = decide (r.come ≤ t0) := decide_eq_decide.mpr ⟨h1, fun z => by omega⟩
  have e2 : decide (t < r.go) = decide (t0 < r.go) := decide_eq_decide.mpr ⟨fun z => by omega, fun z => Int.lt_of_not_ge fun y => by have := h2 y; omega⟩
  rw [e1, e2]
theorem pile_none {rs : List Rw} {t : Int} (h : ∀ k, (∃ r ∈ rs, r.come = k ∨ r.go = k) → ¬ k ≤ t) : Pq.pileOf rs t = [] := by
  unfold Pq.pileOf
  refine List.filter_eq_nil_iff.mpr fun r hr => ?_
  have := h r.come ⟨r, bot_mem.mp hr, .inl rfl⟩
  simp [this]
theorem last_le {l : List Int} {t : Int} (hs : l.Pairwise (· < ·)) : ∀ k ∈ l.filter (fun k => decide (k ≤ t)), ∀ z, (l.filter fun k => decide (k ≤ t)).getLast? = some z → k ≤ z := by
  intro k hk z hz
  have hs' := hs.filter (p := fun k => decide (k ≤ t))
  generalize l.filter (fun k => decide (k ≤ t)) = m at hk hz hs'
  clear hs
  induction m with
  | nil => cases hk
  | cons x m ih =>
    cases m with
    | nil =>
      have : z = x := by simpa using hz.symm
      have : k = x := by simpa using hk
      omega
    | cons y m =>
      rw [List.getLast?_cons_cons] at hz
      rw [List.pairwise_cons] at hs'
      rcases List.mem_cons.mp hk with rfl | hk
      · exact Int.le_of_lt (hs'.1 z (List.mem_of_getLast? hz))
      · exact ih hk hz hs'.2
theorem rows_ok {high : Int} {xs : List Stay} (h : Rows high xs) (len : xs.length ≤ 24) (h0 : high ≤ 100000000) : Valid xs ∧ Short xs := by
  have one : ∀ x ∈ xs, (x.1.length ≤ 100000 ∧ x.1.cps.all (· < 0x110000) = true) ∧ okName x.1 = true := fun x hx => by
    obtain ⟨c, e, c0, c1⟩ := h.one x hx
    rw [e]
    refine ⟨⟨by show 1 ≤ 100000; decide, ?_⟩, ?_⟩
    · show (#[c].all fun x => decide (x < 0x110000)) = true
      simp
      omega
    · have l1 : ({ cps := #[c] } : Str).length = 1 := rfl
      unfold okName letter
      rw [l1]
      simp
      omega
  refine ⟨⟨by omega, h.nd, fun x hx => ?_⟩, fun x hx => (one x hx).1⟩
  obtain ⟨t0, t1, t2, t3⟩ := h.tm x hx
  have t4 := (one x hx).2
  unfold okStay okTick
  simp only [Bool.and_eq_true, decide_eq_true_eq]
  exact ⟨t4, by omega⟩
theorem guest_me : ∀ {xs : List Stay} {x : Stay}, (xs.map fun y => y.1).Nodup → x ∈ xs → guest xs x.1 = some x
  | y :: ys, x, nd, h => by
    rw [List.map_cons, List.nodup_cons] at nd
    unfold guest
    rcases List.mem_cons.mp h with e | h'
    · rw [List.find?_cons, e]
      simp
    · have ih := guest_me nd.2 h'
      unfold guest at ih
      have ne : (y.1 == x.1) = false := by
        rw [Bool.eq_false_iff]
        intro q
        exact nd.1 (List.mem_map.mpr ⟨x, h', (eq_of_beq q).symm⟩)
      rw [List.find?_cons, ne]
      exact ih
theorem nm_nodup {xs : List Stay} (h : (xs.map fun x => x.1).Nodup) : ((xs.map rw3).map Rw.nm).Nodup := by
  rw [List.map_map]
  exact h
theorem rw_nodup {xs : List Stay} (h : (xs.map fun x => x.1).Nodup) : (xs.map rw3).Nodup := by
  have := nm_nodup h
  exact (List.pairwise_map.mp this).imp fun h e => h (congrArg _ e)
end Kb
set_option Elab.async false
set_option linter.all false
set_option maxRecDepth 100000
set_option maxHeartbeats 2000000
set_option autoImplicit false
/-! Events and stays: the most guests of whom nobody crosses anybody. -/
namespace Qu
open PySem L2 Sho NdefX Shg Sh1 Gq Ck
def noRw : Rw := ⟨"", 0, 0, []⟩
def rwAt (p : List Rw) (i : Nat) : Rw := p.getD i noRw
def cr (p : List Rw) (i j : Nat) : Prop := i < j ∧ (rwAt p j).come < (rwAt p i).go ∧ (rwAt p i).go < (rwAt p j).go
/-- G pairs the events of p: C, D, where one comes and goes -/
structure Ev (p : List Rw) (G : Nat → Int) (C D : Nat → Nat) : Prop where
  cb : ∀ i, i < p.length → C i < 2 * p.length
  db : ∀ i, i < p.length → D i < 2 * p.length
  g : ∀ i, i < p.length → G (C i) = (D i : Int)
  d : ∀ i, i < p.length → G (D i) = -1
  all : ∀ j : Nat, j < 2 * p.length → (j : Int) < G j → ∃ i, i < p.length ∧ j = C i
  cc : ∀ i j, i < p.length → j < p.length → (C i < C j ↔ i < j)
  cd : ∀ i j, i < p.length → j < p.length → (C j < D i ↔ (rwAt p j).come < (rwAt p i).go)
  dd : ∀ i j, i < p.length → j < p.length → (D i < D j ↔ (rwAt p i).go < (rwAt p j).go ∨ ((rwAt p i).go = (rwAt p j).go ∧ j < i))
structure MaxP (p : List Rw) (m : Nat) : Prop where
  le : ∀ T : List Nat, T.Nodup → (∀ i ∈ T, i < p.length) → (∀ i ∈ T, ∀ j ∈ T, ¬ cr p i j) → T.length ≤ m
  ex : ∃ T : List Nat, T.Nodup ∧ (∀ i ∈ T, i < p.length) ∧ (∀ i ∈ T, ∀ j ∈ T, ¬ cr p i j) ∧ T.length = m
section
variable {p : List Rw} {G : Nat → Int} {C D : Nat → Nat}
theorem Ev.injC (e : Ev p G C D) {i j : Nat} (hi : i < p.length) (hj : j < p.length) (h : C i = C j) : i = j := by
  have h1 := e.cc i j hi hj
  have h2 := e.cc j i hj hi
  omega
theorem Ev.injD (e : Ev p G C D) {i j : Nat} (hi : i < p.length) (hj : j < p.length) (h : D i = D j) : i = j := by
  have h1 := e.dd i j hi hj
  have h2 := e.dd j i hj hi
  omega
theorem Ev.chords (e : Ev p G C D) : Chords G (2 * p.length) := ⟨fun i j hi hj h1 h2 h => by
  obtain ⟨a, ha, rfl⟩ := e.all i hi h1
  obtain ⟨b, hb, rfl⟩ := e.all j hj h2
  rw [e.g a ha, e.g b hb] at h
  rw [e.injD ha hb (by omega)], fun i j hi h1 h => by
  obtain ⟨a, ha, rfl⟩ := e.all i hi h1
  rw [e.g a ha] at h
  have : j = D a := by omega
  rw [this, e.d a ha]
  omega⟩
theorem pre_map {C : Nat → Nat} {n : Nat} : ∀ {S : List Nat}, (∀ s ∈ S, ∃ i, i < n ∧ s = C i) → ∃ T : List Nat, S = T.map C ∧ ∀ i ∈ T, i < n
  | [], _ => ⟨[], rfl, fun _ h => nomatch h⟩
  | s :: S, h => by
    obtain ⟨i, hi, rfl⟩ := h s List.mem_cons_self
    obtain ⟨T, e, hT⟩ := pre_map fun s hs => h s (List.mem_cons_of_mem _ hs)
    exact ⟨i :: T, by rw [e]; rfl, fun k hk => by
      rcases List.mem_cons.mp hk with rfl | hk
      · exact hi
      · exact hT k hk⟩
theorem Ev.most (e : Ev p G C D) (hv : ∀ i, i < p.length → (rwAt p i).come < (rwAt p i).go) : MaxP p (Mt G (2 * p.length) 0 (2 * p.length)) := by
  constructor
  · intro T nd hT nc
    have := upper e.chords (2 * p.length) 0 (2 * p.length) (T.map C) (by omega) (Nat.le_refl _) ⟨?_, ?_, ?_⟩
    · rw [List.length_map] at this
      exact this
    · refine List.pairwise_map.mpr (List.Pairwise.imp_of_mem (fun {a b} ha hb h z => h (e.injC (hT a ha) (hT b hb) z)) nd)
    · intro s hs
      obtain ⟨i, hi, rfl⟩ := List.mem_map.mp hs
      have hn := hT i hi
      rw [e.g i hn]
      have h1 := (e.cd i i hn hn).mpr (hv i hn)
      have h2 := e.db i hn
      omega
    · intro s hs t ht
      obtain ⟨i, hi, rfl⟩ := List.mem_map.mp hs
      obtain ⟨j, hj, rfl⟩ := List.mem_map.mp ht
      have hin := hT i hi
      have hjn := hT j hj
      rw [e.g i hin, e.g j hjn]
      rintro ⟨h1, h2, h3⟩
      have h1 := (e.cc i j hin hjn).mp h1
      have h2 := (e.cd i j hin hjn).mp (by omega)
      have h3 := (e.dd i j hin hjn).mp (by omega)
      refine nc i hi j hj ⟨h1, h2, ?_⟩
      omega
  · obtain ⟨S, A, l⟩ := reached (G := G) (2 * p.length) 0 (2 * p.length)
    obtain ⟨T, rfl, hT⟩ := pre_map (C := C) (n := p.length) (S := S) fun s hs => by
      have := A.bd s hs
      exact e.all s (by omega) this.2.1
    refine ⟨T, ?_, hT, ?_, by rw [← l, List.length_map]⟩
    · have := List.pairwise_map.mp A.nd
      exact this.imp fun h z => h (by rw [z])
    · rintro i hi j hj ⟨h1, h2, h3⟩
      have hin := hT i hi
      have hjn := hT j hj
      have n := A.nc (C i) (List.mem_map.mpr ⟨i, hi, rfl⟩) (C j) (List.mem_map.mpr ⟨j, hj, rfl⟩)
      rw [e.g i hin, e.g j hjn] at n
      have a1 := (e.cc i j hin hjn).mpr h1
      have a2 := (e.cd i j hin hjn).mpr h2
      have a3 := (e.dd i j hin hjn).mpr (.inl h3)
      omega
end
/-! names -/
structure Alpha (f : Str → List Str) (gs : List Str) (m : Nat) : Prop where
  le : ∀ T : List Str, T.Nodup → (∀ n ∈ T, n ∈ gs) → (∀ a ∈ T, ∀ b ∈ T, b ∉ f a) → T.length ≤ m
  ex : ∃ T : List Str, T.Nodup ∧ (∀ n ∈ T, n ∈ gs) ∧ (∀ a ∈ T, ∀ b ∈ T, b ∉ f a) ∧ T.length = m
theorem Alpha.uniq {f : Str → List Str} {gs : List Str} {m k : Nat} (h : Alpha f gs m) (h' : Alpha f gs k) : m = k := by
  obtain ⟨T, a, b, c, e⟩ := h.ex
  obtain ⟨T', a', b', c', e'⟩ := h'.ex
  have := h.le T' a' b' c'
  have := h'.le T a b c
  omega
theorem above_iff {x y : Rw} {p : List Rw} (nd : p.Nodup) (hx : x ∈ p) : y ∈ above x p ↔ ∃ i j : Nat, i < j ∧ p[i]? = some x ∧ p[j]? = some y := by
  obtain ⟨i, hi, first, e⟩ := above_ix hx
  rw [← e]
  constructor
  · intro h
    obtain ⟨k, hk⟩ := List.getElem?_of_mem h
    rw [List.getElem?_drop] at hk
    exact ⟨i, i + 1 + k, by omega, hi, hk⟩
  · rintro ⟨i', j, hij, h1, h2⟩
    have hi' : i' = i := by
      obtain ⟨l1, _⟩ := List.getElem?_eq_some_iff.mp h1
      exact (List.getElem?_inj l1 nd).mp (by rw [h1, hi])
    subst hi'
    refine List.mem_of_getElem? (i := j - (i' + 1)) ?_
    rw [List.getElem?_drop, show i' + 1 + (j - (i' + 1)) = j from by omega]
    exact h2
theorem rw_nodup' {rs : List Rw} (nd : (rs.map Rw.nm).Nodup) : rs.Nodup := (List.pairwise_map.mp nd).imp fun h z => h (by rw [z])
theorem crossed_iff {rs : List Rw} (nd : (rs.map Rw.nm).Nodup) {a b : Str} : (a, b) ∈ crossed rs ↔ ∃ i j, i < rs.length ∧ j < rs.length ∧ (rwAt (bot rs) i).nm = a ∧ (rwAt (bot rs) j).nm = b ∧ cr (bot rs) i j := by
  have nb : (bot rs).Nodup := (bot_perm rs).nodup_iff.mpr (rw_nodup' nd)
  have at_ : ∀ {i : Nat} {x : Rw}, (bot rs)[i]? = some x → i < rs.length ∧ rwAt (bot rs) i = x := fun {i x} h => by
    have := (List.getElem?_eq_some_iff.mp h).1
    rw [bot_length] at this
    refine ⟨this, ?_⟩
    unfold rwAt
    rw [List.getD_eq_getElem?_getD, h]
    rfl
  have get : ∀ {i : Nat}, i < rs.length → (bot rs)[i]? = some (rwAt (bot rs) i) := fun {i} h => by
    unfold rwAt
    rw [List.getD_eq_getElem?_getD, List.getElem?_eq_getElem (by rw [bot_length]; exact h)]
    rfl
  unfold crossed
  rw [List.mem_flatMap]
  constructor
  · rintro ⟨x, hx, h⟩
    obtain ⟨y, hy, e⟩ := List.mem_map.mp h
    cases e
    unfold lifted at hy
    obtain ⟨h1, h2⟩ := List.mem_filter.mp hy
    have hxr : x ∈ bot rs := bot_mem.mpr (Pq.takers_mem hx)
    obtain ⟨i, j, hij, e1, e2⟩ := (above_iff nb hxr).mp (List.mem_reverse.mp h1)
    obtain ⟨l1, r1⟩ := at_ e1
    obtain ⟨l2, r2⟩ := at_ e2
    unfold crosses at h2
    rw [Bool.and_eq_true, decide_eq_true_iff, decide_eq_true_iff] at h2
    refine ⟨i, j, l1, l2, by rw [r1], by rw [r2], hij, ?_⟩
    rw [r1, r2]
    exact h2
  · rintro ⟨i, j, hi, hj, rfl, rfl, hij, h1, h2⟩
    have m1 : rwAt (bot rs) i ∈ bot rs := List.mem_of_getElem? (get hi)
    refine ⟨rwAt (bot rs) i, (Kb.takers_perm rs).mem_iff.mpr (bot_mem.mp m1), List.mem_map.mpr ⟨rwAt (bot rs) j, ?_, rfl⟩⟩
    unfold lifted
    refine List.mem_filter.mpr ⟨List.mem_reverse.mpr ((above_iff nb m1).mpr ⟨i, j, hij, get hi, get hj⟩), ?_⟩
    unfold crosses
    rw [Bool.and_eq_true, decide_eq_true_iff, decide_eq_true_iff]
    exact ⟨h1, h2⟩
theorem alpha_of {rs : List Rw} (nd : (rs.map Rw.nm).Nodup) {m : Nat} (h : MaxP (bot rs) m) : Alpha (nearOf (crossed rs)) (rs.map Rw.nm) m := by
  have lb : (bot rs).length = rs.length := bot_length
  have pm := (bot_perm rs).map Rw.nm
  have ndb : ((bot rs).map Rw.nm).Nodup := pm.nodup_iff.mpr nd
  have pl : ∀ n ∈ rs.map Rw.nm, ((bot rs).map Rw.nm).idxOf n < rs.length ∧ (rwAt (bot rs) (((bot rs).map Rw.nm).idxOf n)).nm = n := fun n hn => by
    have h1 := List.idxOf_lt_length_of_mem (pm.mem_iff.mpr hn)
    have h2 := List.getElem_idxOf h1
    have h1' := h1
    rw [List.length_map] at h1'
    refine ⟨by rw [← lb]; exact h1', ?_⟩
    unfold rwAt
    rw [List.getD_eq_getElem?_getD, List.getElem?_eq_getElem h1']
    rw [List.getElem_map] at h2
    exact h2
  have nmi : ∀ i j, i < rs.length → j < rs.length → (rwAt (bot rs) i).nm = (rwAt (bot rs) j).nm → i = j := fun i j hi hj e => by
    refine (List.getElem?_inj (by rw [List.length_map, lb]; exact hi) ndb).mp ?_
    have g : ∀ k, k < rs.length → ((bot rs).map Rw.nm)[k]? = some (rwAt (bot rs) k).nm := fun k hk => by
      unfold rwAt
      rw [List.getElem?_map, List.getD_eq_getElem?_getD, List.getElem?_eq_getElem (by rw [lb]; exact hk)]
      rfl
    rw [g i hi, g j hj, e]
  have mem : ∀ i, i < rs.length → (rwAt (bot rs) i).nm ∈ rs.map Rw.nm := fun i hi => by
    refine pm.mem_iff.mp (List.mem_map.mpr ⟨_, ?_, rfl⟩)
    unfold rwAt
    rw [List.getD_eq_getElem?_getD, List.getElem?_eq_getElem (by rw [lb]; exact hi)]
    exact List.getElem_mem _
  constructor
  · intro T ndT hT nc
    have := h.le (T.map fun n => ((bot rs).map Rw.nm).idxOf n) (List.pairwise_map.mpr (List.Pairwise.imp_of_mem (fun {a b} ha hb h z => h (by rw [← (pl a (hT a ha)).2, z, (pl b (hT b hb)).2])) ndT)) (fun i hi => by
      obtain ⟨n, hn, rfl⟩ := List.mem_map.mp hi
      rw [lb]
      exact (pl n (hT n hn)).1) (fun i hi j hj c => by
      obtain ⟨a, ha, rfl⟩ := List.mem_map.mp hi
      obtain ⟨b, hb, rfl⟩ := List.mem_map.mp hj
      have pa := pl a (hT a ha)
      have pb := pl b (hT b hb)
      exact nc a ha b hb (near_iff.mpr (.inl ((crossed_iff nd).mpr ⟨_, _, pa.1, pb.1, pa.2, pb.2, c⟩))))
    rw [List.length_map] at this
    exact this
  · obtain ⟨T, ndT, hT, nc, e⟩ := h.ex
    rw [lb] at hT
    refine ⟨T.map fun i => (rwAt (bot rs) i).nm, List.pairwise_map.mpr (List.Pairwise.imp_of_mem (fun {a b} ha hb h z => h (nmi a b (hT a ha) (hT b hb) z)) ndT), fun n hn => ?_, fun a ha b hb z => ?_, by rw [List.length_map, e]⟩
    · obtain ⟨i, hi, rfl⟩ := List.mem_map.mp hn
      exact mem i (hT i hi)
    · obtain ⟨i, hi, rfl⟩ := List.mem_map.mp ha
      obtain ⟨j, hj, rfl⟩ := List.mem_map.mp hb
      rcases near_iff.mp z with z | z
      · obtain ⟨i', j', h1, h2, e1, e2, c⟩ := (crossed_iff nd).mp z
        rw [nmi i' i h1 (hT i hi) e1, nmi j' j h2 (hT j hj) e2] at c
        exact nc i hi j hj c
      · obtain ⟨i', j', h1, h2, e1, e2, c⟩ := (crossed_iff nd).mp z
        rw [nmi i' j h1 (hT j hj) e1, nmi j' i h2 (hT i hi) e2] at c
        exact nc j hj i hi c
end Qu
set_option Elab.async false
set_option linter.all false
set_option maxRecDepth 100000
set_option maxHeartbeats 2000000
set_option autoImplicit false
/-! The first of the greatest quiet lists. -/
namespace Qu
open PySem L2 Sho NdefX Shg Sh1 Gq Ck
section
variable (f : Str → List Str)
def fit (x : Str) (l : List Str) : List Str := l.filter fun m => !decide (m ∈ f x)
theorem mem_fit {x : Str} {l : List Str} {m : Str} : m ∈ fit f x l ↔ m ∈ l ∧ m ∉ f x := by
  unfold fit
  rw [List.mem_filter, Bool.not_eq_true', decide_eq_false_iff_not]
theorem fit_sub (x : Str) (l : List Str) : (fit f x l).Sublist l := List.filter_sublist
theorem fit_len (x : Str) (l : List Str) : (fit f x l).length ≤ l.length := List.length_filter_le _ _
def alN : List Str → Nat
  | [] => 0
  | x :: l => max (1 + alN (fit f x l)) (alN l)
termination_by l => l.length
decreasing_by
  · show (fit f x l).length < (x :: l).length
    have := fit_len f x l
    rw [List.length_cons]
    omega
  · show l.length < (x :: l).length
    rw [List.length_cons]
    omega
def grd : List Str → List Str
  | [] => []
  | x :: l => if alN f l ≤ 1 + alN f (fit f x l) then x :: grd (fit f x l) else grd l
termination_by l => l.length
decreasing_by
  · show (fit f x l).length < (x :: l).length
    have := fit_len f x l
    rw [List.length_cons]
    omega
  · show l.length < (x :: l).length
    rw [List.length_cons]
    omega
theorem alN_nil : alN f [] = 0 := by rw [alN]
theorem alN_cons (x : Str) (l : List Str) : alN f (x :: l) = max (1 + alN f (fit f x l)) (alN f l) := by rw [alN]
theorem grd_nil : grd f [] = [] := by rw [grd]
theorem grd_cons (x : Str) (l : List Str) : grd f (x :: l) = if alN f l ≤ 1 + alN f (fit f x l) then x :: grd f (fit f x l) else grd f l := by rw [grd]
theorem grd_len : ∀ (n : Nat) (l : List Str), l.length ≤ n → (grd f l).length = alN f l
  | _, [], _ => by rw [grd_nil, alN_nil]; rfl
  | 0, x :: l, h => by rw [List.length_cons] at h; omega
  | n + 1, x :: l, h => by
    rw [List.length_cons] at h
    rw [grd_cons, alN_cons]
    have h1 := grd_len n (fit f x l) (by have := fit_len f x l; omega)
    have h2 := grd_len n l (by omega)
    split
    · rw [List.length_cons, h1]
      omega
    · rw [h2]
      omega
theorem grd_sub : ∀ (n : Nat) (l : List Str), l.length ≤ n → (grd f l).Sublist l
  | _, [], _ => by rw [grd_nil]; exact .slnil
  | 0, x :: l, h => by rw [List.length_cons] at h; omega
  | n + 1, x :: l, h => by
    rw [List.length_cons] at h
    rw [grd_cons]
    have h1 := grd_sub n (fit f x l) (by have := fit_len f x l; omega)
    have h2 := grd_sub n l (by omega)
    split
    · exact (h1.trans (fit_sub f x l)).cons₂ x
    · exact h2.cons x
def Quiet (l : List Str) : Prop := ∀ a ∈ l, ∀ b ∈ l, b ∉ f a
variable {f}
theorem grd_quiet (irr : ∀ n, n ∉ f n) (sy : ∀ n m, m ∈ f n → n ∈ f m) : ∀ (n : Nat) (l : List Str), l.length ≤ n → Quiet f (grd f l)
  | _, [], _ => by rw [grd_nil]; exact fun _ h => nomatch h
  | 0, x :: l, h => by rw [List.length_cons] at h; omega
  | n + 1, x :: l, h => by
    rw [List.length_cons] at h
    rw [grd_cons]
    have l1 : (fit f x l).length ≤ n := by have := fit_len f x l; omega
    have h1 := grd_quiet irr sy n (fit f x l) l1
    have h2 := grd_quiet irr sy n l (by omega)
    split
    · have no : ∀ b ∈ grd f (fit f x l), b ∉ f x := fun b hb => by
        have := (List.mem_filter.mp ((grd_sub f n _ l1).mem hb)).2
        intro z
        rw [decide_eq_true z] at this
        cases this
      intro a ha b hb
      rcases List.mem_cons.mp ha with ea | ha'
      · subst ea
        rcases List.mem_cons.mp hb with eb | hb'
        · subst eb
          exact irr _
        · exact no b hb'
      · rcases List.mem_cons.mp hb with eb | hb'
        · subst eb
          exact fun z => no a ha' (sy _ _ z)
        · exact h1 a ha' b hb'
    · exact h2
theorem alN_up (sy : ∀ n m, m ∈ f n → n ∈ f m) : ∀ (n : Nat) (l : List Str), l.length ≤ n → ∀ T : List Str, T.Nodup → (∀ a ∈ T, a ∈ l) → Quiet f T → T.length ≤ alN f l
  | _, [], _, T, _, hT, _ => by
    cases T with
    | nil => exact Nat.zero_le _
    | cons a T => exact nomatch hT a List.mem_cons_self
  | 0, x :: l, h, _, _, _, _ => by rw [List.length_cons] at h; omega
  | n + 1, x :: l, h, T, nd, hT, q => by
    rw [List.length_cons] at h
    rw [alN_cons]
    by_cases hx : x ∈ T
    · have := alN_up sy n (fit f x l) (by have := fit_len f x l; omega) (T.erase x) (nd.erase x) (fun a ha => by
        have h1 := List.mem_of_mem_erase ha
        have h2 : a ≠ x := fun z => by
          subst z
          exact (List.Nodup.not_mem_erase nd) ha
        exact (mem_fit f).mpr ⟨(List.mem_cons.mp (hT a h1)).resolve_left h2, q x hx a h1⟩) fun a ha b hb => q a (List.mem_of_mem_erase ha) b (List.mem_of_mem_erase hb)
      rw [List.length_erase_of_mem hx] at this
      have := List.length_pos_of_mem hx
      omega
    · have := alN_up sy n l (by omega) T nd (fun a ha => (List.mem_cons.mp (hT a ha)).resolve_left fun z => hx (z ▸ ha)) q
      omega
theorem alpha_alN (irr : ∀ n, n ∉ f n) (sy : ∀ n m, m ∈ f n → n ∈ f m) {l : List Str} (nd : l.Nodup) : Alpha f l (alN f l) :=
  ⟨fun T n h q => alN_up sy l.length l (Nat.le_refl _) T n h q, grd f l, nd.sublist (grd_sub f l.length l (Nat.le_refl _)), fun n hn => (grd_sub f l.length l (Nat.le_refl _)).mem hn, grd_quiet irr sy l.length l (Nat.le_refl _), grd_len f l.length l (Nat.le_refl _)⟩
/-- the same number by relations that agree on l -/
theorem Alpha.congr {f f' : Str → List Str} {gs : List Str} {m : Nat} (h : Alpha f gs m) (e : ∀ a ∈ gs, ∀ b ∈ gs, (b ∈ f a ↔ b ∈ f' a)) : Alpha f' gs m := by
  constructor
  · exact fun T n hT q => h.le T n hT fun a ha b hb z => q a ha b hb ((e a (hT a ha) b (hT b hb)).mp z)
  · obtain ⟨T, n, hT, q, l⟩ := h.ex
    exact ⟨T, n, hT, fun a ha b hb z => q a ha b hb ((e a (hT a ha) b (hT b hb)).mpr z), l⟩
/-! all lists, those with the guest ahead of those without -/
def allS : List Str → List (List Str)
  | [] => [[]]
  | x :: l => (allS l).map (x :: ·) ++ allS l
def loopS (names : List Str) : List (List Str) := names.foldl (fun ls n => ls.flatMap fun s => [s ++ [n], s]) [[]]
theorem foldS : ∀ (names : List Str) (ls : List (List Str)), names.foldl (fun ls n => ls.flatMap fun s => [s ++ [n], s]) ls = ls.flatMap fun s => (allS names).map (s ++ ·)
  | [], ls => by
    show ls = _
    unfold allS
    simp
  | x :: names, ls => by
    rw [List.foldl_cons, foldS names, List.flatMap_assoc]
    congr 1
    funext s
    show [s ++ [x], s].flatMap _ = ((allS names).map (x :: ·) ++ allS names).map (s ++ ·)
    rw [List.flatMap_cons, List.flatMap_cons, List.flatMap_nil, List.append_nil, List.map_append, List.map_map]
    congr 1
    refine List.map_congr_left fun t _ => ?_
    show s ++ [x] ++ t = s ++ (x :: t)
    rw [List.append_assoc]
    rfl
theorem loop_all (names : List Str) : loopS names = allS names := by
  unfold loopS
  rw [foldS]
  simp
open Classical in
/-- the first of those longer than all before it -/
noncomputable def stepB (f : Str → List Str) (b s : List Str) : List Str := if b.length < s.length ∧ Quiet f s then s else b
theorem best_none (f : Str → List Str) : ∀ (ls : List (List Str)) (b : List Str), (∀ s ∈ ls, ¬ Quiet f s) → ls.foldl (stepB f) b = b
  | [], _, _ => rfl
  | s :: ls, b, h => by
    rw [List.foldl_cons]
    unfold stepB
    rw [if_neg fun z => h s List.mem_cons_self z.2]
    exact best_none f ls b fun t ht => h t (List.mem_cons_of_mem _ ht)
theorem best_all (irr : ∀ n, n ∉ f n) (sy : ∀ n m, m ∈ f n → n ∈ f m) : ∀ (l pre b : List Str), Quiet f pre → ((allS l).map (pre ++ ·)).foldl (stepB f) b = if b.length < pre.length + alN f (l.filter fun m => !decide (∃ a ∈ pre, m ∈ f a)) then pre ++ grd f (l.filter fun m => !decide (∃ a ∈ pre, m ∈ f a)) else b
  | [], pre, b, q => by
    show stepB f b (pre ++ []) = _
    rw [List.filter_nil, alN_nil, grd_nil, List.append_nil, Nat.add_zero]
    unfold stepB
    by_cases h : b.length < pre.length
    · rw [if_pos ⟨h, q⟩, if_pos h]
    · rw [if_neg fun z => h z.1, if_neg h]
  | x :: l, pre, b, q => by
    show (((allS l).map (x :: ·) ++ allS l).map (pre ++ ·)).foldl (stepB f) b = _
    rw [List.map_append, List.foldl_append, List.map_map]
    have e1 : ((pre ++ ·) ∘ (x :: ·)) = fun s => (pre ++ [x]) ++ s := by
      funext s
      show pre ++ (x :: s) = pre ++ [x] ++ s
      rw [List.append_assoc]
      rfl
    rw [e1]
    by_cases hx : ∃ a ∈ pre, x ∈ f a
    · rw [best_none f ((allS l).map fun s => (pre ++ [x]) ++ s) b fun s hs z => by
        obtain ⟨t, _, rfl⟩ := List.mem_map.mp hs
        obtain ⟨a, ha, h⟩ := hx
        exact z a (List.mem_append_left _ (List.mem_append_left _ ha)) x (List.mem_append_left _ (List.mem_append_right _ (List.mem_singleton.mpr rfl))) h]
      rw [List.filter_cons_of_neg (by rw [decide_eq_true hx]; decide)]
      exact best_all irr sy l pre b q
    · have qx : Quiet f (pre ++ [x]) := fun a ha b hb z => by
        rcases List.mem_append.mp ha with ha | ha
        · rcases List.mem_append.mp hb with hb | hb
          · exact q a ha b hb z
          · rw [List.mem_singleton.mp hb] at z
            exact hx ⟨a, ha, z⟩
        · rw [List.mem_singleton.mp ha] at z
          rcases List.mem_append.mp hb with hb | hb
          · exact hx ⟨b, hb, sy _ _ z⟩
          · rw [List.mem_singleton.mp hb] at z
            exact irr _ z
      rw [best_all irr sy l (pre ++ [x]) b qx, best_all irr sy l pre _ q, List.filter_cons_of_pos (by rw [decide_eq_false hx]; decide)]
      have er : l.filter (fun m => !decide (∃ a ∈ pre ++ [x], m ∈ f a)) = fit f x (l.filter fun m => !decide (∃ a ∈ pre, m ∈ f a)) := by
        unfold fit
        rw [List.filter_filter]
        refine List.filter_congr fun m _ => ?_
        rw [← Bool.not_or]
        congr 1
        rw [Bool.eq_iff_iff, Bool.or_eq_true, decide_eq_true_iff, decide_eq_true_iff, decide_eq_true_iff]
        constructor
        · rintro ⟨a, ha, h⟩
          rcases List.mem_append.mp ha with ha | ha
          · exact .inr ⟨a, ha, h⟩
          · rw [List.mem_singleton.mp ha] at h
            exact .inl h
        · rintro (h | ⟨a, ha, h⟩)
          · exact ⟨x, List.mem_append_right _ (List.mem_singleton.mpr rfl), h⟩
          · exact ⟨a, List.mem_append_left _ ha, h⟩
      rw [er]
      generalize l.filter (fun m => !decide (∃ a ∈ pre, m ∈ f a)) = R
      rw [alN_cons, grd_cons, List.length_append]
      have l1 := grd_len f _ (fit f x R) (Nat.le_refl _)
      have l2 := grd_len f _ R (Nat.le_refl _)
      show (if (if b.length < pre.length + 1 + alN f (fit f x R) then pre ++ [x] ++ grd f (fit f x R) else b).length < pre.length + alN f R then pre ++ grd f R else if b.length < pre.length + 1 + alN f (fit f x R) then pre ++ [x] ++ grd f (fit f x R) else b) = _
      by_cases c1 : alN f R ≤ 1 + alN f (fit f x R)
      · rw [if_pos c1, Nat.max_eq_left c1]
        by_cases c2 : b.length < pre.length + 1 + alN f (fit f x R)
        · rw [if_pos c2, if_neg (by rw [List.length_append, List.length_append, l1]; show ¬ (pre.length + 1 + _ < _); omega), if_pos (by omega), List.append_assoc]
          rfl
        · rw [if_neg c2, if_neg (by omega), if_neg (by omega)]
      · rw [if_neg c1, Nat.max_eq_right (by omega)]
        by_cases c2 : b.length < pre.length + 1 + alN f (fit f x R)
        · rw [if_pos c2, if_pos (by rw [List.length_append, List.length_append, l1]; show pre.length + 1 + _ < _; omega), if_pos (by omega)]
        · rw [if_neg c2]
theorem best_grd (irr : ∀ n, n ∉ f n) (sy : ∀ n m, m ∈ f n → n ∈ f m) (l : List Str) : (loopS l).foldl (stepB f) [] = grd f l := by
  have h := best_all irr sy l [] [] (fun _ h => nomatch h)
  have e : (l.filter fun m => !decide (∃ a ∈ ([] : List Str), m ∈ f a)) = l := List.filter_eq_self.mpr fun m _ => by simp
  rw [e] at h
  rw [loop_all]
  have em : (allS l).map (([] : List Str) ++ ·) = allS l := by simp
  rw [em] at h
  rw [h]
  have l2 := grd_len f _ l (Nat.le_refl _)
  by_cases c : ([] : List Str).length < ([] : List Str).length + alN f l
  · rw [if_pos c]
    rfl
  · rw [if_neg c]
    have : alN f l = 0 := by
      have : ¬ (0 < 0 + alN f l) := c
      omega
    rw [this] at l2
    exact (List.eq_nil_of_length_eq_zero l2).symm
end
end Qu
set_option Elab.async false
set_option linter.all false
set_option maxRecDepth 100000
set_option maxHeartbeats 2000000
set_option autoImplicit false
/-! Data of ints and texts in tuples and lists: equal to themselves, as deep comparison wants them. -/
namespace Shp
open PySem L2
/-- ints and texts, in tuples and lists at most n deep -/
def LeafD (d : PyData) : Prop := (∃ i, d = .int i) ∨ ∃ x : Str, d = .str x ∧ x.cps.all (· < 0x110000) = true
def PlainD : Nat → PyData → Prop
  | 0, d => LeafD d
  | n + 1, d => LeafD d ∨ (∃ ds, d = .tuple ds ∧ ∀ e ∈ ds, PlainD n e) ∨ ∃ ds, d = .list ds ∧ ∀ e ∈ ds, PlainD n e
theorem plain_int (i : Int) : ∀ n, PlainD n (.int i)
  | 0 => .inl ⟨i, rfl⟩
  | _ + 1 => .inl (.inl ⟨i, rfl⟩)
theorem plain_str {x : Str} (h : x.cps.all (· < 0x110000) = true) : ∀ n, PlainD n (.str x)
  | 0 => .inr ⟨x, rfl, h⟩
  | _ + 1 => .inl (.inr ⟨x, rfl, h⟩)
theorem plain_tup {n : Nat} {ds : List PyData} (h : ∀ e ∈ ds, PlainD n e) : PlainD (n + 1) (.tuple ds) := .inr (.inl ⟨ds, rfl, h⟩)
theorem plain_lst {n : Nat} {ds : List PyData} (h : ∀ e ∈ ds, PlainD n e) : PlainD (n + 1) (.list ds) := .inr (.inr ⟨ds, rfl, h⟩)
theorem plain_ints {n : Nat} (xs : List Int) : PlainD (n + 1) (.list (xs.map PyData.int)) := plain_lst fun e he => by
  obtain ⟨i, _, rfl⟩ := List.mem_map.mp he
  exact plain_int i n
theorem lay_all : ∀ {ds : List PyData}, (∀ d ∈ ds, PyData.canLay0 d = true) → PyData.canLayAll0 ds = true
  | [], _ => rfl
  | d :: ds, h => by
    show (PyData.canLay0 d && PyData.canLayAll0 ds) = true
    rw [h d List.mem_cons_self, lay_all fun e he => h e (List.mem_cons_of_mem _ he)]
    rfl
theorem dep_all {n : Nat} : ∀ {ds : List PyData}, (∀ d ∈ ds, PyData.depth d ≤ n) → PyData.depthAll ds ≤ n
  | [], _ => Nat.zero_le _
  | d :: ds, h => by
    show max (PyData.depth d) (PyData.depthAll ds) ≤ n
    have := h d List.mem_cons_self
    have := dep_all fun e he => h e (List.mem_cons_of_mem d he)
    omega
theorem eqv_all : ∀ {ds : List PyData}, (∀ d ∈ ds, PyData.eqv d d = true) → PyData.eqvAll ds ds = true
  | [], _ => rfl
  | d :: ds, h => by
    show (PyData.eqv d d && PyData.eqvAll ds ds) = true
    rw [h d List.mem_cons_self, eqv_all fun e he => h e (List.mem_cons_of_mem _ he)]
    rfl
theorem leaf_ok {d : PyData} (h : LeafD d) : PyData.canLay0 d = true ∧ PyData.depth d ≤ 0 ∧ PyData.eqv d d = true := by
  rcases h with ⟨i, rfl⟩ | ⟨x, rfl, hx⟩
  · exact ⟨rfl, Nat.le_refl _, by show (i == i) = true; simp⟩
  · exact ⟨hx, Nat.le_refl _, by show (x == x) = true; simp⟩
theorem plain_ok : ∀ {n : Nat} {d : PyData}, PlainD n d → PyData.canLay0 d = true ∧ PyData.depth d ≤ n ∧ PyData.eqv d d = true
  | 0, d, h => leaf_ok h
  | n + 1, d, h => by
    rcases h with h | ⟨ds, rfl, h⟩ | ⟨ds, rfl, h⟩
    · obtain ⟨a, b, c⟩ := leaf_ok h
      exact ⟨a, by omega, c⟩
    · refine ⟨lay_all fun e he => (plain_ok (h e he)).1, ?_, eqv_all fun e he => (plain_ok (h e he)).2.2⟩
      show PyData.depthAll ds + 1 ≤ n + 1
      have := dep_all fun e he => (plain_ok (h e he)).2.1
      omega
    · refine ⟨lay_all fun e he => (plain_ok (h e he)).1, ?_, eqv_all fun e he => (plain_ok (h e he)).2.2⟩
      show PyData.depthAll ds + 1 ≤ n + 1
      have := dep_all fun e he => (plain_ok (h e he)).2.1
      omega
theorem plain_shaped {n : Nat} {d : PyData} (h : PlainD n d) (hn : n ≤ 64 := by decide) : SeqAt.shaped d = true := by
  obtain ⟨a, b, _⟩ := plain_ok h
  unfold SeqAt.shaped
  rw [a, decide_eq_true (by omega : PyData.depth d ≤ 64)]
  rfl
theorem plain_refl {n : Nat} {d : PyData} (h : PlainD n d) : PyData.eqv d d = true := (plain_ok h).2.2
theorem nil_shaped : SeqAt.shaped (.list []) = true := rfl
theorem eqv_nil (ds : List PyData) : PyData.eqv (.list ds) (.list []) = ds.isEmpty := by
  cases ds <;> rfl
theorem dp_ints {K : PySem.W.Frag} {H : Hp} : ∀ xs : List Int, DpAll K H (xs.map V.int) (xs.map PyData.int)
  | [] => .nil
  | x :: xs => .cons (.int x) (dp_ints xs)
theorem dp_strs {K : PySem.W.Frag} {H : Hp} : ∀ xs : List Str, DpAll K H (xs.map V.str) (xs.map PyData.str)
  | [] => .nil
  | x :: xs => .cons (.str x) (dp_strs xs)
/-- items that are told one by one -/
theorem dp_of {α : Type} {K : PySem.W.Frag} {H : Hp} {R : V → α → Prop} {f : α → PyData} (each : ∀ v x, R v x → Dp K H v (f x)) : ∀ {ws : List V} {xs : List α}, PySem.Paired R ws xs → DpAll K H ws (xs.map f)
  | _, _, .nil => .nil
  | _, _, .cons h r => .cons (each _ _ h) (dp_of each r)
end Shp
set_option Elab.async false
set_option linter.all false
set_option maxRecDepth 100000
set_option maxHeartbeats 2000000
set_option autoImplicit false
/-! A comprehension whose test never holds. -/
namespace Shg
open PySem L2
theorem lc_never {J : It} {n : Nat} {G : Hp → Prop} {Y : Nat → Hp → V → Hp → Prop} (w : Walk J n G Y) {g : TG} {tt : TT} {te : TE} {vs : List Nat} {σ : L2.St} {H1 : Hp} {D : Addr} {Qd : Hp → Prop} (hD : H1 D = none)
    (hG : ∀ H, Same H1 H → G H)
    (hs : ∀ i x H H', i < n → Same H1 H → Y i H x H' → ∀ R : L2.St → Bool → Hp → Prop, (∀ σ2 H4, Same H H4 → R σ2 false H4) →
      g x (wipe σ vs) H' fun σ2 H2 => wipe σ2 vs = wipe σ vs ∧ tt σ2 H2 (R σ2))
    (hd : ∀ H, Same H1 H → H D = some (.lst []) → Qd H) :
    ∃ W : Nat → Nat → Hp → Prop, (∃ m, W 0 m (upd H1 D (.lst []))) ∧ ∀ i m H, W i m H →
      (J.stop i H ∧ Qd H) ∨ (J.go i H ∧ ∃ Nx : Hp → Prop, (∀ H', Nx H' → ∃ m', m' < m ∧ W (i + 1) m' H') ∧ ∀ x H', J.yld i H x H' → g x (wipe σ vs) H' fun σ2 H2 => wipe σ2 vs = wipe σ vs ∧ tt σ2 H2 fun b H3 =>
        if b = true then te σ2 H3 fun y H4 => ∃ acc, H4 D = some (.lst acc) ∧ acc.length < sizeLine ∧ Nx (upd H4 D (.lst (acc ++ [y]))) else Nx H3) := by
  have s0 : Same H1 (upd H1 D (.lst [])) := fun b u e => by rw [upd_ne (ne_of_none e hD)]; exact e
  refine loop_any w (fun i H => Same H1 H ∧ H D = some (.lst [])) ⟨s0, upd_same⟩ (fun i H _ z => hG H z.1) (fun i x H H' hi z y => ?_) fun H z => hd H z.1 z.2
  refine hs i x H H' hi z.1 y (fun σ2 b H3 => if b = true then te σ2 H3 fun y H4 => ∃ acc, H4 D = some (.lst acc) ∧ acc.length < sizeLine ∧ Same H1 (upd H4 D (.lst (acc ++ [y]))) ∧ (upd H4 D (.lst (acc ++ [y]))) D = some (.lst []) else Same H1 H3 ∧ H3 D = some (.lst [])) fun σ2 H4 s4 => ?_
  rw [if_neg Bool.false_ne_true]
  exact ⟨z.1.trans s4, s4 _ _ z.2⟩
end Shg
set_option Elab.async false
set_option linter.all false
set_option maxRecDepth 100000
set_option maxHeartbeats 2000000
set_option autoImplicit false
/-! The state of the draws (K1j0) with the tables of code, through what changes beside it. -/
namespace Dw
open PySem L2 Sho NdefX Shg Sh1
structure St (K : PySem.W.Frag) (T : List (Addr × Str)) (l a : Addr) (ns : List Int) (H : Hp) : Prop where
  d : DrawSt K H l a ns
  t : LamX.Tabs T H
section
variable {K : PySem.W.Frag} {T : List (Addr × Str)} {l a : Addr} {ns : List Int} {H H' H0 H1 : Hp}
theorem ne_at {b c : Addr} {H : Hp} {o u : HO} (h1 : H b = some o) (h2 : H c = some u) (n : u ≠ o) : c ≠ b := fun z => by
  rw [z, h1] at h2
  exact n (Option.some.inj h2).symm
theorem tabs_b {l : Addr} {H H' : Hp} {zs : List V} {T : List (Addr × Str)} (hl : H l = some (.lst zs)) (e : But l H H') (t : LamX.Tabs T H) : LamX.Tabs T H' := fun p hp => by
  obtain ⟨qs, q1, q2, q3⟩ := t p hp
  refine ⟨qs, e _ _ q1 (ne_at hl q1 fun z => nomatch z), q2, fun p' cv h => ?_⟩
  obtain ⟨c, e1, e2⟩ := q3 p' cv h
  exact ⟨c, e1, e _ _ e2 (ne_at hl e2 fun z => nomatch z)⟩
theorem sql_e {a : Addr} {xs : List V} (e : LamX.ExtN H H') (h : SqL K H a xs) : SqL K H' a xs := by
  rcases h with (h | ⟨o, h⟩) | h
  · exact .inl (.inl (e _ _ h fun _ z => nomatch z))
  · exact .inl (.inr ⟨o, e _ _ h fun _ z => nomatch z⟩)
  · exact .inr h
theorem draw_ext (d : DrawSt K H l a ns) (e : LamX.ExtN H H') : DrawSt K H' l a ns := by
  obtain ⟨⟨p, s, r, h, k⟩, sc, len⟩ := d
  exact ⟨⟨p, s, r, e _ _ h (fun _ z => nomatch z), k⟩, sql_e e sc, len⟩
theorem draw_at (d : DrawSt K H l a ns) : ∃ zs, H l = some (.lst zs) := by
  obtain ⟨⟨_, _, _, h, _⟩, _, _⟩ := d
  exact ⟨_, h⟩
theorem St.at (s : St K T l a ns H) : ∃ zs, H l = some (.lst zs) := draw_at s.d
theorem St.grows (s : St K T l a ns H) (g : Grows T H H') : St K T l a ns H' := ⟨draw_ext s.d g.ext, g.tab s.t⟩
theorem St.same (s : St K T l a ns H) (e : Same H H') : St K T l a ns H' := ⟨draw_ext s.d (LamX.ExtN.of e), LamX.Tabs.ext s.t e⟩
theorem St.draw (s : St K T l a ns H) (b : But l H H') (d : DrawSt K H' l a ns) : St K T l a ns H' := by
  obtain ⟨zs, hl⟩ := s.at
  exact ⟨d, tabs_b hl b s.t⟩
theorem St.ne (s : St K T l a ns H) {p : Addr} (h : H p = none) : p ≠ l := by
  obtain ⟨zs, hl⟩ := s.at
  exact fun z => by rw [z, hl] at h; cases h
theorem but_upd0 {p : Addr} {o : HO} (b : But l H0 H1) (h : H0 p = none) : But l H0 (upd H1 p o) := fun c u e n => by
  rw [upd_ne (ne_of_none e h)]
  exact b c u e n
theorem but_same (b : But l H0 H1) (s : Same H1 H') : But l H0 H' := b.trans (But.of s)
theorem draw_upd {p : Addr} {o : HO} (s : St K T l a ns H0) (b : But l H0 H1) (d : DrawSt K H1 l a ns) (h : H0 p = none) : DrawSt K (upd H1 p o) l a ns := by
  obtain ⟨⟨p', s', r, e, k⟩, sc, len⟩ := id d
  obtain ⟨⟨_, _, _, e0, _⟩, sc0, _⟩ := s.d
  exact ⟨⟨p', s', r, by rw [upd_ne (Ne.symm (s.ne h))]; exact e, k⟩, sql_but e0 sc0 (but_upd0 b h), len⟩
theorem St.to {p : Addr} {o : HO} (s : St K T l a ns H0) (b : But l H0 H1) (d : DrawSt K H1 l a ns) (h : H0 p = none) : St K T l a ns (upd H1 p o) :=
  s.draw (but_upd0 b h) (draw_upd s b d h)
theorem at_mem {xs : List V} {r : Int} (h0 : 0 ≤ r) (h1 : r < xs.length) : ∃ z, z ∈ xs ∧ atI xs r = some z := by
  obtain ⟨k, rfl⟩ : ∃ k : Nat, r = k := ⟨r.toNat, by omega⟩
  have lt : k < xs.length := by omega
  exact ⟨xs[k], List.getElem_mem lt, atI_nat (List.getElem?_eq_getElem lt)⟩
theorem ifs_join {c : TT} {A B u : TS} {D : Ends} {σ : L2.St} {H : Hp} (P : L2.St → Hp → Prop) (h1 : ∀ N : L2.St → Hp → Prop, (∀ σ' H', P σ' H' → N σ' H') → c σ H fun b H1 => if b = true then A { D with nx := N } σ H1 else B { D with nx := N } σ H1) (h2 : ∀ σ' H', P σ' H' → u D σ' H') : tSeq (tIfS c A B) u D σ H := h1 _ h2
end
end Dw
namespace Shg
open PySem
theorem pair_take {α β : Type} {R : α → β → Prop} : ∀ {as : List α} {bs : List β} (k : Nat), PySem.Paired R as bs → PySem.Paired R (as.take k) (bs.take k)
  | _, _, k, .nil => by rw [List.take_nil, List.take_nil]; exact .nil
  | _, _, 0, .cons _ _ => .nil
  | _, _, k + 1, .cons h r => .cons h (pair_take k r)
theorem pair_drop {α β : Type} {R : α → β → Prop} : ∀ {as : List α} {bs : List β} (k : Nat), PySem.Paired R as bs → PySem.Paired R (as.drop k) (bs.drop k)
  | _, _, k, .nil => by rw [List.drop_nil, List.drop_nil]; exact .nil
  | _, _, 0, .cons h r => .cons h r
  | _, _, k + 1, .cons _ r => pair_drop k r
end Shg
set_option Elab.async false
set_option linter.all false
set_option maxRecDepth 100000
set_option maxHeartbeats 8000000
set_option autoImplicit false
/-! _law_is_quiet. -/
namespace Qu
open PySem L2 Sho NdefX Shg Sh1 Gq Ck
abbrev NQl1 : List Str := ["_law_near", "_law_some", "_law_name", "_law_one"]
def quietB (f : Str → List Str) (l : List Str) : Bool := l.all fun a => (f a).all fun b => !decide (b ∈ l)
theorem quiet_iff {f : Str → List Str} {l : List Str} : quietB f l = true ↔ Quiet f l := by
  unfold quietB Quiet
  rw [List.all_eq_true]
  constructor
  · intro h a ha b hb z
    have := List.all_eq_true.mp (h a ha) b z
    rw [decide_eq_true hb] at this
    cases this
  · intro h a ha
    rw [List.all_eq_true]
    intro b hb
    rw [decide_eq_false fun z => h a ha b z hb]
    rfl
section
variable {P : Program} {w : World} {K : PySem.W.Frag} {mg : Str → Option Value} {base : Heap}
def spIsQuiet (K : PySem.W.Frag) : Sp := fun vs H Q _ => ∃ (D S : Addr) (kvs : List (Key × V)) (gs l : List Str) (f : Str → List Str), vs = [.ref D, .ref S] ∧ H D = some (.dK kvs) ∧ NearK H kvs gs f ∧ SqL K H S (l.map V.str) ∧ (∀ n ∈ l, n ∈ gs) ∧ l.length ≤ 1000 ∧ (∀ n ∈ gs, n.cps.all (· < 0x110000) = true) ∧ (∀ n ∈ gs, (f n).length ≤ 2000) ∧
  ∀ H', Same H H' → Q (.bl (quietB f l)) H'
theorem scQl1 : FnScope NQl1 ["_law_near", "_law_some"] (defScope sLawIsQuiet) := ⟨rfl, rfl, rfl, by decide +kernel, rfl, by decide +kernel, by decide +kernel⟩
theorem ok_isQuiet {f : Addr} {fd : FuncData} (F : Fun K "_law_is_quiet" "_law_is_quiet" sLawIsQuiet f fd) : FnOk P w K mg base CX0 1 f fd ["_law_near", "_law_some"] (spIsQuiet K) := by
  refine F.ok scQl1 (fun vs H Q E h => ?_) (fun cdv A outer s H vs Q E hr h => ?_)
  · obtain ⟨D, S, kvs, gs, l, f, rfl, _⟩ := h
    rfl
  obtain ⟨D, S, kvs, gs, l, f, rfl, eD, nk, hS, sub, ll, okG, fl, k⟩ := h
  have nd := scQl1.nd
  refine ⟨_, (pss_one (ps_ret (pe_cmpR (op_eqD hr.units) (pe_lc (own := [("_law_name", 2)]) (g := gName 2) (tt := tTest (tOp (rNeD K) (tLc (iList K (tDGet (tVar 0) (tVar 2))) (gName 3) (tTest (tOp (rIn K false) (tVar 3) (tVar 1))) (tVar 3) [3]) (tLst tNil))) (te := tVar 2) rfl nd (pi_list (pv 1)) (blkOk_by (own := [("_law_name", 2)]) (N := NQl1) (sc := defScope sLawIsQuiet) (by decide +kernel))
        (fun _ _ _ _ _ => (pg_name (i := 2) nd rfl (Or.inl rfl))) (fun _ _ _ _ _ => pts_one (pt_cmpR (op_neD hr.units) (pe_lc (own := [("_law_one", 3)]) (g := gName 3) (tt := tTest (tOp (rIn K false) (tVar 3) (tVar 1))) (te := tVar 3) rfl nd (pi_list (pe_dget (units1 hr) (pv 0) (pv 2) (fun _ _ => rfl))) (blkOk_by (by rfl))
        (fun _ _ _ _ _ => (pg_name (i := 3) nd rfl (Or.inl rfl))) (fun _ _ _ _ _ => pts_one (pt_cmpR op_in_seq (pv 3) (pv 1) rfl)) (fun _ _ _ _ _ => (pv 3))) (pe_lst pa_nil) (nomark _))) (fun _ _ _ _ _ => (pv 2))) (pe_lst pa_nil) (nomark _)))), ?_⟩
  have qS : ∀ {H' : Hp}, Same H H' → SqL K H' S (l.map V.str) := fun s => Dw.sql_e (LamX.ExtN.of s) hS
  refine ⟨_, rfl, S, rfl, ⟨_, hS⟩, fun D0 hD0 => ?_⟩
  refine lc_gather walk_list (fun j => (l[j]?).bind fun a => if (!(f a).all fun b => !decide (b ∈ l)) = true then some (.str a) else none) hD0 (by rw [List.length_map]; exact Nat.le_trans ll (by decide)) (fun HA sA => qS sA) (fun j v HA H' hj sA yy Rr k1 => ?_) fun HA sA eA => ?_
  · obtain ⟨rfl, e2⟩ := yy
    rw [List.getElem?_map] at e2
    obtain ⟨a, ha, rfl⟩ := Option.map_eq_some_iff.mp e2
    have hag := sub a (List.mem_of_getElem? ha)
    obtain ⟨La, _, _, _, _, _, vLa, eLa⟩ := near_get (near_same nk sA) hag
    refine ⟨rfl, _, rfl, _, rfl, D, .ref La, rfl, ?_, La, rfl, ⟨_, SqL.of eLa⟩, fun D1 hD1 => ?_⟩
    · rw [← vLa]
      exact DGet.k (k := Sum.inr a) (sA _ _ eD)
    refine lc_gather walk_list (fun j => ((f a)[j]?).bind fun b => if decide (b ∈ l) = true then some (.str b) else none) hD1 (by rw [List.length_map]; exact Nat.le_trans (fl a hag) (by decide)) (fun HB sB => SqL.of (sB _ _ eLa)) (fun j' v' HB HB' hj' sB yy' Rr' k2 => ?_) fun HB sB eB => ?_
    · obtain ⟨rfl, e3⟩ := yy'
      rw [List.getElem?_map] at e3
      obtain ⟨b, hb, rfl⟩ := Option.map_eq_some_iff.mp e3
      have k3 := k2 _ (Same.refl _)
      rw [hb] at k3
      have k4 : Rr' (if decide (b ∈ l) = true then some (V.str b) else none) _ := k3
      refine ⟨rfl, _, rfl, _, rfl, S, _, rfl, .inl (qS (sA.trans sB)), rfl, Sh1.flat_strs _, _, rfl, ?_⟩
      have ei : inV (.str b) (l.map V.str) = decide (b ∈ l) := by
        rw [Sh1.inV_strs, Bool.eq_iff_iff, decide_eq_true_iff]
        exact any_mem
      refine ite2 (fun q => ?_) (fun q => ?_)
      · rw [if_pos (ei.symm.trans q)] at k4
        exact ⟨_, rfl, k4⟩
      · rw [if_neg fun z => q (ei.trans z)] at k4
        exact k4
    · rw [List.length_map, gather_filter] at eB
      have plB : Shp.PlainD 1 (.list (((f a).filter fun b => decide (b ∈ l)).map PyData.str)) := Shp.plain_lst fun d hd => by
        obtain ⟨z, hz, rfl⟩ := List.mem_map.mp hd
        exact Shp.plain_str (okG z (sub z (of_decide_eq_true (List.mem_filter.mp hz).2))) 0
      refine ⟨Nat.zero_le _, fun p0 hp0 => ?_⟩
      have sC := Shg.same_upd (o := .lst []) hp0
      refine ⟨.list (((f a).filter fun b => decide (b ∈ l)).map PyData.str), .list [], .lst (SqL.of (sC _ _ eB)) (Shp.dp_strs _), .lst (SqL.of upd_same) .nil, Shp.plain_shaped plB, Shp.nil_shaped, _, rfl, ?_⟩
      rw [Shp.eqv_nil]
      have k3 := k1 _ (sB.trans sC)
      rw [ha] at k3
      have k4 : Rr (if (!(f a).all fun b => !decide (b ∈ l)) = true then some (V.str a) else none) _ := k3
      have ee : (!(((f a).filter fun b => decide (b ∈ l)).map PyData.str).isEmpty) = !(f a).all fun b => !decide (b ∈ l) := by
        congr 1
        rw [Bool.eq_iff_iff, List.isEmpty_iff, List.map_eq_nil_iff, List.filter_eq_nil_iff, List.all_eq_true]
        simp
      rw [ee]
      refine ite2 (fun q => ?_) (fun q => ?_)
      · rw [if_pos q] at k4
        exact ⟨_, rfl, k4⟩
      · rw [if_neg q] at k4
        exact k4
  · rw [List.length_map, gather_filter] at eA
    have plA : Shp.PlainD 1 (.list ((l.filter fun a => !(f a).all fun b => !decide (b ∈ l)).map PyData.str)) := Shp.plain_lst fun d hd => by
      obtain ⟨z, hz, rfl⟩ := List.mem_map.mp hd
      exact Shp.plain_str (okG z (sub z (List.mem_filter.mp hz).1)) 0
    refine ⟨Nat.zero_le _, fun p0 hp0 => ?_⟩
    have sC := Shg.same_upd (o := .lst []) hp0
    refine ⟨.list ((l.filter fun a => !(f a).all fun b => !decide (b ∈ l)).map PyData.str), .list [], .lst (SqL.of (sC _ _ eA)) (Shp.dp_strs _), .lst (SqL.of upd_same) .nil, Shp.plain_shaped plA, Shp.nil_shaped, ?_⟩
    rw [Shp.eqv_nil]
    have ee : ((l.filter fun a => !(f a).all fun b => !decide (b ∈ l)).map PyData.str).isEmpty = quietB f l := by
      rw [Bool.eq_iff_iff, List.isEmpty_iff, List.map_eq_nil_iff, List.filter_eq_nil_iff]
      unfold quietB
      rw [List.all_eq_true]
      simp
    rw [ee]
    exact k _ (sA.trans sC)
end
end Qu
set_option Elab.async false
set_option linter.all false
set_option maxRecDepth 100000
set_option maxHeartbeats 8000000
set_option autoImplicit false
/-! _law_greatest. -/
namespace Qu
open PySem L2 Sho NdefX Shg Sh1 Gq Ck
abbrev NQl2 : List Str := ["_law_near", "_law_names", "_law_best", "_law_lists", "_law_name", "_law_longer", "_law_some"]
theorem all_sub : ∀ {l s : List Str}, s ∈ allS l → s.Sublist l
  | [], s, h => by
    rw [List.mem_singleton.mp h]
    exact .slnil
  | x :: l, s, h => by
    rcases List.mem_append.mp h with h | h
    · obtain ⟨t, ht, rfl⟩ := List.mem_map.mp h
      exact (all_sub ht).cons_cons x
    · exact (all_sub h).cons x
theorem all_len : ∀ l : List Str, (allS l).length = 2 ^ l.length
  | [] => rfl
  | x :: l => by
    show ((allS l).map (x :: ·) ++ allS l).length = _
    rw [List.length_append, List.length_map, all_len l, List.length_cons, Nat.pow_succ]
    omega
theorem loop_snoc (l : List Str) (n : Str) : loopS (l ++ [n]) = (loopS l).flatMap fun s => [s ++ [n], s] := by
  unfold loopS
  rw [List.foldl_append]
  rfl
section
variable {P : Program} {w : World} {K : PySem.W.Frag} {mg : Str → Option Value} {base : Heap}
def spGreatest (K : PySem.W.Frag) : Sp := fun vs H Q _ => ∃ (D L : Addr) (kvs : List (Key × V)) (gs : List Str) (f : Str → List Str), vs = [.ref D, .ref L] ∧ H D = some (.dK kvs) ∧ NearK H kvs gs f ∧ SqL K H L (gs.map V.str) ∧ gs.length ≤ 9 ∧ (∀ n ∈ gs, n.cps.all (· < 0x110000) = true) ∧ (∀ n ∈ gs, (f n).length ≤ 1000) ∧ (∀ n, n ∉ f n) ∧ (∀ n m, m ∈ f n → n ∈ f m) ∧
  ∀ (a : Addr) H', Same H H' → H' a = some (.lst ((grd f gs).map V.str)) → Q (.ref a) H'
theorem scQl2 : FnScope NQl2 ["_law_near", "_law_names"] (defScope sLawGreatest) := ⟨rfl, rfl, rfl, by decide +kernel, rfl, by decide +kernel, by decide +kernel⟩
def StrsAt (H : Hp) (as : List Addr) (ls : List (List Str)) : Prop := PySem.Paired (fun a (l : List Str) => H a = some (.lst (l.map V.str))) as ls
theorem StrsAt.same {H H' : Hp} {as : List Addr} {ls : List (List Str)} (h : StrsAt H as ls) (s : Same H H') : StrsAt H' as ls := Shg.pair_mono (fun _ _ e => s _ _ e) h
theorem ok_greatest {f fD : Addr} {fd fdD : FuncData} (F : Fun K "_law_greatest" "_law_greatest" sLawGreatest f fd) (B : Shg.Blt mg) (GD : FnOk P w K mg base CX0 1 fD fdD ["_law_near", "_law_some"] (spIsQuiet K)) (mD : mg "_law_is_quiet" = some (.ref fD)) (kD : PySem.W.keepIn K (.ref fD) = true) (bD : Binds K fdD ["_law_near", "_law_some"] []) : FnOk P w K mg base CX0 2 f fd ["_law_near", "_law_names"] (spGreatest K) := by
  refine F.ok scQl2 (fun vs H Q E h => ?_) (fun cdv A outer s H vs Q E hr h => ?_)
  · obtain ⟨D, L, kvs, gs, f, rfl, _⟩ := h
    rfl
  obtain ⟨D, L, kvs, gs, f, rfl, eD, nk, hL, gl, okG, fl, irr, sy, k⟩ := h
  have nd := scQl2.nd
  refine ⟨_, (pss_cons (ps_par (i := 2) (j := 3) rfl nd rfl rfl (by decide) rfl rfl (pa_cons (pe_lst pa_nil) (pa_cons (pe_lst (pa_cons (pe_lst pa_nil) pa_nil)) pa_nil)) (by rfl))
      (pss_cons (ps_for PassesOwn.never rfl (pi_list (pv 1)) (pg_name (i := 4) nd rfl (Or.inl rfl)) (pss_cons (ps_set (i := 5) nd rfl (Or.inl rfl) (pe_lst pa_nil))
      (pss_cons (ps_for PassesOwn.never rfl (pi_list (pv 3)) (pg_name (i := 6) nd rfl (Or.inl rfl)) (pss_one (ps_set (i := 5) nd rfl (Or.inl rfl) (pe_op op_cat (pv 5) (pe_lst (pa_cons (pe_op op_cat (pv 6) (pe_lst (pa_cons (pv 4) pa_nil))) (pa_cons (pv 6) pa_nil)))))))
      (pss_one (ps_set (i := 3) nd rfl (Or.inl rfl) (pv 5))))))
      (pss_cons (ps_for PassesOwn.never rfl (pi_list (pv 3)) (pg_name (i := 6) nd rfl (Or.inl rfl)) (pss_one (ps_if (PW.pt (pw_and (pt_cmpR op_gt (pe_callB call_len_seq (by rfl) B.len PySem.boot_len (pa_cons (pv 6) pa_nil)) (pe_callB call_len_seq (by rfl) B.len PySem.boot_len (pa_cons (pv 2) pa_nil)) (nomark _)) (pw_and1 (pt_val (pe_call GD (hr.mono (by decide)) rfl mD kD bD .nil pass0 (pa_cons (pv 0) (pa_cons (pv 6) pa_nil))))))) (pss_one (ps_set (i := 2) nd rfl (Or.inl rfl) (pv 6))) pss_nil)))
      (pss_one (ps_ret (pv 2)))))), ?_⟩
  have z4 : (4000 : Nat) ≤ sizeLine := by decide
  refine ⟨Nat.zero_le _, fun b0 hb0 => ⟨Nat.zero_le _, fun p0 hp0 => ⟨by show 1 ≤ sizeLine; decide, fun Ls0 hLs0 => ?_⟩⟩⟩
  have s1 := Shg.same_upd (o := .lst []) hb0
  have s2 := Shg.same_upd (o := .lst []) hp0
  have s3 := Shg.same_upd (o := .lst [V.ref p0]) hLs0
  have eb : upd (upd (upd H b0 (.lst [])) p0 (.lst [])) Ls0 (.lst [V.ref p0]) b0 = some (.lst []) := s3 _ _ (s2 _ _ upd_same)
  have ep : upd (upd (upd H b0 (.lst [])) p0 (.lst [])) Ls0 (.lst [V.ref p0]) p0 = some (.lst []) := s3 _ _ upd_same
  have eL : upd (upd (upd H b0 (.lst [])) p0 (.lst [])) Ls0 (.lst [V.ref p0]) Ls0 = some (.lst [V.ref p0]) := upd_same
  have s4 := (s1.trans s2).trans s3
  generalize upd (upd (upd H b0 (.lst [])) p0 (.lst [])) Ls0 (.lst [V.ref p0]) = H3 at s4 eb ep eL ⊢
  clear s1 s2 s3
  refine ⟨_, _, rfl, ?_⟩
  refine ⟨_, rfl, L, rfl, ⟨_, Dw.sql_e (LamX.ExtN.of s4) hL⟩, for_it (walk_list (K := K) (a := L) (xs := gs.map V.str)) (fun j σ H' => ∃ o4 o5 o6 Ls as, σ = [some (.ref D), some (.ref L), some (.ref b0), some (.ref Ls), o4, o5, o6] ∧ Same H3 H' ∧ H' Ls = some (.lst (as.map V.ref)) ∧ StrsAt H' as (loopS (gs.take j)))
    ⟨none, none, none, Ls0, [p0], rfl, Same.refl _, eL, .cons ep .nil⟩ (fun j σ H' _ ⟨_, _, _, _, _, _, s, _⟩ => Dw.sql_e (LamX.ExtN.of (s4.trans s)) hL) ?_ ?_⟩
  · rintro j v σ H4 H5 hj ⟨o4, o5, o6, Ls, as, rfl, s5, eLs, pr⟩ ⟨rfl, ev⟩
    rw [List.length_map] at hj
    rw [List.getElem?_map] at ev
    obtain ⟨n, hn, rfl⟩ := Option.map_eq_some_iff.mp ev
    refine name_at ?_
    refine ⟨Nat.zero_le _, fun Lg hLg => ?_⟩
    have s6 := Shg.same_upd (o := .lst []) hLg
    have eLg : upd H5 Lg (.lst []) Lg = some (.lst []) := upd_same
    generalize upd H5 Lg (.lst []) = H6 at s6 eLg ⊢
    have lS : (loopS (gs.take j)).length ≤ 512 := by
      rw [loop_all, all_len, List.length_take]
      exact Nat.le_trans (Nat.pow_le_pow_right (by decide) (show min j gs.length ≤ 9 by omega)) (by decide)
    have lpr := Shg.pair_len pr
    have sLn : ∀ s ∈ loopS (gs.take j), s.length ≤ 9 := fun s hs => by
      rw [loop_all] at hs
      have := (all_sub hs).length_le
      rw [List.length_take] at this
      omega
    have tk : gs.take (j + 1) = gs.take j ++ [n] := by rw [List.take_add_one, hn]; rfl
    generalize hS : loopS (gs.take j) = S at pr lS lpr sLn
    refine ⟨_, rfl, Ls, rfl, ⟨_, SqL.of (s6 _ _ eLs)⟩, for_it (walk_list (K := K) (a := Ls) (xs := as.map V.ref)) (fun i σ H' => ∃ o6 Lg bs, σ = [some (.ref D), some (.ref L), some (.ref b0), some (.ref Ls), some (.str n), some (.ref Lg), o6] ∧ Same H6 H' ∧ H' Lg = some (.lst (bs.map V.ref)) ∧ StrsAt H' bs ((S.take i).flatMap fun s => [s ++ [n], s]))
      ⟨o6, Lg, [], rfl, Same.refl _, eLg, .nil⟩ (fun i σ H' _ ⟨_, _, _, _, s, _⟩ => SqL.of (s _ _ (s6 _ _ eLs))) ?_ ?_⟩
    · clear eLg
      rintro i v σ H7 H8 hi ⟨o6, Lg, bs, rfl, s8, eLg, pb⟩ ⟨rfl, ev2⟩
      rw [List.length_map] at hi
      rw [List.getElem?_map] at ev2
      obtain ⟨b, hb, rfl⟩ := Option.map_eq_some_iff.mp ev2
      obtain ⟨s, hs, es⟩ := Shg.pair_get pr hb
      have es8 := s8 _ _ (s6 _ _ es)
      have ls := sLn s (List.mem_of_getElem? hs)
      have lb := Shg.pair_len pb
      have fmT : ((S.take i).flatMap fun s => [s ++ [n], s]).length = 2 * (S.take i).length := by
        generalize S.take i = S'
        induction S' with
        | nil => rfl
        | cons x S' ih => rw [List.flatMap_cons, List.length_append, ih]; show 2 + 2 * S'.length = 2 * (S'.length + 1); omega
      have lti : (S.take i).length = i := by rw [List.length_take]; omega
      refine name_at ?_
      refine ⟨_, rfl, _, rfl, _, rfl, by show 1 ≤ sizeLine; omega, fun t ht => ?_⟩
      have u1 := Shg.same_upd (o := .lst [V.str n]) ht
      refine ⟨b, t, _, _, rfl, rfl, u1 _ _ es8, upd_same, by rw [List.length_map]; show s.length + 1 ≤ _; omega, fun nl hnl => ?_⟩
      have u2 := u1.trans (Shg.same_upd (o := .lst (s.map V.str ++ [V.str n])) hnl)
      have enl : upd (upd H8 t (.lst [V.str n])) nl (.lst (s.map V.str ++ [V.str n])) nl = some (.lst ((s ++ [n]).map V.str)) := by rw [upd_same, List.map_append]; rfl
      generalize upd (upd H8 t (.lst [V.str n])) nl (.lst (s.map V.str ++ [V.str n])) = H9 at u2 enl ⊢
      refine ⟨_, rfl, by show 2 ≤ sizeLine; omega, fun t2 ht2 => ?_⟩
      have u3 := Shg.same_upd (o := .lst [V.ref nl, V.ref b]) ht2
      refine ⟨Lg, t2, _, _, rfl, rfl, u3 _ _ (u2 _ _ eLg), upd_same, by rw [List.length_map, lb, fmT, lti]; show 2 * i + 2 ≤ _; omega, fun Lg2 hLg2 => ?_⟩
      have u4 := u3.trans (Shg.same_upd (o := .lst (bs.map V.ref ++ [V.ref nl, V.ref b])) hLg2)
      have eL2 : upd (upd H9 t2 (.lst [V.ref nl, V.ref b])) Lg2 (.lst (bs.map V.ref ++ [V.ref nl, V.ref b])) Lg2 = some (.lst ((bs ++ [nl, b]).map V.ref)) := by rw [upd_same, List.map_append]; rfl
      generalize upd (upd H9 t2 (.lst [V.ref nl, V.ref b])) Lg2 (.lst (bs.map V.ref ++ [V.ref nl, V.ref b])) = H10 at u4 eL2 ⊢
      refine ⟨_, Lg2, bs ++ [nl, b], rfl, s8.trans (u2.trans u4), eL2, ?_⟩
      have e1 : (S.take (i + 1)).flatMap (fun s => [s ++ [n], s]) = (S.take i).flatMap (fun s => [s ++ [n], s]) ++ [s ++ [n], s] := by
        rw [List.take_add_one, hs, List.flatMap_append]
        rfl
      rw [e1]
      exact Shg.pair_app (StrsAt.same pb (u2.trans u4)) (.cons (u4 _ _ enl) (.cons (u4 _ _ (u2 _ _ es8)) .nil))
    · rintro σ H7 ⟨o6, Lg, bs, rfl, s8, eLg, pb⟩
      rw [List.length_map, lpr, List.take_length, ← hS, ← loop_snoc, ← tk] at pb
      refine ⟨_, rfl, ?_⟩
      exact ⟨_, _, o6, Lg, bs, rfl, (s5.trans s6).trans s8, eLg, pb⟩
  · rintro σ H4 ⟨o4, o5, o6, Ls, as, rfl, s5, eLs, pr⟩
    rw [List.length_map, List.take_length] at pr
    have lpr := Shg.pair_len pr
    have sL : ∀ s ∈ loopS gs, s.Sublist gs := fun s hs => by
      rw [loop_all] at hs
      exact all_sub hs
    have bg := best_grd (f := f) irr sy gs
    have eD4 := s5 _ _ (s4 _ _ eD)
    have nk4 := near_same nk (s4.trans s5)
    have eb4 := s5 _ _ eb
    generalize loopS gs = S at pr lpr sL bg
    refine ⟨_, rfl, Ls, rfl, ⟨_, SqL.of eLs⟩, for_it (walk_list (K := K) (a := Ls) (xs := as.map V.ref)) (fun i σ H' => ∃ o6 Bs, σ = [some (.ref D), some (.ref L), some (.ref Bs), some (.ref Ls), o4, o5, o6] ∧ Same H4 H' ∧ H' Bs = some (.lst (((S.take i).foldl (stepB f) []).map V.str)) ∧ ((S.take i).foldl (stepB f) []).length ≤ 9)
      ⟨o6, b0, rfl, Same.refl _, eb4, Nat.zero_le _⟩ (fun i σ H' _ ⟨_, _, _, s, _⟩ => SqL.of (s _ _ eLs)) ?_ ?_⟩
    · rintro i v σ H7 H8 hi ⟨o6, Bs, rfl, s8, eBs, lBs⟩ ⟨rfl, ev2⟩
      rw [List.length_map] at hi
      rw [List.getElem?_map] at ev2
      obtain ⟨b, hb, rfl⟩ := Option.map_eq_some_iff.mp ev2
      obtain ⟨s, hs, es⟩ := Shg.pair_get pr hb
      have es8 := s8 _ _ es
      have sub := sL s (List.mem_of_getElem? hs)
      have ls := sub.length_le
      have e1 : (S.take (i + 1)).foldl (stepB f) [] = stepB f ((S.take i).foldl (stepB f) []) s := by
        rw [List.take_add_one, hs, List.foldl_append]
        rfl
      generalize (S.take i).foldl (stepB f) [] = bb at eBs lBs e1
      refine name_at ?_
      have q1 : ∀ R : Bool → Hp → Prop, R (decide (bb.length < s.length)) H8 → _ := fun R h => h
      cases hlt : decide (bb.length < s.length) with
      | false =>
        refine and_not (fun R h => ⟨_, rfl, b, _, rfl, .inl (SqL.of es8), _, rfl, Bs, _, rfl, .inl (SqL.of eBs), _, _, rfl, rfl, _, rfl, ?_⟩) (iteF ⟨_, Bs, rfl, s8, ?_⟩)
        · rw [List.length_map, List.length_map]
          have : decide (((s.length : Nat) : Int) > ((bb.length : Nat) : Int)) = false := by
            have := of_decide_eq_false hlt
            exact decide_eq_false (by omega)
          rw [this]
          exact h
        · rw [e1]
          unfold stepB
          rw [if_neg fun z => (of_decide_eq_false hlt) z.1]
          exact ⟨eBs, lBs⟩
      | true =>
        refine and_yes (fun R h => ⟨_, rfl, b, _, rfl, .inl (SqL.of es8), _, rfl, Bs, _, rfl, .inl (SqL.of eBs), _, _, rfl, rfl, _, rfl, ?_⟩) ?_
        · rw [List.length_map, List.length_map]
          have : decide (((s.length : Nat) : Int) > ((bb.length : Nat) : Int)) = true := by
            have := of_decide_eq_true hlt
            exact decide_eq_true (by omega)
          rw [this]
          exact h
        refine ⟨_, rfl, _, rfl, D, b, kvs, gs, s, f, rfl, s8 _ _ eD4, near_same nk4 s8, SqL.of es8, fun n hn => sub.mem hn, by omega, okG, fun n hn => Nat.le_trans (fl n hn) (by decide), fun H9 s9 => ⟨_, rfl, ?_⟩⟩
        cases hq : quietB f s with
        | true =>
          refine iteT ⟨_, rfl, ?_⟩
          refine ⟨_, b, rfl, s8.trans s9, ?_⟩
          rw [e1]
          unfold stepB
          rw [if_pos ⟨of_decide_eq_true hlt, quiet_iff.mp hq⟩]
          exact ⟨s9 _ _ es8, by omega⟩
        | false =>
          refine iteF ⟨_, Bs, rfl, s8.trans s9, ?_⟩
          rw [e1]
          unfold stepB
          rw [if_neg fun z => by rw [quiet_iff.mpr z.2] at hq; cases hq]
          exact ⟨s9 _ _ eBs, lBs⟩
    · rintro σ H7 ⟨o6, Bs, rfl, s8, eBs, lBs⟩
      rw [List.length_map, lpr, List.take_length, bg] at eBs
      exact ⟨_, rfl, k Bs H7 ((s4.trans s5).trans s8) eBs⟩
end
end Qu
set_option Elab.async false
set_option linter.all false
set_option maxRecDepth 100000
set_option maxHeartbeats 4000000
set_option autoImplicit false
/-! sorted(list of tuples of ints), whatever the ints. -/
namespace Shg
open PySem PyProof.Rows PySem.Spec L2 Srt
/-- one list of ints before another -/
def lexL : List Int → List Int → Bool
  | [], [] => false
  | [], _ :: _ => true
  | _ :: _, [] => false
  | x :: xs, y :: ys => if x = y then lexL xs ys else decide (x < y)
theorem lexL_asym : ∀ xs ys : List Int, lexL xs ys = true → lexL ys xs = false
  | [], [], h => (by cases h)
  | [], _ :: _, _ => rfl
  | _ :: _, [], h => (by cases h)
  | x :: xs, y :: ys, h => by
    unfold lexL at h ⊢
    by_cases e : x = y
    · rw [if_pos e] at h
      rw [if_pos e.symm]
      exact lexL_asym xs ys h
    · rw [if_neg e] at h
      rw [if_neg fun z => e z.symm, decide_eq_false_iff_not]
      have := of_decide_eq_true h
      omega
theorem lexL_tr : ∀ xs ys zs : List Int, lexL ys xs = false → lexL zs ys = false → lexL zs xs = false
  | [], [], [], _, _ => rfl
  | [], [], _ :: _, _, _ => rfl
  | [], _ :: _, [], _, h => (by cases h)
  | [], _ :: _, _ :: _, _, _ => rfl
  | _ :: _, [], _, h, _ => (by cases h)
  | _ :: _, _ :: _, [], _, h => (by cases h)
  | x :: xs, y :: ys, z :: zs, h1, h2 => by
    unfold lexL at h1 h2 ⊢
    by_cases e1 : y = x
    · rw [if_pos e1] at h1
      subst e1
      by_cases e2 : z = y
      · rw [if_pos e2] at h2 ⊢
        exact lexL_tr xs ys zs h1 h2
      · rw [if_neg e2] at h2 ⊢
        exact h2
    · rw [if_neg e1, decide_eq_false_iff_not] at h1
      by_cases e2 : z = y
      · subst e2
        rw [if_neg e1, decide_eq_false_iff_not]
        exact h1
      · rw [if_neg e2, decide_eq_false_iff_not] at h2
        rw [if_neg (by omega), decide_eq_false_iff_not]
        omega
theorem swo_lexL {α : Type} (k : α → List Int) : SrtO.Swo fun v u => lexL (k v) (k u) := ⟨fun _ _ h => lexL_asym _ _ h, fun _ _ _ h1 h2 => lexL_tr _ _ _ h1 h2⟩
section
variable {prog : Program} {w : World} {A : Around} {E : Value → Shared → Prop} {s : Shared} {Q : Bool → Shared → Prop}
theorem lexL_run {b : Bool} {xs ys : List Value} {ns ms : List Int} (i : Nat) (hx : IntsAre xs ns) (hy : IntsAre ys ms) (hl : ns.length = ms.length) (h : Q (lexL ns ms) s) : PySem.W.KatLex prog w A b false Q (xs.zip ys) i s := by
  induction hx generalizing ys ms i with
  | nil =>
    cases hy with
    | nil => exact PySem.W.kat_nil h
    | cons q u hy => simp at hl
  | @cons p t xs ns hx ih =>
    cases hy with
    | nil => simp at hl
    | @cons q u ys ms hy =>
      have hl' : ns.length = ms.length := by simpa using hl
      show PySem.W.KatLex prog w A b false Q ((Value.int p t, Value.int q u) :: xs.zip ys) i s
      unfold lexL at h
      refine PySem.W.kat_cons (wpAny_eqBool_int ?_)
      by_cases e : p = q
      · subst e
        rw [beq_self_eq_true]
        rw [if_pos rfl] at h
        exact PySem.W.kat_yes (ih (i + 1) hy hl' h)
      · rw [show (p == q) = false from beq_eq_false_iff_ne.mpr e]
        rw [if_neg e] at h
        exact PySem.W.kat_no (TS.oneLt_ints _ h)
def TupsL (h : Heap) (d : Nat) (k : Value → List Int) (vs : List Value) : Prop := ∀ v, v ∈ vs → TS.TupInts h v (k v) ∧ (k v).length = d
theorem firstsL {h : Heap} {d : Nat} {k : Value → List Int} (hd : 1 ≤ d) : ∀ vs : List Value, TupsL h d k vs → ∃ fs, PySem.W.KatTups h vs fs ∧ fs.length = vs.length ∧ ∀ f, f ∈ fs → ∃ n t, f = Value.int n t
  | [], _ => ⟨[], PySem.W.KatTups.nil, rfl, fun f hf => by simp at hf⟩
  | v :: vs, x => by
    obtain ⟨fs, kk, hl, hi⟩ := firstsL hd vs fun u hu => x u (List.mem_cons_of_mem _ hu)
    obtain ⟨⟨a, xs, e0, ⟨o, ho, hc, n, hdt⟩, i⟩, hn⟩ := x v (List.mem_cons_self ..)
    rw [e0]
    obtain ⟨y, ys, e⟩ : ∃ y ys, xs.toList = y :: ys := by
      cases q : xs.toList with
      | nil =>
        rw [q] at i
        have l := i.length
        rw [List.length_nil, hn] at l
        omega
      | cons y ys => exact ⟨y, ys, rfl⟩
    obtain ⟨m, t, hy⟩ := i.all y (by rw [e]; exact List.mem_cons_self ..)
    refine ⟨y :: fs, PySem.W.KatTups.cons ho hc hdt ?_ kk, by simp [hl], ?_⟩
    · have z := congrArg (fun l : List Value => l[0]?) e
      simpa using z
    · intro f hf
      rcases List.mem_cons.mp hf with rfl | hf
      · exact ⟨m, t, hy⟩
      · exact hi f hf
theorem cmpL {d : Nat} {k : Value → List Int} {vs : List Value} (hp : TupsL s.heap d k vs) : SrtO.Cmp prog w A s (tuples' true) (fun p => p.1 ∈ vs) (SrtO.lt2 fun v u => lexL (k v) (k u)) := by
  intro p q hm hm'
  obtain ⟨⟨a, xs, e1, ⟨o, ho, hc, n, hdt⟩, i1⟩, l1⟩ := hp _ hm
  obtain ⟨⟨a', ys, e2, ⟨o', ho', hc', n', hdt'⟩, i2⟩, l2⟩ := hp _ hm'
  show wpAny (model prog w) A (keyLt' (tuples' true) p.1 q.1) (fun r s' => s' = s ∧ r = lexL (k p.1) (k q.1)) (fun _ _ => False) s
  generalize k p.1 = ns at i1 l1 ⊢
  generalize k q.1 = ms at i2 l2 ⊢
  rw [e1, e2]
  refine PySem.W.kat_lt ho hdt ho' hdt' ?_
  have sz : decide (xs.size < ys.size) = false := by
    have z1 := i1.length
    have z2 := i2.length
    rw [Array.length_toList] at z1 z2
    exact decide_eq_false (by omega)
  rw [sz]
  exact lexL_run 0 i1 i2 (by omega) ⟨rfl, rfl⟩
theorem sortableL {a : Addr} {d : Nat} {k : Value → List Int} {vs : List Value} (hd : 1 ≤ d) (h0 : 0 < vs.length) (hp : TupsL s.heap d k vs) (ha : ∀ o, s.heap.get? a = some o → o.cls ≠ .type "tuple") : SrtO.SortableO prog w A s a vs fun v u => lexL (k v) (k u) := by
  intro h' keep
  have hp' : TupsL h' d k vs := fun v hm => ⟨(hp v hm).1.keeps fun b o e c => keep b o (fun z => by subst z; exact ha o e c) e, (hp v hm).2⟩
  obtain ⟨fs, h1, h2, h3⟩ := firstsL hd vs hp'
  refine ⟨tuples' true, fun Q E hq => ?_, cmpL hp'⟩
  refine PySem.W.kat_kind (T := .type "int") h1 (by omega) (fun f hm => ?_) (by rfl) ?_
  · obtain ⟨x, t, rfl⟩ := h3 f hm
    exact PySem.W.Looks.now
  · have e : (Value.type "int" != Value.type "tuple") = true := by first | decide +kernel | rfl | decide
    rw [e]
    exact hq
theorem sortedL {l : Addr} {d : Nat} {vs : List Value} {k : Value → List Int} {Q : Value → Shared → Prop} (hd : 1 ≤ d) (hl : s.heap.IsList l vs.toArray) (hz : vs.length ≤ sizeLine) (hp : TupsL s.heap d k vs)
    (h : ∀ (h' : Heap) (d : Addr) (out : List Value), SrtO.Srtd (fun v u => lexL (k v) (k u)) out → out.Perm vs → (∀ b o, s.heap.get? b = some o → h'.get? b = some o) → s.heap.objs.size ≤ d → (∃ n, h'.get? d = some (seqObj "list" out.toArray n)) → Q (.ref d) { s with heap := h' }) :
    wpAny (model prog w) A (call (.builtin "sorted") [.ref l]) Q E s := by
  refine SrtO.sorted_ord (swo_lexL k) hl hz (fun h2 h₁ a ha kk => ?_) fun out hs hb => ?_
  · refine sortableL (s := { s with heap := h₁ }) hd (by omega) (fun v hm => ⟨(hp v hm).1.keeps fun b o e _ => (kk b o e).2, (hp v hm).2⟩) fun o e => ?_
    have e' : some o = some (seqObj "list" vs.toArray 0) := e.symm.trans ha
    cases e'
    intro c
    exact absurd (Value.type.inj c) (by decide)
  · exact h _ _ out hs hb.perm (fun b o e => sortedAll_old e) (Nat.le_succ _) (sortedAll_at s.heap vs out.toArray)
end
/-- sorted(xs), xs a list of tuples of d ints (k says which): a new list of the same, sorted -/
def rSortLx (K : PySem.W.Frag) : List V → Hp → VK → Prop := fun vs H Q => ∃ (a : Addr) (xs : List V) (k : V → List Int) (d : Nat), vs = [V.ref a] ∧ SqL K H a xs ∧ 1 ≤ d ∧ (∀ x ∈ xs, ∃ t, x = V.ref t ∧ H t = some (.tup ((k x).map V.int)) ∧ (k x).length = d) ∧
  ∀ ys p, ys.Pairwise (fun x y => lexL (k y) (k x) = false) → ys.Perm xs → H p = none → Q (.ref p) (upd H p (.lst ys))
section
variable {X : Cx}
theorem cr_sortLx : CallR X (.builtin "sorted") (rSortLx X.K) := by
  intro pins s σ H vs us Q I r h
  obtain ⟨a, xs, k, d, rfl, hs, hd, hx, q⟩ := h
  obtain ⟨its, rv, hl, hz⟩ := I.list hs
  rw [Vals.ref1 r]
  obtain ⟨e1, e2⟩ := refs_back rv fun x m => by
    obtain ⟨t, e, _⟩ := hx x m
    exact ⟨t, e⟩
  refine sortedL (k := fun u => k (backV u)) hd hl.isList (by rw [← rv.length]; exact hz) (fun v hv => ?_) fun h' dd out h1 h2 kp hdd hn => ?_
  · obtain ⟨t, rfl⟩ := e2 v hv
    have hm : V.ref t ∈ xs := by rw [e1]; exact List.mem_map.mpr ⟨_, hv, rfl⟩
    obtain ⟨t', e, ht, hlen⟩ := hx _ hm
    cases e
    exact ⟨tupI_raw I (SqT.of ht), hlen⟩
  · have h3 : ∀ u ∈ out, ∃ a, u = Value.ref a := fun u hu => e2 u (h2.mem_iff.mp hu)
    obtain ⟨n, hn⟩ := hn
    have hb : (out.map backV).Perm xs := by
      rw [e1]
      exact h2.map backV
    refine ⟨.ref dd, upd H dd (.lst (out.map backV)), I.laid (t' := s.toks) kp hdd ⟨?_, out, n, vals_back h3, hn⟩, rfl, q _ dd (List.pairwise_map.mpr h1) hb (I.hok.fresh hdd)⟩
    rw [hb.length_eq]
    exact hz
end
end Shg
set_option Elab.async false
set_option linter.all false
set_option maxRecDepth 100000
set_option maxHeartbeats 2000000
set_option autoImplicit false
/-! The sorted events of a pile. -/
namespace Qu
open PySem L2 Sho NdefX Shg Sh1 Gq Ck
def comT (p : List Rw) (i : Nat) : List Int := [(rwAt p i).come, 1, i]
def goT (p : List Rw) (i : Nat) : List Int := [(rwAt p i).go, 0, -(i : Int)]
def evs (p : List Rw) : List (List Int) := (List.range p.length).map (comT p) ++ (List.range p.length).map (goT p)
def Gof (p : List Rw) (E : List (List Int)) : List Int := E.map fun t => if t.getD 1 0 = 1 then (E.idxOf (goT p (t.getD 2 0).toNat) : Int) else -1
theorem lex3 {a b c a' b' c' : Int} : lexL [a, b, c] [a', b', c'] = true ↔ a < a' ∨ (a = a' ∧ (b < b' ∨ (b = b' ∧ c < c'))) := by
  unfold lexL lexL lexL lexL
  by_cases h1 : a = a'
  · rw [if_pos h1]
    by_cases h2 : b = b'
    · rw [if_pos h2]
      by_cases h3 : c = c'
      · rw [if_pos h3]
        simp only [Bool.false_eq_true, false_iff]
        omega
      · rw [if_neg h3, decide_eq_true_iff]
        omega
    · rw [if_neg h2, decide_eq_true_iff]
      omega
  · rw [if_neg h1, decide_eq_true_iff]
    omega
theorem evs_mem {p : List Rw} {t : List Int} : t ∈ evs p ↔ ∃ i, i < p.length ∧ (t = comT p i ∨ t = goT p i) := by
  unfold evs
  rw [List.mem_append, List.mem_map, List.mem_map]
  constructor
  · rintro (⟨i, hi, rfl⟩ | ⟨i, hi, rfl⟩)
    · exact ⟨i, List.mem_range.mp hi, .inl rfl⟩
    · exact ⟨i, List.mem_range.mp hi, .inr rfl⟩
  · rintro ⟨i, hi, rfl | rfl⟩
    · exact .inl ⟨i, List.mem_range.mpr hi, rfl⟩
    · exact .inr ⟨i, List.mem_range.mpr hi, rfl⟩
theorem com_inj {p : List Rw} {i j : Nat} (h : comT p i = comT p j) : i = j := by
  unfold comT at h
  have := (List.cons.inj (List.cons.inj (List.cons.inj h).2).2).1
  omega
theorem go_inj {p : List Rw} {i j : Nat} (h : goT p i = goT p j) : i = j := by
  unfold goT at h
  have := (List.cons.inj (List.cons.inj (List.cons.inj h).2).2).1
  omega
theorem com_go {p : List Rw} {i j : Nat} (h : comT p i = goT p j) : False := by
  unfold comT goT at h
  have := (List.cons.inj (List.cons.inj h).2).1
  omega
theorem evs_nodup (p : List Rw) : (evs p).Nodup := by
  unfold evs
  rw [List.nodup_append]
  refine ⟨List.pairwise_map.mpr (List.nodup_range.imp fun h z => h (com_inj z)), List.pairwise_map.mpr (List.nodup_range.imp fun h z => h (go_inj z)), ?_⟩
  intro a ha b hb e
  obtain ⟨i, _, rfl⟩ := List.mem_map.mp ha
  obtain ⟨j, _, rfl⟩ := List.mem_map.mp hb
  exact com_go e
theorem evs_len (p : List Rw) : (evs p).length = 2 * p.length := by
  unfold evs
  rw [List.length_append, List.length_map, List.length_map, List.length_range]
  omega
theorem pos_lt {E : List (List Int)} (srt : E.Pairwise fun x y => lexL y x = false) {t u : List Int} (ht : t ∈ E) (hu : u ∈ E) (tri : t ≠ u → lexL u t = false → lexL t u = true) (irr : lexL t t = false) : E.idxOf t < E.idxOf u ↔ lexL t u = true := by
  have h1 := List.idxOf_lt_length_of_mem ht
  have h2 := List.idxOf_lt_length_of_mem hu
  have e1 := List.getElem_idxOf h1
  have e2 := List.getElem_idxOf h2
  have pw := List.pairwise_iff_getElem.mp srt
  constructor
  · intro h
    have := pw _ _ h1 h2 h
    rw [e1, e2] at this
    refine tri (fun z => ?_) this
    rw [z] at h
    exact Nat.lt_irrefl _ h
  · intro h
    refine Nat.lt_of_not_le fun le => ?_
    rcases Nat.lt_or_eq_of_le le with l | l
    · have := pw _ _ h2 h1 l
      rw [e1, e2, h] at this
      cases this
    · have : t = u := by
        rw [← e1, ← e2]
        congr 1
        exact l.symm
      subst this
      rw [irr] at h
      cases h
theorem ev_of {p : List Rw} (hs : p.Pairwise fun a b => a.come ≤ b.come) {E : List (List Int)} (pm : E.Perm (evs p)) (srt : E.Pairwise fun x y => lexL y x = false) : Ev p (fun j => (Gof p E).getD j 0) (fun i => E.idxOf (comT p i)) (fun i => E.idxOf (goT p i)) := by
  have nd : E.Nodup := pm.nodup_iff.mpr (evs_nodup p)
  have le : E.length = 2 * p.length := by rw [pm.length_eq, evs_len]
  have mc : ∀ i, i < p.length → comT p i ∈ E := fun i hi => pm.mem_iff.mpr (evs_mem.mpr ⟨i, hi, .inl rfl⟩)
  have mg : ∀ i, i < p.length → goT p i ∈ E := fun i hi => pm.mem_iff.mpr (evs_mem.mpr ⟨i, hi, .inr rfl⟩)
  have lt : ∀ {a b c a' b' c' : Int}, [a, b, c] ∈ E → [a', b', c'] ∈ E → (E.idxOf [a, b, c] < E.idxOf [a', b', c'] ↔ a < a' ∨ (a = a' ∧ (b < b' ∨ (b = b' ∧ c < c')))) := fun {a b c a' b' c'} h1 h2 => by
    have irr : lexL [a, b, c] [a, b, c] = false := by
      have : ¬ (lexL [a, b, c] [a, b, c] = true) := by
        rw [lex3]
        omega
      cases h : lexL [a, b, c] [a, b, c] with
      | false => rfl
      | true => exact absurd h this
    have tri : [a, b, c] ≠ [a', b', c'] → lexL [a', b', c'] [a, b, c] = false → lexL [a, b, c] [a', b', c'] = true := fun n z => by
      have z' : ¬ (lexL [a', b', c'] [a, b, c] = true) := by rw [z]; decide
      rw [lex3] at z'
      rw [lex3]
      by_cases e1 : a = a'
      · by_cases e2 : b = b'
        · by_cases e3 : c = c'
          · exact absurd (by rw [e1, e2, e3]) n
          · omega
        · omega
      · omega
    rw [pos_lt srt h1 h2 tri irr, lex3]
  have gv : ∀ (j : Nat) (t : List Int), E[j]? = some t → (Gof p E).getD j 0 = if t.getD 1 0 = 1 then (E.idxOf (goT p (t.getD 2 0).toNat) : Int) else -1 := fun j t h => by
    unfold Gof
    rw [List.getD_eq_getElem?_getD, List.getElem?_map, h]
    rfl
  have at_ : ∀ t, t ∈ E → E[E.idxOf t]? = some t := fun t h => by
    have h1 := List.idxOf_lt_length_of_mem h
    rw [List.getElem?_eq_getElem h1, List.getElem_idxOf h1]
  have ps : ∀ i j, i < j → j < p.length → (rwAt p i).come ≤ (rwAt p j).come := fun i j hij hj => by
    have := List.pairwise_iff_getElem.mp hs i j (by omega) hj hij
    unfold rwAt
    rw [List.getD_eq_getElem?_getD, List.getD_eq_getElem?_getD, List.getElem?_eq_getElem (by omega), List.getElem?_eq_getElem hj]
    exact this
  refine ⟨fun i hi => ?_, fun i hi => ?_, fun i hi => ?_, fun i hi => ?_, fun j hj h => ?_, fun i j hi hj => ?_, fun i j hi hj => ?_, fun i j hi hj => ?_⟩
  · have := List.idxOf_lt_length_of_mem (mc i hi)
    omega
  · have := List.idxOf_lt_length_of_mem (mg i hi)
    omega
  · show (Gof p E).getD (E.idxOf (comT p i)) 0 = _
    rw [gv _ _ (at_ _ (mc i hi))]
    unfold comT
    show (if (1 : Int) = 1 then ((E.idxOf (goT p ((i : Int)).toNat) : Nat) : Int) else -1) = _
    rw [if_pos rfl, Int.toNat_natCast]
  · show (Gof p E).getD (E.idxOf (goT p i)) 0 = _
    rw [gv _ _ (at_ _ (mg i hi))]
    rfl
  · obtain ⟨t, ht⟩ : ∃ t, E[j]? = some t := ⟨_, List.getElem?_eq_getElem (by omega)⟩
    have h' : (j : Int) < (Gof p E).getD j 0 := h
    rw [gv j t ht] at h'
    obtain ⟨i, hi, e | e⟩ := evs_mem.mp (pm.mem_iff.mp (List.mem_of_getElem? ht))
    · refine ⟨i, hi, ?_⟩
      show j = E.idxOf (comT p i)
      refine (List.getElem?_inj (by omega) nd).mp ?_
      rw [ht, at_ _ (mc i hi), e]
    · subst e
      unfold goT at h'
      have : (j : Int) < -1 := h'
      omega
  · show E.idxOf (comT p i) < E.idxOf (comT p j) ↔ _
    unfold comT
    rw [lt (mc i hi) (mc j hj)]
    have h1 : i < j → _ := fun h => ps i j h hj
    have h2 : j < i → _ := fun h => ps j i h hi
    by_cases a : i < j
    · have := h1 a
      omega
    · by_cases b : j < i
      · have := h2 b
        omega
      · have : i = j := by omega
        subst this
        omega
  · show E.idxOf (comT p j) < E.idxOf (goT p i) ↔ _
    unfold comT goT
    rw [lt (mc j hj) (mg i hi)]
    omega
  · show E.idxOf (goT p i) < E.idxOf (goT p j) ↔ _
    unfold goT
    rw [lt (mg i hi) (mg j hj)]
    omega
end Qu
set_option Elab.async false
set_option linter.all false
set_option maxRecDepth 100000
set_option maxHeartbeats 8000000
set_option autoImplicit false
/-! _goings_by_event. -/
namespace Qu
open PySem L2 Sho NdefX Shg Sh1 Gq Ck
abbrev NQc : List Str := ["stays", "pile", "comings", "goings", "events", "place", "name", "come", "go", "tick", "coming"]
/-- the ints of a tuple -/
def kOf (H : Hp) : V → List Int
  | .ref t => match H t with
    | some (.tup vs) => vs.filterMap fun v => match v with
      | .int i => some i
      | _ => none
    | _ => []
  | _ => []
theorem kOf_at {H : Hp} {t : Addr} {l : List Int} (h : H t = some (.tup (l.map V.int))) : kOf H (.ref t) = l := by
  simp only [kOf, h]
  induction l with
  | nil => rfl
  | cons x l ih =>
    rw [List.map_cons, List.filterMap_cons]
    show x :: _ = _
    congr 1
    clear h ih
    induction l with
    | nil => rfl
    | cons y l ih =>
      rw [List.map_cons, List.filterMap_cons]
      exact congrArg (y :: ·) ih
theorem dp_tri {K : PySem.W.Frag} {H : Hp} {t : Addr} {l : List Int} (h : H t = some (.tup (l.map V.int))) : Dp K H (.ref t) (.tuple (l.map PyData.int)) := .tup (SqT.of h) (Shp.dp_ints l)
theorem eqv_tri (a b : List Int) : PyData.eqv (.tuple (a.map PyData.int)) (.tuple (b.map PyData.int)) = decide (a = b) := eqv_ints a b
theorem plain_tri (l : List Int) : Shp.PlainD 1 (.tuple (l.map PyData.int)) := Shp.plain_tup fun d hd => by
  obtain ⟨z, _, rfl⟩ := List.mem_map.mp hd
  exact Shp.plain_int _ 0
theorem map_at {α β : Type} {ys : List α} {f : α → β} {g : Nat → β} {n : Nat} (hl : ys.length = n) (h : ∀ (j : Nat) y, ys[j]? = some y → f y = g j) : ys.map f = (List.range n).map g := by
  refine List.ext_getElem? fun j => ?_
  rw [List.getElem?_map, List.getElem?_map]
  by_cases hj : j < n
  · rw [List.getElem?_range hj, List.getElem?_eq_getElem (by omega)]
    exact congrArg some (h j _ (List.getElem?_eq_getElem (by omega)))
  · rw [List.getElem?_eq_none (by omega), List.getElem?_eq_none (by rw [List.length_range]; omega)]
    rfl
section
variable {P : Program} {w : World} {K : PySem.W.Frag} {mg : Str → Option Value} {base : Heap}
def spGoings (K : PySem.W.Frag) (T : List (Addr × Str)) : Sp := fun vs H Q _ => ∃ (a : Addr) (ws : List V) (xs : List Stay), vs = [.ref a] ∧ (SqL K H a ws ∨ SqT K H a ws) ∧ StaysV H ws xs ∧ xs.length ≤ 100 ∧ LamX.Tabs T H ∧
  ∀ (E : List (List Int)) (g : Addr) H', Grows T H H' → E.Perm (evs (bot (xs.map rw3))) → (E.Pairwise fun x y => lexL y x = false) → H' g = some (.lst ((Gof (bot (xs.map rw3)) E).map V.int)) → Q (.ref g) H'
theorem scQc : FnScope NQc ["stays"] (defScope sGoingsByEvent) := ⟨rfl, rfl, rfl, by decide +kernel, rfl, by decide +kernel, by decide +kernel⟩
theorem ok_goings {f fB : Addr} {fd fdB : FuncData} {T : List (Addr × Str)} (F : Fun K "_goings_by_event" "_goings_by_event" sGoingsByEvent f fd) (B : Shg.Blt mg) (GB : FnOk P w K mg base CX0 5 fB fdB ["stays"] (spBottom K T)) (mB : mg "bottom_up" = some (.ref fB)) (kB : PySem.W.keepIn K (.ref fB) = true) (bB : Binds K fdB ["stays"] []) :
    FnOk P w K mg base CX0 6 f fd ["stays"] (spGoings K T) := by
  refine F.ok scQc (fun vs H Q E h => ?_) (fun cdv A outer s H vs Q E hr h => ?_)
  · obtain ⟨a, ws, xs, rfl, _⟩ := h
    rfl
  obtain ⟨a, ws, xs, rfl, ha, sv, hl, hT, k⟩ := h
  have nd := scQc.nd
  refine ⟨_, (pss_cons (ps_set (i := 1) nd rfl (Or.inl rfl) (pe_call GB (hr.mono (by decide)) rfl mB kB bB .nil pass0 (pa_cons (pv 0) pa_nil)))
      (pss_cons (ps_setLc (i := 2) (own := [("place", 5), ("name", 6), ("come", 7), ("go", 8)]) (g := gTup K 2 (gCons (gName 5) (gCons (gTup K 3 (gCons (gName 6) (gCons (gName 7) (gCons (gName 8) gNil)))) gNil))) (tt := tYes) (te := tTup (tCons (tVar 7) (tCons (tC (.int 1)) (tCons (tVar 5) tNil)))) rfl nd rfl rfl (sw_true rfl rfl rfl (by decide +kernel)) (pi_enum (by rfl) B.enum (pa_cons (pv 1) pa_nil)) (blkOk_by (own := [("place", 5), ("name", 6), ("come", 7), ("go", 8)]) (N := NQc) (sc := defScope sGoingsByEvent) (by decide +kernel))
        (fun _ _ _ _ _ => (pg_tup rfl (pgs_cons (pg_name (i := 5) nd rfl (Or.inl rfl)) (pgs_cons (pg_tup rfl (pgs_cons (pg_name (i := 6) nd rfl (Or.inl rfl)) (pgs_cons (pg_name (i := 7) nd rfl (Or.inl rfl)) (pgs_cons (pg_name (i := 8) nd rfl (Or.inl rfl)) pgs_nil)))) pgs_nil)))) (fun _ _ _ _ _ => pts_nil) (fun _ _ _ _ _ => (pe_tup (pa_cons (pv 7) (pa_cons pe_int (pa_cons (pv 5) pa_nil))))))
      (pss_cons (ps_set (i := 3) nd rfl (Or.inr rfl) (pe_lc (own := [("place", 5), ("name", 6), ("come", 7), ("go", 8)]) (g := gTup K 2 (gCons (gName 5) (gCons (gTup K 3 (gCons (gName 6) (gCons (gName 7) (gCons (gName 8) gNil)))) gNil))) (tt := tYes) (te := tTup (tCons (tVar 8) (tCons (tC (.int 0)) (tCons (tUn (rU fun i => .int (-i)) (tVar 5)) tNil)))) rfl nd (pi_enum (by rfl) B.enum (pa_cons (pv 1) pa_nil)) (blkOk_by (own := [("place", 5), ("name", 6), ("come", 7), ("go", 8)]) (N := NQc) (sc := defScope sGoingsByEvent) (by decide +kernel))
        (fun _ _ _ _ _ => (pg_tup rfl (pgs_cons (pg_name (i := 5) nd rfl (Or.inl rfl)) (pgs_cons (pg_tup rfl (pgs_cons (pg_name (i := 6) nd rfl (Or.inl rfl)) (pgs_cons (pg_name (i := 7) nd rfl (Or.inl rfl)) (pgs_cons (pg_name (i := 8) nd rfl (Or.inl rfl)) pgs_nil)))) pgs_nil)))) (fun _ _ _ _ _ => pts_nil) (fun _ _ _ _ _ => (pe_tup (pa_cons (pv 8) (pa_cons pe_int (pa_cons (pe_un un_neg (pv 5)) pa_nil)))))))
      (pss_cons (ps_set (i := 4) nd rfl (Or.inr rfl) (pe_callB cr_sortLx (by rfl) B.sorted (by decide +kernel) (pa_cons (pe_op op_cat (pv 2) (pv 3)) pa_nil)))
      (pss_one (ps_ret (pe_lc (own := [("tick", 9), ("coming", 10), ("place", 5)]) (g := gTup K 3 (gCons (gName 9) (gCons (gName 10) (gCons (gName 5) gNil)))) (tt := tYes) (te := tIf (tTest (tOp rEq (tVar 10) (tC (.int 1)))) (tBM K "list" (rIndexD K) (tVar 4) (tCons (tOp (rIxL K) (tVar 3) (tVar 5)) tNil)) (tUn (rU fun i => .int (-i)) (tC (.int 1)))) rfl nd (pi_list (pv 4)) (blkOk_by (own := [("tick", 9), ("coming", 10), ("place", 5)]) (N := NQc) (sc := defScope sGoingsByEvent) (by decide +kernel))
        (fun _ _ _ _ _ => (pg_tup rfl (pgs_cons (pg_name (i := 9) nd rfl (Or.inl rfl)) (pgs_cons (pg_name (i := 10) nd rfl (Or.inl rfl)) (pgs_cons (pg_name (i := 5) nd rfl (Or.inl rfl)) pgs_nil))))) (fun _ _ _ _ _ => pts_nil) (fun _ _ _ _ _ => (pe_ifExp (pt_cmpR op_eq (pv 10) pe_int (nomark _)) (pe_bm PySem.F.plainAttrs_list PySem.F.slot_list_index PySem.F.type_list_index (mt_indexD (units65 hr)) (pv 4) (pa_cons (pe_ix ix_list (pv 3) (pv 5) (fun _ _ => rfl)) pa_nil)) (pe_un un_neg pe_int)))))))))), ?_⟩
  have hw := rws_of sv
  generalize hrs : xs.map rw3 = rs at hw k
  have lrs : rs.length = xs.length := by rw [← hrs, List.length_map]
  have mo : ∀ r ∈ rs, r.more = [] := fun r hr' => by
    rw [← hrs] at hr'
    obtain ⟨x, _, rfl⟩ := List.mem_map.mp hr'
    rfl
  refine ⟨_, rfl, a, ws, rs.map Rw.come, rfl, ha, ?_, ?_, hT, fun pb H1 G1 e1 => ?_⟩
  · rw [List.length_map, Shg.pair_len hw]
  · intro i y n hy hn
    obtain ⟨r, hr', t, rfl, ht⟩ := Shg.pair_get hw hy
    rw [List.getElem?_map, hr'] at hn
    exact ⟨t, _, rfl, ht, congrArg (Option.map V.int) hn⟩
  have hb := bot_paired (hw.ext G1.ext)
  have mb : ∀ r ∈ bot rs, r.more = [] := fun r hr' => mo r (bot_mem.mp hr')
  have lb : (bot rs).length = xs.length := by rw [bot_length, lrs]
  have srt := bot_sorted rs
  generalize hp : bot rs = p at hb mb lb k srt
  generalize sortV (rs.map Rw.come) ws = pv at hb e1
  have lpv := Shg.pair_len hb
  have z3 : (3 : Nat) ≤ sizeLine := by decide
  have l100 : (1000 : Nat) ≤ sizeLine := by decide
  have row : ∀ (j : Nat) (y : V), pv[j]? = some y → ∃ t r, p[j]? = some r ∧ y = .ref t ∧ H1 t = some (.tup [.str r.nm, .int r.come, .int r.go]) := fun j y hy => by
    obtain ⟨r, hr', t, rfl, ht⟩ := Shg.pair_get hb hy
    have := mb r (List.mem_of_getElem? hr')
    refine ⟨t, r, hr', rfl, ?_⟩
    unfold rwV at ht
    rw [this] at ht
    exact ht
  have rat : ∀ (j : Nat) (r : Rw), p[j]? = some r → rwAt p j = r := fun j r h => by
    unfold rwAt
    rw [List.getD_eq_getElem?_getD, h]
    rfl
  -- comings
  refine ⟨_, rfl, pb, pv, rfl, SqL.of e1, fun Dc hDc => ?_⟩
  refine lc_rel (walk_enumL (K := K) (a := pb) (xs := pv)) (fun j y H => ∃ t, y = V.ref t ∧ H t = some (.tup ((comT p j).map V.int))) hDc (by omega) (fun HA sA => SqL.of (sA _ _ e1)) (fun j y H H' st ⟨t, h1, h2⟩ => ⟨t, h1, st _ _ h2⟩) (fun j y HA HB hj sA yy Rr k1 => ?_) fun HC cs sC eC lenC relC => ?_
  · obtain ⟨Tt, y1, y2, rfl, hTt, rfl, e2, e3⟩ := yy
    cases e2
    obtain ⟨t, r, hr', rfl, ht⟩ := row j y2 e3
    have sT := Shg.same_upd (o := .tup [.int (j : Nat), .ref t]) hTt
    have ht2 := sT _ _ (sA _ _ ht)
    refine ⟨Tt, _, rfl, SqT.of upd_same, rfl, _, _, rfl, _, _, rfl, t, _, rfl, SqT.of ht2, rfl, _, _, rfl, _, _, rfl, _, _, rfl, rfl, rfl, rfl, ?_⟩
    refine ⟨_, rfl, _, rfl, z3, fun q hq => ?_⟩
    refine k1 _ _ (sT.trans (Shg.same_upd hq)) ⟨q, rfl, ?_⟩
    rw [upd_same]
    unfold comT
    rw [rat j r hr']
    rfl
  refine name_at ?_
  -- goings
  have e1C := sC _ _ e1
  refine ⟨_, rfl, pb, pv, rfl, SqL.of e1C, fun Dg hDg => ?_⟩
  refine lc_rel (walk_enumL (K := K) (a := pb) (xs := pv)) (fun j y H => ∃ t, y = V.ref t ∧ H t = some (.tup ((goT p j).map V.int))) hDg (by omega) (fun HA sA => SqL.of (sA _ _ e1C)) (fun j y H H' st ⟨t, h1, h2⟩ => ⟨t, h1, st _ _ h2⟩) (fun j y HA HB hj sA yy Rr k1 => ?_) fun HG gs sG eG lenG relG => ?_
  · obtain ⟨Tt, y1, y2, rfl, hTt, rfl, e2, e3⟩ := yy
    cases e2
    obtain ⟨t, r, hr', rfl, ht⟩ := row j y2 e3
    have sT := Shg.same_upd (o := .tup [.int (j : Nat), .ref t]) hTt
    have ht2 := sT _ _ (sA _ _ (sC _ _ ht))
    refine ⟨Tt, _, rfl, SqT.of upd_same, rfl, _, _, rfl, _, _, rfl, t, _, rfl, SqT.of ht2, rfl, _, _, rfl, _, _, rfl, _, _, rfl, rfl, rfl, rfl, ?_⟩
    refine ⟨_, rfl, _, rfl, _, rfl, z3, fun q hq => ?_⟩
    refine k1 _ _ (sT.trans (Shg.same_upd hq)) ⟨q, rfl, ?_⟩
    rw [upd_same]
    unfold goT
    rw [rat j r hr']
    rfl
  refine name_at ?_
  -- the events
  have hcL : ∀ j y, cs[j]? = some y → ∃ t, y = V.ref t ∧ HG t = some (.tup ((comT p j).map V.int)) := fun j y h => by
    obtain ⟨t, h1, h2⟩ := relC j y h
    exact ⟨t, h1, sG _ _ h2⟩
  refine ⟨_, rfl, _, rfl, Dc, Dg, cs, gs, rfl, rfl, sG _ _ eC, eG, by omega, fun q hq => ?_⟩
  have sq := Shg.same_upd (o := .lst (cs ++ gs)) hq
  have eq1 : upd HG q (.lst (cs ++ gs)) q = some (.lst (cs ++ gs)) := upd_same
  generalize hHQ : upd HG q (.lst (cs ++ gs)) = HQ at sq eq1 ⊢
  have cQ : ∀ (j : Nat) (y : V), cs[j]? = some y → ∃ t, y = V.ref t ∧ HQ t = some (.tup ((comT p j).map V.int)) := fun j y h => by
    obtain ⟨t, h1, h2⟩ := hcL j y h
    exact ⟨t, h1, sq _ _ h2⟩
  have gQ : ∀ (j : Nat) (y : V), gs[j]? = some y → ∃ t, y = V.ref t ∧ HQ t = some (.tup ((goT p j).map V.int)) := fun j y h => by
    obtain ⟨t, h1, h2⟩ := relG j y h
    exact ⟨t, h1, sq _ _ h2⟩
  have allQ : ∀ x ∈ cs ++ gs, ∃ t, x = V.ref t ∧ HQ t = some (.tup ((kOf HQ x).map V.int)) ∧ (kOf HQ x).length = 3 := fun x hx => by
    rcases List.mem_append.mp hx with h | h
    · obtain ⟨j, hj⟩ := List.getElem?_of_mem h
      obtain ⟨t, rfl, ht⟩ := cQ j x hj
      rw [kOf_at ht]
      exact ⟨t, rfl, ht, rfl⟩
    · obtain ⟨j, hj⟩ := List.getElem?_of_mem h
      obtain ⟨t, rfl, ht⟩ := gQ j x hj
      rw [kOf_at ht]
      exact ⟨t, rfl, ht, rfl⟩
  refine ⟨q, cs ++ gs, kOf HQ, 3, rfl, SqL.of eq1, by decide, allQ, fun ys pe srtE pmE hpe => ?_⟩
  have sE := Shg.same_upd (o := .lst ys) hpe
  have eE : upd HQ pe (.lst ys) pe = some (.lst ys) := upd_same
  generalize upd HQ pe (.lst ys) = HE at sE eE ⊢
  have ek1 : cs.map (kOf HQ) = (List.range p.length).map (comT p) := map_at (by omega) fun j y h => by
    obtain ⟨t, rfl, ht⟩ := cQ j y h
    exact kOf_at ht
  have ek2 : gs.map (kOf HQ) = (List.range p.length).map (goT p) := map_at (by omega) fun j y h => by
    obtain ⟨t, rfl, ht⟩ := gQ j y h
    exact kOf_at ht
  have ek : (cs ++ gs).map (kOf HQ) = evs p := by
    rw [List.map_append, ek1, ek2]
    rfl
  have pmK : (ys.map (kOf HQ)).Perm (evs p) := by
    rw [← ek]
    exact pmE.map _
  have srtK : (ys.map (kOf HQ)).Pairwise fun x y => lexL y x = false := List.pairwise_map.mpr srtE
  have yE : ∀ y ∈ ys, ∃ t, y = V.ref t ∧ HE t = some (.tup ((kOf HQ y).map V.int)) := fun y hy => by
    obtain ⟨t, h1, h2, _⟩ := allQ y (pmE.mem_iff.mp hy)
    exact ⟨t, h1, sE _ _ h2⟩
  generalize hE0 : ys.map (kOf HQ) = E0 at pmK srtK
  refine name_at ?_
  refine ⟨_, rfl, pe, rfl, ⟨_, SqL.of eE⟩, fun Dl hDl => ?_⟩
  have dE : ∀ {H' : Hp}, Same HE H' → DpAll K H' ys (E0.map fun t => PyData.tuple (t.map PyData.int)) := fun {H'} sH => by
    rw [← hE0]
    clear hE0 pmE srtE eE
    induction ys with
    | nil => exact .nil
    | cons y ys ih =>
      obtain ⟨t, h1, h2⟩ := yE y List.mem_cons_self
      refine .cons ?_ (ih fun z hz => yE z (List.mem_cons_of_mem _ hz))
      have h2 := sH _ _ h2
      rw [h1] at h2 ⊢
      exact dp_tri h2
  have plE : Shp.PlainD 2 (.list (E0.map fun t => PyData.tuple (t.map PyData.int))) := Shp.plain_lst fun d hd => by
    obtain ⟨t, _, rfl⟩ := List.mem_map.mp hd
    exact plain_tri t
  have lys : ys.length = E0.length := by rw [← hE0, List.length_map]
  have lE0 : E0.length = 2 * p.length := by rw [pmK.length_eq, evs_len]
  refine lc_map walk_list (fun j => (ys[j]?).map fun y => V.int (if (kOf HQ y).getD 1 0 = 1 then ((E0.idxOf (goT p ((kOf HQ y).getD 2 0).toNat) : Nat) : Int) else -1)) hDl (by omega) (fun HA sA => SqL.of (sA _ _ eE)) (fun j v HA H' hj sA yy Rr k1 => ?_) (fun j hj => ⟨_, by rw [List.getElem?_eq_getElem hj]; rfl⟩) fun HA sA eA => ?_
  · obtain ⟨rfl, e2⟩ := yy
    have hm := List.mem_of_getElem? e2
    obtain ⟨t, e3, ht⟩ := yE v hm
    have k2 := fun (z : Int) (h : z = if (kOf HQ v).getD 1 0 = 1 then ((E0.idxOf (goT p ((kOf HQ v).getD 2 0).toNat) : Nat) : Int) else -1) (H4 : Hp) (s4 : Same _ H4) => k1 (.int z) H4 s4 (by rw [e2, h]; rfl)
    obtain ⟨i, hi, ek1 | ek1⟩ := evs_mem.mp (pmK.mem_iff.mp (hE0 ▸ List.mem_map.mpr ⟨v, hm, rfl⟩))
    · rw [ek1] at ht k2
      have ht := sA _ _ ht
      obtain ⟨gi, hgi⟩ : ∃ gi, gs[i]? = some gi := ⟨_, List.getElem?_eq_getElem (by omega)⟩
      obtain ⟨tg, rfl, htg⟩ := gQ i gi hgi
      have htg := sA _ _ (sE _ _ htg)
      have gm : goT p i ∈ E0 := pmK.mem_iff.mpr (evs_mem.mpr ⟨i, hi, .inr rfl⟩)
      have il := List.idxOf_lt_length_of_mem gm
      have dA : Dp K H' (.ref pe) (.list (E0.map fun t => PyData.tuple (t.map PyData.int))) := .lst (SqL.of (sA _ _ eE)) (dE sA)
      refine ⟨t, _, e3, SqT.of ht, rfl, _, _, rfl, _, _, rfl, _, _, rfl, rfl, rfl, ?_⟩
      refine ⟨_, rfl, rfl, _, rfl, ?_⟩
      refine iteT ⟨_, rfl, .inl ⟨rfl, _, SqL.of (sA _ _ eE)⟩, _, rfl, _, rfl, Dg, gs, _, .ref tg, rfl, rfl, SqL.of (sA _ _ (sE _ _ (sq _ _ eG))), atI_nat hgi, ?_⟩
      refine ⟨pe, .ref tg, .tuple ((goT p i).map PyData.int), E0.map fun t => PyData.tuple (t.map PyData.int), E0.idxOf (goT p i), .tuple ((goT p i).map PyData.int), rfl, rfl, dA, dp_tri htg, Shp.plain_shaped plE, Shp.plain_shaped (plain_tri _), ?_, ?_, fun m z' hm' hz' => ?_, ?_⟩
      · rw [List.getElem?_map, List.getElem?_eq_getElem il, List.getElem_idxOf il]
        rfl
      · rw [eqv_tri]
        exact decide_eq_true rfl
      · rw [List.getElem?_map] at hz'
        obtain ⟨u, hu, rfl⟩ := Option.map_eq_some_iff.mp hz'
        rw [eqv_tri]
        refine decide_eq_false fun z => ?_
        have nd0 : E0.Nodup := pmK.nodup_iff.mpr (evs_nodup p)
        have : m = E0.idxOf (goT p i) := (List.getElem?_inj (List.getElem?_eq_some_iff.mp hu).1 nd0).mp (by rw [hu, z, List.getElem?_eq_getElem il, List.getElem_idxOf il])
        omega
      · refine k2 _ ?_ _ (Same.refl _)
        unfold comT
        show _ = if (1 : Int) = 1 then ((E0.idxOf (goT p ((i : Int)).toNat) : Nat) : Int) else -1
        rw [if_pos rfl, Int.toNat_natCast]
    · rw [ek1] at ht k2
      have ht := sA _ _ ht
      refine ⟨t, _, e3, SqT.of ht, rfl, _, _, rfl, _, _, rfl, _, _, rfl, rfl, rfl, ?_⟩
      refine ⟨_, rfl, rfl, _, rfl, ?_⟩
      refine iteF ⟨_, rfl, ?_⟩
      exact k2 _ rfl _ (Same.refl _)
  rw [gather_map ys] at eA
  refine k E0 Dl HA ?_ pmK srtK ?_
  · exact G1.trans (Sh1.Grows.of ((((sC.trans sG).trans sq).trans sE).trans sA))
  · rw [eA]
    unfold Gof
    rw [← hE0, List.map_map, List.map_map]
    rfl
end
end Qu
set_option Elab.async false
set_option linter.all false
set_option maxRecDepth 100000
set_option maxHeartbeats 2000000
set_option autoImplicit false
/-! Who crosses whom among fewer guests. -/
namespace Qu
open PySem L2 Sho NdefX Shg Sh1 Gq Ck
theorem two_cons {x y r : Rw} {l : List Rw} : [x, y].Sublist (r :: l) ↔ (r = x ∧ y ∈ l) ∨ [x, y].Sublist l := by
  constructor
  · intro h
    cases h with
    | cons _ h => exact .inr h
    | cons_cons _ h => exact .inl ⟨rfl, List.singleton_sublist.mp h⟩
  · rintro (⟨rfl, h⟩ | h)
    · exact (List.singleton_sublist.mpr h).cons₂ _
    · exact h.cons _
theorem two_mem {x y : Rw} {l : List Rw} (h : [x, y].Sublist l) : x ∈ l ∧ y ∈ l := ⟨h.mem List.mem_cons_self, h.mem (List.mem_cons_of_mem _ List.mem_cons_self)⟩
theorem above_two {x y : Rw} : ∀ {l : List Rw}, l.Nodup → (y ∈ above x l ↔ [x, y].Sublist l)
  | [], _ => ⟨fun h => (nomatch h), fun h => (nomatch h)⟩
  | r :: l, nd => by
    rw [List.nodup_cons] at nd
    rw [two_cons]
    unfold above
    by_cases e : r = x
    · rw [if_pos e]
      subst e
      exact ⟨fun h => .inl ⟨rfl, h⟩, fun h => h.elim (fun z => z.2) fun z => absurd (two_mem z).1 nd.1⟩
    · rw [if_neg e, above_two nd.2]
      exact ⟨.inr, fun h => h.elim (fun z => absurd z.1 e) id⟩
theorem two_or {x y : Rw} : ∀ {l : List Rw}, x ∈ l → y ∈ l → x ≠ y → [x, y].Sublist l ∨ [y, x].Sublist l
  | r :: l, hx, hy, n => by
    rcases List.mem_cons.mp hx with rfl | hx'
    · exact .inl (two_cons.mpr (.inl ⟨rfl, (List.mem_cons.mp hy).resolve_left fun z => n z.symm⟩))
    · rcases List.mem_cons.mp hy with rfl | hy'
      · exact .inr (two_cons.mpr (.inl ⟨rfl, hx'⟩))
      · exact (two_or hx' hy' n).imp (fun h => h.cons _) fun h => h.cons _
theorem two_not {x y : Rw} : ∀ {l : List Rw}, l.Nodup → [x, y].Sublist l → ¬ [y, x].Sublist l
  | [], _, h, _ => nomatch h
  | r :: l, nd, h1, h2 => by
    rw [List.nodup_cons] at nd
    rcases two_cons.mp h1 with ⟨rfl, a⟩ | a
    · rcases two_cons.mp h2 with ⟨rfl, b⟩ | b
      · exact nd.1 a
      · exact nd.1 (two_mem b).2
    · rcases two_cons.mp h2 with ⟨rfl, b⟩ | b
      · exact nd.1 (two_mem a).2
      · exact two_not nd.2 a b
theorem two_filter {x y : Rw} {p : Rw → Bool} (hx : p x = true) (hy : p y = true) {l : List Rw} : [x, y].Sublist (l.filter p) ↔ [x, y].Sublist l := by
  constructor
  · exact fun h => h.trans List.filter_sublist
  · intro h
    have := h.filter p
    rw [List.filter_cons_of_pos hx, List.filter_cons_of_pos hy, List.filter_nil] at this
    exact this
theorem bot_two {rs : List Rw} (nd : rs.Nodup) {x y : Rw} : [x, y].Sublist (bot rs) ↔ x ∈ rs ∧ y ∈ rs ∧ x ≠ y ∧ (x.come < y.come ∨ (x.come = y.come ∧ [x, y].Sublist rs)) := by
  have nb : (bot rs).Nodup := (bot_perm rs).nodup_iff.mpr nd
  have srt : ∀ {a b : Rw}, [a, b].Sublist (bot rs) → a.come ≤ b.come := fun {a b} h => by
    have := (bot_sorted rs).sublist h
    exact (List.pairwise_cons.mp this).1 b List.mem_cons_self
  have eqc : x.come = y.come → ([x, y].Sublist (bot rs) ↔ [x, y].Sublist rs) := fun e => by
    rw [← two_filter (p := fun r => decide (r.come = x.come)) (decide_eq_true rfl) (decide_eq_true e.symm) (l := bot rs), Pq.bot_filter, two_filter (decide_eq_true rfl) (decide_eq_true e.symm)]
  constructor
  · intro h
    obtain ⟨m1, m2⟩ := two_mem h
    have ne : x ≠ y := fun z => by
      subst z
      exact two_not nb h h
    refine ⟨bot_mem.mp m1, bot_mem.mp m2, ne, ?_⟩
    have := srt h
    by_cases e : x.come = y.come
    · exact .inr ⟨e, (eqc e).mp h⟩
    · exact .inl (by omega)
  · rintro ⟨m1, m2, ne, h | ⟨e, h⟩⟩
    · rcases two_or (bot_mem.mpr m1) (bot_mem.mpr m2) ne with z | z
      · exact z
      · have := srt z
        omega
    · exact (eqc e).mpr h
theorem sub_two {ys rs : List Rw} (s : ys.Sublist rs) (nd : rs.Nodup) {x y : Rw} (hx : x ∈ ys) (hy : y ∈ ys) : [x, y].Sublist ys ↔ [x, y].Sublist rs := by
  constructor
  · exact fun h => h.trans s
  · intro h
    have ne : x ≠ y := fun z => by
      subst z
      exact two_not nd h h
    rcases two_or hx hy ne with z | z
    · exact z
    · exact absurd (z.trans s) (two_not nd h)
theorem crossed_two {rs : List Rw} (nd : rs.Nodup) {a b : Str} : (a, b) ∈ crossed rs ↔ ∃ x y, [x, y].Sublist (bot rs) ∧ x.nm = a ∧ y.nm = b ∧ y.come < x.go ∧ x.go < y.go := by
  have nb : (bot rs).Nodup := (bot_perm rs).nodup_iff.mpr nd
  unfold crossed
  rw [List.mem_flatMap]
  constructor
  · rintro ⟨x, hx, h⟩
    obtain ⟨y, hy, e⟩ := List.mem_map.mp h
    cases e
    unfold lifted at hy
    obtain ⟨h1, h2⟩ := List.mem_filter.mp hy
    unfold crosses at h2
    rw [Bool.and_eq_true, decide_eq_true_iff, decide_eq_true_iff] at h2
    exact ⟨x, y, (above_two nb).mp (List.mem_reverse.mp h1), rfl, rfl, h2⟩
  · rintro ⟨x, y, h, rfl, rfl, h2⟩
    refine ⟨x, (Kb.takers_perm rs).mem_iff.mpr (bot_mem.mp (two_mem h).1), List.mem_map.mpr ⟨y, ?_, rfl⟩⟩
    unfold lifted crosses
    refine List.mem_filter.mpr ⟨List.mem_reverse.mpr ((above_two nb).mpr h), ?_⟩
    rw [Bool.and_eq_true, decide_eq_true_iff, decide_eq_true_iff]
    exact h2
theorem sub_bot {ys rs : List Rw} (s : ys.Sublist rs) (nd : rs.Nodup) {x y : Rw} (hx : x ∈ ys) (hy : y ∈ ys) : [x, y].Sublist (bot ys) ↔ [x, y].Sublist (bot rs) := by
  rw [bot_two (nd.sublist s), bot_two nd, sub_two s nd hx hy]
  exact ⟨fun ⟨_, _, h⟩ => ⟨s.mem hx, s.mem hy, h⟩, fun ⟨_, _, h⟩ => ⟨hx, hy, h⟩⟩
theorem nm_inj {rs : List Rw} (nd : (rs.map Rw.nm).Nodup) {x y : Rw} (hx : x ∈ rs) (hy : y ∈ rs) (e : x.nm = y.nm) : x = y := by
  obtain ⟨i, hi⟩ := List.getElem?_of_mem hx
  obtain ⟨j, hj⟩ := List.getElem?_of_mem hy
  have l1 := (List.getElem?_eq_some_iff.mp hi).1
  have : i = j := (List.getElem?_inj (by rw [List.length_map]; exact l1) nd).mp (by rw [List.getElem?_map, List.getElem?_map, hi, hj]; exact congrArg some e)
  subst this
  rw [hi] at hj
  exact Option.some.inj hj
theorem sub_crossed {ys rs : List Rw} (s : ys.Sublist rs) (nd : (rs.map Rw.nm).Nodup) {a b : Str} (ha : a ∈ ys.map Rw.nm) (hb : b ∈ ys.map Rw.nm) : (a, b) ∈ crossed ys ↔ (a, b) ∈ crossed rs := by
  have ndr : rs.Nodup := rw_nodup' nd
  rw [crossed_two (ndr.sublist s), crossed_two ndr]
  constructor
  · rintro ⟨x, y, h, e⟩
    obtain ⟨m1, m2⟩ := two_mem h
    exact ⟨x, y, (sub_bot s ndr (bot_mem.mp m1) (bot_mem.mp m2)).mp h, e⟩
  · rintro ⟨x, y, h, rfl, rfl, e⟩
    obtain ⟨m1, m2⟩ := two_mem h
    obtain ⟨x', hx', e1⟩ := List.mem_map.mp ha
    obtain ⟨y', hy', e2⟩ := List.mem_map.mp hb
    have := nm_inj nd (s.mem hx') (bot_mem.mp m1) e1
    subst this
    have := nm_inj nd (s.mem hy') (bot_mem.mp m2) e2
    subst this
    exact ⟨x', y', (sub_bot s ndr hx' hy').mpr h, rfl, rfl, e⟩
theorem sub_near {ys rs : List Rw} (s : ys.Sublist rs) (nd : (rs.map Rw.nm).Nodup) : ∀ a ∈ ys.map Rw.nm, ∀ b ∈ ys.map Rw.nm, (b ∈ nearOf (crossed ys) a ↔ b ∈ nearOf (crossed rs) a) := fun a ha b hb => by
  rw [near_iff, near_iff, sub_crossed s nd ha hb, sub_crossed s nd hb ha]
end Qu
set_option Elab.async false
set_option linter.all false
set_option maxRecDepth 100000
set_option maxHeartbeats 2000000
/-! A list comprehension whose turns make new lists. -/
namespace Sho
open PySem PySem.Spec PyProof.Rows L2
section
/-- .. whose turns make new lists: Rl i y H, what holds of the i-th -/
theorem lc_relD {J : It} {n : Nat} {G : Hp → Prop} {Y : Nat → Hp → V → Hp → Prop} (w : Walk J n G Y) {g : TG} {te : TE} {vs : List Nat} {σ : L2.St} {H1 : Hp} {D : Addr} {Qd : Hp → Prop} (Rl : Nat → V → Hp → Prop) (hD : H1 D = none) (hz : n ≤ sizeLine)
    (hG : ∀ H, Same H1 H → G H) (stable : ∀ i y H H', (∀ b o, b ≠ D → H b = some o → H' b = some o) → Rl i y H → Rl i y H')
    (hs : ∀ i x H H', i < n → Same H1 H → (∃ zs, H D = some (.lst zs)) → Y i H x H' → ∀ R : V → Hp → Prop, (∀ y H4, Same H H4 → Rl i y H4 → R y H4) →
      g x (wipe σ vs) H' fun σ2 H2 => wipe σ2 vs = wipe σ vs ∧ te σ2 H2 R)
    (hd : ∀ H ys, Same H1 H → H D = some (.lst ys) → ys.length = n → (∀ i y, ys[i]? = some y → Rl i y H) → Qd H) :
    ∃ W : Nat → Nat → Hp → Prop, (∃ m, W 0 m (upd H1 D (.lst []))) ∧ ∀ i m H, W i m H →
      (J.stop i H ∧ Qd H) ∨ (J.go i H ∧ ∃ Nx : Hp → Prop, (∀ H', Nx H' → ∃ m', m' < m ∧ W (i + 1) m' H') ∧ ∀ x H', J.yld i H x H' → g x (wipe σ vs) H' fun σ2 H2 => wipe σ2 vs = wipe σ vs ∧ tYes σ2 H2 fun b H3 =>
        if b = true then te σ2 H3 fun y H4 => ∃ acc, H4 D = some (.lst acc) ∧ acc.length < sizeLine ∧ Nx (upd H4 D (.lst (acc ++ [y]))) else Nx H3) := by
  have s0 : ∀ o, Same H1 (upd H1 D o) := fun o b u e => by rw [upd_ne (ne_of_none e hD)]; exact e
  refine lc_it w (fun i H => Same H1 H ∧ ∃ ys, H D = some (.lst ys) ∧ ys.length = i ∧ ∀ j y, ys[j]? = some y → Rl j y H) ⟨s0 _, [], upd_same, rfl, fun j y e => by simp at e⟩ (fun i H _ p => hG H p.1) (fun i x H H' hi p y => ?_) fun H p => ?_
  · obtain ⟨p1, ys, p2, p3, p4⟩ := p
    have z := hs i x H H' hi p1 ⟨_, p2⟩ y (fun y H4 => ∃ acc, H4 D = some (.lst acc) ∧ acc.length < sizeLine ∧ Same H1 (upd H4 D (.lst (acc ++ [y]))) ∧
      ∃ ys, upd H4 D (.lst (acc ++ [y])) D = some (.lst ys) ∧ ys.length = i + 1 ∧ ∀ j y', ys[j]? = some y' → Rl j y' (upd H4 D (.lst (acc ++ [y])))) fun y H4 q r => by
        have e4 := q _ _ p2
        have tups : ∀ o b u, b ≠ D → H4 b = some u → upd H4 D o b = some u := fun o b u hb e => by
          rw [upd_ne hb]
          exact e
        refine ⟨ys, e4, by rw [p3]; exact Nat.lt_of_lt_of_le hi hz, fun b u e => by rw [upd_ne (ne_of_none e hD)]; exact (p1.trans q) b u e, ys ++ [y], upd_same, by simp [p3], fun j y' e => ?_⟩
        by_cases hj : j < ys.length
        · rw [List.getElem?_append_left hj] at e
          exact stable j y' H4 _ (tups _) (stable j y' H H4 (fun b u _ e => q _ _ e) (p4 j y' e))
        · rw [List.getElem?_append_right (by omega)] at e
          have ej : j = ys.length := by
            have := (List.getElem?_eq_some_iff.mp e).1
            simp at this
            omega
          subst ej
          simp at e
          subst e
          rw [p3]
          exact stable _ _ H4 _ (tups _) r
    exact z
  · obtain ⟨p1, ys, p2, p3, p4⟩ := p
    exact hd H ys p1 p2 p3 p4
end
end Sho
set_option Elab.async false
set_option linter.all false
set_option maxRecDepth 100000
set_option maxHeartbeats 8000000
set_option autoImplicit false
/-! quiet_count. -/
namespace Qu
open PySem L2 Sho NdefX Shg Sh1 Gq Ck
abbrev NQd : List Str := ["stays", "goings", "many", "most", "first", "going", "end", "joined", "_"]
theorem Mt_step {G : Nat → Int} {N f e : Nat} (hf : f < e) (he : e ≤ N) : Mt G N f e = if (f : Int) < G f ∧ G f < (e : Int) then max (1 + Mt G N (f + 1) (G f).toNat + Mt G N ((G f).toNat + 1) e) (Mt G N (f + 1) e) else Mt G N (f + 1) e := by
  cases N with
  | zero => omega
  | succ k =>
    have fu : ∀ a b, b - a ≤ k → Mt G (k + 1) a b = Mt G k a b := fun a b h => Mt_fuel G (k + 1) k a b (by omega) h
    rw [fu (f + 1) e (by omega)]
    conv => lhs; unfold Mt
    rw [if_neg (by omega)]
    by_cases hg : (f : Int) < G f ∧ G f < (e : Int)
    · rw [if_pos hg, if_pos hg, fu (f + 1) (G f).toNat (by omega), fu ((G f).toNat + 1) e (by omega)]
    · rw [if_neg hg, if_neg hg]
def row (N : Nat) (t : Nat → Nat) : List V := (List.range (N + 1)).map fun e => V.int (t e : Nat)
theorem row_get {N : Nat} {t : Nat → Nat} {e : Nat} (h : e ≤ N) : (row N t)[e]? = some (.int (t e : Nat)) := by
  unfold row
  rw [List.getElem?_map, List.getElem?_range (by omega)]
  rfl
theorem row_len (N : Nat) (t : Nat → Nat) : (row N t).length = N + 1 := by
  unfold row
  rw [List.length_map, List.length_range]
def updT (t : Nat → Nat → Nat) (f e v : Nat) : Nat → Nat → Nat := fun i j => if i = f ∧ j = e then v else t i j
theorem row_set {N f e v : Nat} {t : Nat → Nat → Nat} : (row N (t f)).set e (.int (v : Nat)) = row N (updT t f e v f) := by
  refine List.ext_getElem? fun j => ?_
  by_cases hj : j ≤ N
  · rw [row_get hj, List.getElem?_set]
    by_cases h : e = j
    · rw [if_pos h, if_pos (by rw [row_len]; omega)]
      unfold updT
      rw [if_pos ⟨rfl, h.symm⟩]
    · rw [if_neg h, row_get hj]
      unfold updT
      rw [if_neg fun z => h z.2.symm]
  · rw [List.getElem?_eq_none (by rw [List.length_set, row_len]; omega), List.getElem?_eq_none (by rw [row_len]; omega)]
structure Tab (H1 H : Hp) (Lm : Addr) (ra : List Addr) (N : Nat) (t : Nat → Nat → Nat) : Prop where
  s : Same H1 H
  m : H Lm = some (.lst (ra.map V.ref))
  len : ra.length = N + 1
  nd : ra.Nodup
  ne : ∀ a ∈ ra, a ≠ Lm ∧ H1 a = none
  at_ : ∀ (i : Nat) (a : Addr), ra[i]? = some a → H a = some (.lst (row N (t i)))
theorem Tab.put {H1 H : Hp} {Lm : Addr} {ra : List Addr} {N : Nat} {t : Nat → Nat → Nat} (k : Tab H1 H Lm ra N t) {f e v : Nat} {a : Addr} (ha : ra[f]? = some a) : Tab H1 (upd H a (.lst ((row N (t f)).set e (.int (v : Nat))))) Lm ra N (updT t f e v) := by
  have hm := k.ne a (List.mem_of_getElem? ha)
  refine ⟨fun b o h => ?_, ?_, k.len, k.nd, k.ne, fun i b hb => ?_⟩
  · rw [upd_ne (ne_of_none h hm.2)]
    exact k.s _ _ h
  · rw [upd_ne hm.1.symm]
    exact k.m
  · by_cases h : b = a
    · subst h
      have : i = f := (List.getElem?_inj (List.getElem?_eq_some_iff.mp hb).1 k.nd).mp (by rw [hb, ha])
      subst this
      rw [upd_same, row_set]
    · rw [upd_ne h, k.at_ i b hb]
      have : i ≠ f := fun z => by
        subst z
        rw [hb] at ha
        exact h (Option.some.inj ha)
      congr 2
      unfold row updT
      refine List.map_congr_left fun j _ => ?_
      rw [if_neg fun z => this z.1]
theorem Tab.row {H1 H : Hp} {Lm : Addr} {ra : List Addr} {N : Nat} {t : Nat → Nat → Nat} (k : Tab H1 H Lm ra N t) {f : Nat} (hf : f ≤ N) : ∃ a, ra[f]? = some a ∧ H a = some (.lst (row N (t f))) := by
  have h : ra[f]? = some (ra[f]'(by rw [k.len]; omega)) := List.getElem?_eq_getElem _
  exact ⟨_, h, k.at_ f _ h⟩
theorem Tab.cell {K : PySem.W.Frag} {H1 H : Hp} {Lm : Addr} {ra : List Addr} {N : Nat} {t : Nat → Nat → Nat} (k : Tab H1 H Lm ra N t) {f : Nat} (hf : f ≤ N) {z : Int} (hz : z = (f : Nat)) : ∃ a, ra[f]? = some a ∧ H a = some (.lst (Qu.row N (t f))) ∧ SqL K H Lm (ra.map V.ref) ∧ atI (ra.map V.ref) z = some (.ref a) := by
  obtain ⟨a, h1, h2⟩ := k.row hf
  refine ⟨a, h1, h2, SqL.of k.m, ?_⟩
  rw [hz]
  exact atI_nat (by rw [List.getElem?_map, h1]; rfl)
section
variable {P : Program} {w : World} {K : PySem.W.Frag} {mg : Str → Option Value} {base : Heap}
def spQuiet (K : PySem.W.Frag) (T : List (Addr × Str)) : Sp := fun vs H Q _ => ∃ (a : Addr) (ws : List V) (xs : List Stay), vs = [.ref a] ∧ (SqL K H a ws ∨ SqT K H a ws) ∧ StaysV H ws xs ∧ xs.length ≤ 100 ∧ (xs.map fun x => x.1).Nodup ∧ (∀ x ∈ xs, x.2.1 < x.2.2) ∧ LamX.Tabs T H ∧
  ∀ (m : Nat) H', Grows T H H' → Alpha (nearOf (crossed (xs.map rw3))) (xs.map fun x => x.1) m → Q (.int (m : Nat)) H'
theorem scQd : FnScope NQd ["stays"] (defScope sQuietCount) := ⟨rfl, rfl, rfl, by decide +kernel, rfl, by decide +kernel, by decide +kernel⟩
theorem ok_quiet {f fG : Addr} {fd fdG : FuncData} {T : List (Addr × Str)} (F : Fun K "quiet_count" "quiet_count" sQuietCount f fd) (B : Shg.Blt mg) (mRev : mg "reversed" = none) (GG : FnOk P w K mg base CX0 6 fG fdG ["stays"] (spGoings K T)) (mG : mg "_goings_by_event" = some (.ref fG)) (kG : PySem.W.keepIn K (.ref fG) = true) (bG : Binds K fdG ["stays"] []) :
    FnOk P w K mg base CX0 7 f fd ["stays"] (spQuiet K T) := by
  refine F.ok scQd (fun vs H Q E h => ?_) (fun cdv A outer s H vs Q E hr h => ?_)
  · obtain ⟨a, ws, xs, rfl, _⟩ := h
    rfl
  obtain ⟨a, ws, xs, rfl, ha, sv, hl, nm, hv, hT, k⟩ := h
  have nd := scQd.nd
  refine ⟨_, (pss_cons (ps_set (i := 1) nd rfl (Or.inl rfl) (pe_call GG (hr.mono (by decide)) rfl mG kG bG .nil pass0 (pa_cons (pv 0) pa_nil)))
      (pss_cons (ps_set (i := 2) nd rfl (Or.inr rfl) (pe_callB call_len_seq (by rfl) B.len PySem.boot_len (pa_cons (pv 1) pa_nil)))
      (pss_cons (ps_setLc (i := 3) (own := [("_", 8)]) (g := gName 8) (tt := tYes) (te := tOp rRep (tLst (tCons (tC (.int 0)) tNil)) (tOp (rI0 fun i j => .int (i + j)) (tVar 2) (tC (.int 1)))) rfl nd rfl rfl (sw_true rfl rfl rfl (by decide +kernel)) (pi_range1 (by rfl) B.range (pa_cons (pe_op op_add (pv 2) pe_int) pa_nil)) (blkOk_by (own := [("_", 8)]) (N := NQd) (sc := defScope sQuietCount) (by decide +kernel))
        (fun _ _ _ _ _ => (pg_name (i := 8) nd rfl (Or.inl rfl))) (fun _ _ _ _ _ => pts_nil) (fun _ _ _ _ _ => (pe_op op_rep (pe_lst (pa_cons pe_int pa_nil)) (pe_op op_add (pv 2) pe_int))))
      (pss_cons (ps_for PassesOwn.never rfl (pi_revR (by rfl) mRev (prg_1 (by rfl) B.range (pv 2))) (pg_name (i := 4) nd rfl (Or.inl rfl)) (pss_cons (ps_set (i := 5) nd rfl (Or.inl rfl) (pe_ix ix_list (pv 1) (pv 4) (fun _ _ => rfl)))
      (pss_one (ps_for PassesOwn.never rfl (pi_range2 (by rfl) B.range (pa_cons (pe_op op_add (pv 4) pe_int) (pa_cons (pe_op op_add (pv 2) pe_int) pa_nil))) (pg_name (i := 6) nd rfl (Or.inl rfl)) (pss_cons (ps_asg (pe_ix ix_list (pe_ix ix_list (pv 3) (pe_op op_add (pv 4) pe_int) (fun _ _ => rfl)) (pv 6) (fun _ _ => rfl)) (pg_sub (pe_ix ix_list (pv 3) (pv 4) (fun _ _ => rfl)) (pv 6) set_list))
      (pss_one (ps_if (pt_chain op_lt op_lt (pv 4) (pv 5) (pv 6)) (pss_cons (ps_set (i := 7) nd rfl (Or.inl rfl) (pe_op op_add (pe_op op_add pe_int (pe_ix ix_list (pe_ix ix_list (pv 3) (pe_op op_add (pv 4) pe_int) (fun _ _ => rfl)) (pv 5) (fun _ _ => rfl))) (pe_ix ix_list (pe_ix ix_list (pv 3) (pe_op op_add (pv 5) pe_int) (fun _ _ => rfl)) (pv 6) (fun _ _ => rfl))))
      (pss_one (ps_asg (pe_callB (call_max2 rfl) (by rfl) B.max (by decide +kernel) (pa_cons (pv 7) (pa_cons (pe_ix ix_list (pe_ix ix_list (pv 3) (pe_op op_add (pv 4) pe_int) (fun _ _ => rfl)) (pv 6) (fun _ _ => rfl)) pa_nil))) (pg_sub (pe_ix ix_list (pv 3) (pv 4) (fun _ _ => rfl)) (pv 6) set_list)))) pss_nil)))))))
      (pss_one (ps_ret (pe_ix ix_list (pe_ix ix_list (pv 3) pe_int (fun _ _ => rfl)) (pv 2) (fun _ _ => rfl)))))))), ?_⟩
  refine ⟨_, rfl, a, ws, xs, rfl, ha, sv, hl, hT, fun E g H1 G1 pmE srtE eg => ?_⟩
  generalize hp : bot (xs.map rw3) = p at pmE srtE eg
  have lp : p.length = xs.length := by rw [← hp, bot_length, List.length_map]
  have srtP : p.Pairwise fun a b => a.come ≤ b.come := by rw [← hp]; exact bot_sorted _
  have ev := ev_of srtP pmE srtE
  have lG : (Gof p E).length = 2 * p.length := by unfold Gof; rw [List.length_map, pmE.length_eq, evs_len]
  generalize hgl : Gof p E = gl at ev lG eg
  obtain ⟨N, hN⟩ : ∃ N, N = 2 * p.length := ⟨_, rfl⟩
  rw [← hN] at lG
  have N200 : N ≤ 200 := by omega
  have z200 : (10000 : Nat) ≤ sizeLine := by decide
  have z1 : (1 : Nat) ≤ sizeLine := by decide
  refine name_at ?_
  refine ⟨_, rfl, g, _, rfl, .inl (SqL.of eg), ?_⟩
  rw [List.length_map, lG]
  refine name_at ?_
  -- the table
  refine ⟨_, rfl, _, _, rfl, rfl, _, rfl, by omega, by omega, fun Lm hLm => ?_⟩
  have tn : (((N : Nat) : Int) + 1).toNat = N + 1 := by omega
  rw [tn]
  have zrow : (List.replicate (((N : Nat) : Int) + 1).toNat [V.int 0]).flatten = row N fun _ => 0 := by
    rw [tn]
    refine List.ext_getElem? fun j => ?_
    have fl : (List.replicate (N + 1) [V.int 0]).flatten = List.replicate (N + 1) (V.int 0) := by
      generalize N + 1 = n
      induction n with
      | zero => rfl
      | succ n ih => rw [List.replicate_succ, List.flatten_cons, ih, List.replicate_succ]; rfl
    rw [fl]
    by_cases hj : j ≤ N
    · rw [row_get hj, List.getElem?_replicate, if_pos (by omega)]
      rfl
    · rw [List.getElem?_eq_none (by rw [List.length_replicate]; omega), List.getElem?_eq_none (by rw [row_len]; omega)]
  refine loop_any (walk_range (lo := 0) (n := N + 1)) (fun i H' => ∃ ra : List Addr, Same H1 H' ∧ H' Lm = some (.lst (ra.map V.ref)) ∧ ra.length = i ∧ ra.Nodup ∧ ∀ a ∈ ra, a ≠ Lm ∧ H1 a = none ∧ H' a = some (.lst (row N fun _ => 0))) ⟨[], Shg.same_upd hLm, upd_same, rfl, List.nodup_nil, fun _ h => nomatch h⟩ (fun _ _ _ _ => trivial) (fun i y HA HB hi q yy => ?_) fun HA q => ?_
  · obtain ⟨ra, sA, eA, lra, ndr, rA⟩ := q
    obtain ⟨rfl, ey⟩ := yy
    refine ⟨rfl, z1, fun t0 ht0 => ?_⟩
    have s1 := Shg.same_upd (o := .lst [V.int 0]) ht0
    refine ⟨_, rfl, _, _, rfl, rfl, t0, _, [V.int 0], rfl, rfl, upd_same, by omega, by omega, ?_, fun q hq => ?_⟩
    · show 1 * _ ≤ _
      omega
    rw [zrow]
    have s2 := s1.trans (Shg.same_upd (o := .lst (row N fun _ => 0)) hq)
    have e2 : upd (upd HB t0 (.lst [V.int 0])) q (.lst (row N fun _ => 0)) q = some (.lst (row N fun _ => 0)) := upd_same
    have fq : HB q = none := none_back s1 hq
    have nq : q ≠ Lm := fun z => by
      rw [z, eA] at fq
      cases fq
    have nra : q ∉ ra := fun z => by
      have := (rA q z).2.2
      rw [this] at fq
      cases fq
    generalize upd (upd HB t0 (.lst [V.int 0])) q (.lst (row N fun _ => 0)) = HC at s2 e2 ⊢
    have eC := s2 _ _ eA
    refine ⟨_, eC, by rw [List.length_map]; omega, ra ++ [q], fun b o e => ?_, by rw [upd_same, List.map_append]; rfl, by rw [List.length_append, lra]; rfl, ?_, fun b hb => ?_⟩
    · rw [upd_ne (ne_of_none e hLm)]
      exact (sA.trans s2) _ _ e
    · rw [List.nodup_append]
      exact ⟨ndr, by simp, fun x hx z hz e => nra (by rw [List.mem_singleton.mp hz] at e; rw [← e]; exact hx)⟩
    · rcases List.mem_append.mp hb with h | h
      · obtain ⟨b1, b2, b3⟩ := rA b h
        exact ⟨b1, b2, by rw [upd_ne b1]; exact s2 _ _ b3⟩
      · rw [List.mem_singleton.mp h]
        exact ⟨nq, none_back sA fq, by rw [upd_ne nq]; exact e2⟩
  obtain ⟨ra, sA, eA, lra, ndr, rA⟩ := q
  have T0 : Tab H1 HA Lm ra N (fun _ _ => 0) := ⟨sA, eA, lra, ndr, fun a h => ⟨(rA a h).1, (rA a h).2.1⟩, fun i a h => (rA a (List.mem_of_getElem? h)).2.2⟩
  clear sA eA lra ndr rA
  refine name_at ?_
  let G : Nat → Int := fun j => gl.getD j 0
  have gat : ∀ f, f < N → (gl.map V.int)[f]? = some (.int (G f)) := fun f hf => by
    show _ = some (V.int (gl.getD f 0))
    rw [List.getElem?_map, List.getD_eq_getElem?_getD, List.getElem?_eq_getElem (by omega)]
    rfl
  refine ⟨_, rfl, _, rfl, by decide, by decide, by omega, by omega, ?_⟩
  have en : (((N : Nat) : Int) - 0).toNat = N := by omega
  rw [en]
  refine for_it walk_rangeC (fun m σ H' => ∃ o4 o5 o6 o7 t, σ = [some (.ref a), some (.ref g), some (.int (N : Nat)), some (.ref Lm), o4, o5, o6, o7, none] ∧ Tab H1 H' Lm ra N t ∧ (∀ i e, N - m ≤ i → i ≤ N → e ≤ N → t i e = Mt G N i e) ∧ (∀ i e, i < N - m → t i e = 0))
    ⟨none, none, none, none, _, rfl, T0, fun i e h1 h2 h3 => (Mt_none G N i e (by omega)).symm, fun _ _ _ => rfl⟩ (fun _ _ _ _ _ => trivial) ?_ ?_
  · rintro m y σ HB HC hm ⟨o4, o5, o6, o7, t, rfl, T1, done, zero⟩ ⟨rfl, ey⟩
    obtain ⟨f, hf⟩ : ∃ f, N - m = f + 1 := ⟨N - m - 1, by omega⟩
    have ey' : y = .int (f : Int) := ey.trans (congrArg V.int (by omega))
    subst ey'
    clear ey
    have fN : f < N := by omega
    refine name_at ?_
    refine ⟨_, rfl, _, rfl, g, _, _, _, rfl, rfl, SqL.of (T1.s _ _ eg), atI_nat (gat f fN), ?_⟩
    refine name_at ?_
    refine ⟨_, rfl, _, _, rfl, rfl, _, rfl, _, _, rfl, rfl, _, _, rfl, ⟨by omega, by omega, by omega, by omega⟩, ?_⟩
    have tn2 : (((N : Nat) : Int) + 1 - (((f : Nat) : Int) + 1)).toNat = N - f := by omega
    rw [tn2]
    refine for_it (walk_range (lo := ((f : Nat) : Int) + 1) (n := N - f)) (fun j σ H' => ∃ o6 o7 t, σ = [some (.ref a), some (.ref g), some (.int (N : Nat)), some (.ref Lm), some (.int (f : Nat)), some (.int (G f)), o6, o7, none] ∧ Tab H1 H' Lm ra N t ∧ (∀ i e, f < i → i ≤ N → e ≤ N → t i e = Mt G N i e) ∧ (∀ e, e ≤ f + j → t f e = Mt G N f e) ∧ (∀ e, f + j < e → t f e = 0) ∧ (∀ i e, i < f → t i e = 0))
      ⟨o6, o7, t, rfl, T1, fun i e h1 h2 h3 => done i e (by omega) h2 h3, fun e he => by rw [zero f e (by omega), Mt_none G N f e (by omega)], fun e he => zero f e (by omega), fun i e hi => zero i e (by omega)⟩ (fun _ _ _ _ _ => trivial) ?_ ?_
    · clear done zero T1 t
      rintro j y σ HD HE hj ⟨o6, o7, t, rfl, T1, hi, now, later, low⟩ ⟨rfl, ey⟩
      obtain ⟨e, he⟩ : ∃ e, e = f + 1 + j := ⟨_, rfl⟩
      have ey' : y = .int (e : Int) := ey.trans (congrArg V.int (by omega))
      subst ey'
      clear ey
      have eN : e ≤ N := by omega
      have fe : f < e := by omega
      refine name_at ?_
      obtain ⟨b, hb, hb2, hb3, hb4⟩ := T1.cell (K := K) (f := f + 1) (by omega) (z := ((f : Nat) : Int) + 1) (by omega)
      obtain ⟨c, hc, hc2, hc3, hc4⟩ := T1.cell (K := K) (f := f) (by omega) (z := ((f : Nat) : Int)) rfl
      refine ⟨_, rfl, _, rfl, _, _, rfl, rfl, Lm, _, _, .ref b, rfl, rfl, hb3, hb4, _, rfl, b, _, _, .int (t (f + 1) e : Nat), rfl, rfl, SqL.of hb2, atI_nat (row_get eN), ?_⟩
      refine ⟨_, rfl, _, rfl, Lm, _, _, .ref c, rfl, rfl, hc3, hc4, _, rfl, c, _, _, e, rfl, rfl, hc2, Shg.ixN_nat (by rw [row_len]; omega), ?_⟩
      have T2 := T1.put (e := e) (v := t (f + 1) e) hc
      generalize upd HE c (.lst ((row N (t f)).set e (.int (t (f + 1) e : Nat)))) = HF at T2 ⊢
      have v1 : t (f + 1) e = Mt G N (f + 1) e := hi (f + 1) e (by omega) (by omega) eN
      have step := Mt_step (G := G) fe eN
      have other : ∀ (u : Nat) (i e' : Nat), i ≠ f → updT t f e u i e' = t i e' := fun u i e' h => if_neg fun z => h z.1
      have fin : ∀ (v : Nat) (HG : Hp) (o7 : Option V), v = Mt G N f e → Tab H1 HG Lm ra N (updT t f e v) → ∃ o6 o7' t, [some (V.ref a), some (.ref g), some (.int (N : Nat)), some (.ref Lm), some (.int (f : Nat)), some (.int (G f)), some (.int (e : Nat)), o7, none] = [some (.ref a), some (.ref g), some (.int (N : Nat)), some (.ref Lm), some (.int (f : Nat)), some (.int (G f)), o6, o7', none] ∧ Tab H1 HG Lm ra N t ∧ (∀ i e, f < i → i ≤ N → e ≤ N → t i e = Mt G N i e) ∧ (∀ e, e ≤ f + (j + 1) → t f e = Mt G N f e) ∧ (∀ e, f + (j + 1) < e → t f e = 0) ∧ (∀ i e, i < f → t i e = 0) := fun v HG o7 hv TG => by
        refine ⟨_, _, _, rfl, TG, fun i e' h1 h2 h3 => ?_, fun e' h1 => ?_, fun e' h1 => ?_, fun i e' h1 => ?_⟩
        · rw [other _ _ _ (by omega)]
          exact hi i e' h1 h2 h3
        · by_cases h : e' = e
          · subst h
            unfold updT
            rw [if_pos ⟨rfl, rfl⟩, hv]
          · unfold updT
            rw [if_neg fun z => h z.2]
            exact now e' (by omega)
        · unfold updT
          rw [if_neg fun z => by omega]
          exact later e' (by omega)
        · rw [other _ _ _ (by omega)]
          exact low i e' h1
      have skip : ¬ ((f : Int) < G f ∧ G f < (e : Int)) → Mt G N f e = t (f + 1) e := fun h => by
        rw [step, if_neg h, v1]
      refine ⟨_, rfl, _, rfl, _, _, rfl, rfl, _, rfl, ?_⟩
      refine ite2 (fun q1 => ?_) (fun q1 => ?_)
      · have q1 := of_decide_eq_true q1
        refine ⟨_, rfl, _, _, rfl, rfl, _, rfl, ?_⟩
        refine ite2 (fun q2 => ?_) (fun q2 => ?_)
        · have q2 := of_decide_eq_true q2
          obtain ⟨gg, hgg⟩ : ∃ gg : Nat, G f = (gg : Int) := ⟨(G f).toNat, by omega⟩
          have g1 : f < gg := by omega
          have g2 : gg < e := by omega
          rw [hgg] at step
          rw [if_pos ⟨by omega, by omega⟩, Int.toNat_natCast] at step
          obtain ⟨b', hb', hb2', hb3', hb4'⟩ := T2.cell (K := K) (f := f + 1) (by omega) (z := ((f : Nat) : Int) + 1) (by omega)
          obtain ⟨d', hd', hd2', hd3', hd4'⟩ := T2.cell (K := K) (f := gg + 1) (by omega) (z := G f + 1) (by omega)
          obtain ⟨c', hc', hc2', hc3', hc4'⟩ := T2.cell (K := K) (f := f) (by omega) (z := ((f : Nat) : Int)) rfl
          have w1 : updT t f e (t (f + 1) e) (f + 1) gg = Mt G N (f + 1) gg := by rw [other _ _ _ (by omega)]; exact hi _ _ (by omega) (by omega) (by omega)
          have w2 : updT t f e (t (f + 1) e) (gg + 1) e = Mt G N (gg + 1) e := by rw [other _ _ _ (by omega)]; exact hi _ _ (by omega) (by omega) eN
          have w3 : updT t f e (t (f + 1) e) (f + 1) e = Mt G N (f + 1) e := by rw [other _ _ _ (by omega)]; exact v1
          have a1 : atI (row N (updT t f e (t (f + 1) e) (f + 1))) (G f) = some (.int (Mt G N (f + 1) gg : Nat)) := by rw [hgg, ← w1]; exact atI_nat (row_get (by omega))
          have a2 : atI (row N (updT t f e (t (f + 1) e) (gg + 1))) ((e : Nat) : Int) = some (.int (Mt G N (gg + 1) e : Nat)) := by rw [← w2]; exact atI_nat (row_get eN)
          have a3 : atI (row N (updT t f e (t (f + 1) e) (f + 1))) ((e : Nat) : Int) = some (.int (Mt G N (f + 1) e : Nat)) := by rw [← w3]; exact atI_nat (row_get eN)
          refine ⟨_, rfl, _, rfl, _, _, rfl, rfl, Lm, _, _, .ref b', rfl, rfl, hb3', hb4', _, rfl, b', _, _, _, rfl, rfl, SqL.of hb2', a1, _, _, rfl, rfl, ?_⟩
          refine ⟨_, rfl, _, rfl, _, _, rfl, rfl, Lm, _, _, .ref d', rfl, rfl, hd3', hd4', _, rfl, d', _, _, _, rfl, rfl, SqL.of hd2', a2, _, _, rfl, rfl, ?_⟩
          refine name_at ?_
          refine ⟨_, rfl, _, rfl, _, rfl, _, _, rfl, rfl, Lm, _, _, .ref b', rfl, rfl, hb3', hb4', _, rfl, b', _, _, _, rfl, rfl, SqL.of hb2', a3, _, _, rfl, ?_⟩
          refine ⟨_, rfl, _, rfl, Lm, _, _, .ref c', rfl, rfl, hc3', hc4', _, rfl, c', _, _, e, rfl, rfl, hc2', Shg.ixN_nat (by rw [row_len]; omega), ?_⟩
          have em : (if ((Mt G N (f + 1) e : Nat) : Int) > 1 + ((Mt G N (f + 1) gg : Nat) : Int) + ((Mt G N (gg + 1) e : Nat) : Int) then ((Mt G N (f + 1) e : Nat) : Int) else 1 + ((Mt G N (f + 1) gg : Nat) : Int) + ((Mt G N (gg + 1) e : Nat) : Int)) = ((Mt G N f e : Nat) : Int) := by
            rw [step]
            split <;> omega
          have T3 := T2.put (e := e) (v := Mt G N f e) hc'
          have up : updT (updT t f e (t (f + 1) e)) f e (Mt G N f e) = updT t f e (Mt G N f e) := by
            funext i' j'
            unfold updT
            by_cases h : i' = f ∧ j' = e
            · rw [if_pos h, if_pos h]
            · rw [if_neg h, if_neg h, if_neg h]
          rw [up] at T3
          refine fin _ _ _ rfl ?_
          rw [← em] at T3
          exact T3
        · have : Mt G N f e = t (f + 1) e := skip fun z => q2 (decide_eq_true z.2)
          exact fin _ _ _ this.symm T2
      · have : Mt G N f e = t (f + 1) e := skip fun z => q1 (decide_eq_true z.1)
        exact ⟨_, rfl, iteF (fin _ _ _ this.symm T2)⟩
    · rintro σ HD ⟨o6, o7, t, rfl, T2, hi, now, later, low⟩
      refine ⟨_, _, _, _, t, rfl, T2, fun i e h1 h2 h3 => ?_, fun i e h => low i e (by omega)⟩
      by_cases h : i = f
      · subst h
        exact now e (by omega)
      · exact hi i e (by omega) h2 h3
  · rintro σ HB ⟨o4, o5, o6, o7, t, rfl, T1, done, zero⟩
    obtain ⟨b, hb, hb2, hb3, hb4⟩ := T1.cell (K := K) (Nat.zero_le N) (z := 0) rfl
    have hb5 : atI (row N (t 0)) ((N : Nat) : Int) = some (.int (t 0 N : Nat)) := atI_nat (row_get (Nat.le_refl N))
    refine ⟨_, rfl, Lm, _, 0, .ref b, rfl, rfl, hb3, hb4, _, rfl, b, _, _, _, rfl, rfl, SqL.of hb2, hb5, ?_⟩
    rw [done 0 N (by omega) (Nat.zero_le _) (Nat.le_refl _)]
    refine k _ _ (G1.trans (Sh1.Grows.of T1.s)) ?_
    have mx := ev.most fun i hi => by
      have hm : rwAt p i ∈ bot (xs.map rw3) := by
        rw [hp]
        unfold rwAt
        rw [List.getD_eq_getElem?_getD, List.getElem?_eq_getElem hi]
        exact List.getElem_mem hi
      obtain ⟨x, hx, e⟩ := List.mem_map.mp (bot_mem.mp hm)
      rw [← e]
      exact hv x hx
    rw [← hN, ← hp] at mx
    rw [← nm_rw]
    exact alpha_of (by rw [nm_rw]; exact nm) mx
end
end Qu
set_option Elab.async false
set_option linter.all false
set_option maxRecDepth 100000
set_option maxHeartbeats 2000000
/-! a, *b = a list. -/
namespace Sho
open PySem PySem.Spec PyProof.Rows L2 PySem.W
section
variable {prog : Program} {w : World} {A : Around} {E : Value → Shared → Prop} {s : Shared}
theorem unpackItems_starL {l : Addr} {items : Array Value} {v0 : Value} {Q : List Value → Shared → Prop} (hh : A.handled = none) (hl : s.heap.IsList l items) (h0 : items[0]? = some v0) (hz : items.size ≤ sizeLine)
    (hQ : ∀ s' : Shared, (∀ b o, s.heap.get? b = some o → s'.heap.get? b = some o) → s'.gens = s.gens → s'.drawn = s.drawn → s'.os = s.os →
      Q [v0, .ref s'.heap.objs.size] { s' with heap := s'.heap.push { cls := .type "list", data := .seq (items.toList.drop 1).toArray } }) : wpAny (model prog w) A (unpackItems (.ref l) 2 (some 1)) Q E s := by
  have h1 : 1 ≤ items.size := by
    rcases Nat.eq_zero_or_pos items.size with e | e
    · rw [Array.getElem?_eq_none (by omega)] at h0
      cases h0
    · exact e
  have hlt : l ≠ s.heap.objs.size := by obtain ⟨o, ho, _⟩ := hl; exact Nat.ne_of_lt (Heap.lt_size ho)
  unfold unpackItems
  refine wpAny_bind ?_
  unfold notIterableAtAll
  refine wpAny_bind (wpAny_specialOf hl.typeIs slot_list_iter.lookup (wpAny_pure ?_))
  simp only [Bool.false_eq_true, if_false]
  refine wpAny_bind (wpAny_holding (wpAny_pyIter_list hl ?_))
  refine wpAny_bind (wpAny_holding (kun_draw hlt 1 0 _ _ ⟨_, Heap.get?_push_size _ rfl, rfl, rfl⟩ (hl.push _) (by omega) fun h₁ hit₁ hs₁ => ?_))
  have hl₁ : h₁.IsList l items := (hl.push _).extBut hs₁.extBut hlt
  rw [Nat.zero_add] at hit₁
  have hit₁' := hit₁
  obtain ⟨oi, hoi, _⟩ := hit₁'
  have hl₁' := hl₁
  obtain ⟨ol, hol, _⟩ := hl₁'
  have e1 : List.take 1 (List.drop 0 items.toList) = [v0] := by
    rw [List.drop_zero]
    cases hl : items.toList with
    | nil =>
      have : items.size = 0 := by rw [← Array.length_toList, hl]; rfl
      omega
    | cons x r =>
      have : items.toList[0]? = some v0 := by rw [Array.getElem?_toList]; exact h0
      rw [hl] at this
      have : x = v0 := Option.some.inj this
      rw [this]
      rfl
  rw [e1, if_neg (by simp)]
  refine wpAny_bind (wpAny_holding (kun_collect (s := { s with heap := h₁ }) (T := "list_iterator") (.inr (.inr (.inl rfl))) (Walks.list (A := A.in1) hh s.heap.objs.size l hlt items) (fun j u st => st.1.typeIs) (k := 1) (by omega) ⟨hit₁, hl₁⟩ (Heap.lt_size hoi) (Heap.lt_size hol) (fun h₂ tk hk => ?_) hz))
  have el : (items.toList.drop 1).length = items.size - 1 := by rw [List.length_drop, Array.length_toList]
  have em : (items.toList.drop 1).take ((items.toList.drop 1).length - (2 - 1 - 1)) = items.toList.drop 1 := List.take_of_length_le (by omega)
  have ed : (items.toList.drop 1).drop ((items.toList.drop 1).length - (2 - 1 - 1)) = [] := List.drop_of_length_le (by omega)
  rw [if_neg (by omega), em, ed]
  refine wpAny_bind (wpAny_newObj_type (wpAny_pure (hQ { s with heap := h₂, toks := tk } (fun b o eb => hk b o (fun hb => ?_) (hs₁.extBut b o (fun z => ?_) (Heap.get?_push_of_some _ eb))) rfl rfl rfl)) ?_)
  · rw [hb] at eb
    exact Nat.lt_irrefl _ (Heap.lt_size eb)
  · rw [z] at eb
    exact Nat.lt_irrefl _ (Heap.lt_size eb)
  · show (items.toList.drop 1).toArray.size ≤ sizeLine
    rw [List.size_toArray, el]
    omega
end
/-- a, *b = a list of at least one item -/
def gStarL (K : PySem.W.Frag) (t u : TG) : TG := fun v σ H Q => ∃ a x xs, v = .ref a ∧ SqL K H a (x :: xs) ∧ ∀ p, H p = none → t x σ (upd H p (.lst xs)) fun σ' H' => u (.ref p) σ' H' Q
theorem pg_starL {X : Cx} {e f : Expr} {k : Nat} {t u : TG} {p pos : Pos} (hc : X.calm = true) (h1 : PG X e t) (h2 : PG X f u)
    (hn : (assignEach [e, .Starred f p] X.env) = [(false, assign e X.env), (true, assign f X.env)] := by rfl) : PG X (.Tuple [e, .Starred f p] k pos) (gStarL X.K t u) := by
  refine ⟨fun pins s σ H v w Q I r hw => ?_⟩
  obtain ⟨a, x, xs, rfl, hq, hw⟩ := hw
  cases r
  obtain ⟨its, rv, ht, hz⟩ := I.list hq
  cases rv with
  | @cons _ v0 _ rest r0 rr =>
    rw [assign_Tuple]
    refine wpAny_bind (wpAny_standAt ?_)
    unfold unpack
    rw [hn]
    have hl := rr.length
    refine wpAny_bind (wpAny_holding (unpackItems_starL (I.ok.hd hc) ht.isList (v0 := v0) (by simp) (by rw [List.size_toArray]; simp only [List.length_cons]; rw [← hl]; simpa using hz) fun s' kp hg hd ho => ?_))
    have I1 : Inv X pins σ H { s with heap := s'.heap, toks := s'.toks } := I.kept (t' := s'.toks) fun b o e => kp b o e
    have es : ({ s' with heap := s'.heap.push { cls := .type "list", data := .seq ((v0 :: rest).toArray.toList.drop 1).toArray } } : Shared) = { s with heap := s'.heap.push { cls := .type "list", data := .seq rest.toArray }, toks := s'.toks } := by
      obtain ⟨a1, a2, a3, a4, a5⟩ := s'
      obtain rfl := hg
      obtain rfl := hd
      obtain rfl := ho
      simp
    rw [es]
    have hfree : H s'.heap.objs.size = none := I1.hok.fresh (Nat.le_refl _)
    have I2 : Inv X pins σ (upd H s'.heap.objs.size (.lst xs)) { s with heap := s'.heap.push { cls := .type "list", data := .seq rest.toArray }, toks := s'.toks } :=
      I1.laid (t' := s'.toks) (o := .lst xs) (fun _ _ z => Heap.get?_push_of_some _ z) (Nat.le_refl _) ⟨by simp only [List.length_cons] at hz; omega, _, 0, rr, Heap.get?_push_size _ rfl⟩
    refine assignInOrder_cons (thn (h1.run pins _ σ _ _ _ _ I2 r0 (hw _ hfree)) fun _ s3 ⟨σ3, H3, I3, q3⟩ => ?_)
    exact assignInOrder_cons (thn (h2.run pins s3 σ3 H3 (.ref s'.heap.objs.size) _ Q I3 rfl q3) fun _ s4 ⟨σ4, H4, I4, q4⟩ => assignInOrder_nil ⟨σ4, H4, I4, q4⟩)
end Sho
set_option Elab.async false
set_option linter.all false
set_option maxRecDepth 100000
set_option maxHeartbeats 4000000
/-! set(list of ints). -/
namespace Shg
open PySem PySem.Spec PyProof.Rows L2
abbrev nset (w : World) : Obj := { cls := .type "set", dict := none, data := .set #[] 0 (.fresh 0 0 (!w.params.followText "set-order")) }
section
variable {P : Program} {w : World} {A : Around} {E : Value → Shared → Prop} {s : Shared}
set_option maxHeartbeats 3200000 in
theorem set_of_list {b : Addr} {vals : Array Value} (zs : List Int) {G : Value → Shared → Prop} (nh : A.handled = none) (lst : s.heap.IsList b vals) (areI : IntsAre vals.toList zs) (few : zs.length + 1 < scanBound)
    (got : ∀ (hp : Heap) (t n : Nat), SetR w hp s.heap.objs.size (fun j => decide (j ∈ zs)) n → n ≤ zs.length → (∀ a o, s.heap.get? a = some o → hp.get? a = some o) → G (.ref s.heap.objs.size) { s with heap := hp, toks := t }) :
    wpAny (model P w) A (call (.type "set") [.ref b]) G E s := by
  have len : vals.size = zs.length := (Array.length_toList (xs := vals)).symm.trans (IntsAre.length areI)
  obtain ⟨c0, tl0, mro0⟩ := F.called_set.mro
  have q1 := F.called_set.made
  have q2 := F.called_set.sub
  have q3 := F.called_set.notType
  have q4 := F.called_set.canCreate
  have q5 := F.typeCall_set_1 (.ref b)
  refine wpAny_call (codeAny_of_tree (wpAny_pure ⟨Code.quiet_builtin _ (by decide +kernel), codeAny_builtin F.entry_type_call ?_⟩))
  rw [Around.under_plain (weight_type_call_type "set" [.ref b] []) rfl]
  repeat (any_goals (first | assumption | wp_step))
  refine codeAny_mono (code_set_led1 (.ref b) (E := E) (Q₁ := fun x s1 => x = .ref s.heap.objs.size ∧ s1 = { s with heap := s.heap.push (nset w) }) ⟨rfl, rfl⟩) fun r s1 hr => ?_
  rcases r with e | fl
  · exact hr
  cases fl with
  | ret x =>
    obtain ⟨rfl, rfl⟩ := hr
    have there : (s.heap.push (nset w)).get? s.heap.objs.size = some (nset w) := Heap.get?_push_size _ rfl
    have isset : Shared.TypeIs { s with heap := s.heap.push (nset w) } (.ref s.heap.objs.size) "set" := ⟨_, there, rfl⟩
    have i1 := F.called_set.init.lookup
    have i2 := F.called_set.init.bind (.ref s.heap.objs.size)
    repeat (any_goals (first | assumption | wp_step))
    refine codeAny_mono (codeAny_call_builtin (R := wants (fun r s2 => r = .none ∧ ∃ hp t n, s2 = { s with heap := hp, toks := t } ∧ SetR w hp s.heap.objs.size (fun j => decide (j ∈ zs)) n ∧ n ≤ zs.length ∧ (∀ a o, s.heap.get? a = some o → hp.get? a = some o)) E)
      F.called_set.init.plain F.entry_set_init (check_set_init_1 isset ?_)) fun r2 s2 hr2 => ?_
    · obtain ⟨ob, hob, cl, nb, dt⟩ := lst
      obtain ⟨ob1, ob2, ob3, ob4⟩ := ob
      simp only at cl dt
      subst cl dt
      have hob' : (s.heap.push (nset w)).get? b = some { cls := .type "list", dict := ob2, data := .seq vals nb, slots := ob4 } := Heap.get?_push_of_some _ hob
      have n1 := F.sub_list_set
      have n2 := F.sub_list_frozenset
      have n3 : (Value.type "list" == Value.type "dict") = false := by decide
      have lst' : (s.heap.push (nset w)).IsList b vals := ⟨_, hob', rfl, nb, rfl⟩
      unfold Builtin.«set.__init__» noKeywords Builtin.Frozenset.updateFrom
      generalize hit : pyIter = IT
      wp_walk
      subst hit
      refine wpAny_pyIter_list lst' (wpAny_bind (wpAny_runValue ?_))
      have old : b < s.heap.objs.size := Heap.lt_size hob
      have sz : (s.heap.push (nset w)).objs.size = s.heap.objs.size + 1 := Heap.size_push ..
      have nh3 : A.in1.in1.in1.handled = none := by simp [nh]
      have ne1 : b ≠ (s.heap.push (nset w)).objs.size := by
        rw [sz]
        exact Nat.ne_of_lt (Nat.lt_succ_of_lt old)
      have ne2 : s.heap.objs.size ∉ [(s.heap.push (nset w)).objs.size, b] := by
        rw [sz]
        simp only [List.mem_cons, List.not_mem_nil, or_false, not_or]
        exact ⟨Nat.ne_of_lt (Nat.lt_succ_self _), Nat.ne_of_gt old⟩
      have each : ∀ (i : Nat) (v : Value), vals[i]? = some v → ∃ k t, zs[i]? = some k ∧ v = .int k t := fun i v hv => by
        have hi : i < zs.length := len ▸ (Array.getElem?_eq_some_iff.mp hv).1
        obtain ⟨t, e⟩ := PyProof.Rows.IntsAre.int_at areI i v ((Array.getElem?_toList ..).trans hv)
        exact ⟨zs[i], t, List.getElem?_eq_getElem hi, by rw [e, List.getD_eq_getElem?_getD, List.getElem?_eq_getElem hi] <;> rfl⟩
      refine set_update_ints ((Walks.list nh3 _ b ne1 vals).toS) s.heap.objs.size ne2 zs len few each (vals.size - 0) 0 _ (by omega) (Nat.zero_le _) ⟨⟨_, Heap.get?_push_size _ rfl, rfl, rfl⟩, (lst'.push _)⟩ ⟨0, Nat.le_refl 0, setR_new_at (Heap.get?_push_of_some _ there)⟩ fun s3 n mv le R => ?_
      obtain ⟨hp, g3, d3, t3, o3⟩ := s3
      obtain rfl : g3 = s.gens := mv.gens
      obtain rfl : d3 = s.drawn := mv.drawn
      obtain rfl : o3 = s.os := mv.os
      refine wpAny_pure (wpAny_pure ⟨rfl, hp, t3, n, rfl, R, len ▸ le, fun a o e => ?_⟩)
      have la : a < s.heap.objs.size := Heap.lt_size e
      refine mv.heap a o ?_ (Heap.get?_push_of_some _ (Heap.get?_push_of_some _ e))
      rw [sz]
      simp only [List.mem_cons, List.not_mem_nil, or_false, not_or]
      exact ⟨Nat.ne_of_lt la, Nat.ne_of_lt (Nat.lt_succ_of_lt la)⟩
    · rcases r2 with e | f2
      · exact hr2
      cases f2 with
      | ret r =>
        obtain ⟨rfl, hp, t, n, rfl, R, le, kp⟩ := hr2
        repeat (any_goals (first | assumption | wp_step))
        exact got _ _ _ R le kp
      | _ => exact hr2.elim
  | _ => exact hr.elim
end
/-- set(list of ints): a new set of them -/
def rSetL (K : PySem.W.Frag) (w : World) : List V → Hp → VK → Prop := fun vs H Q => ∃ (a : Addr) (ns : List Int), vs = [.ref a] ∧ SqL K H a (ns.map V.int) ∧ ns.length ≤ 1000 ∧
  ∀ (p : Addr) (n : Nat), H p = none → n ≤ ns.length → Q (.ref p) (upd H p (SetO w p (fun j => decide (j ∈ ns)) n))
theorem cr_setL {X : Cx} (hc : X.calm = true) : CallR X (.type "set") (rSetL X.K X.w) := by
  intro pins s σ H vs us Q I r h
  obtain ⟨a, ns, rfl, ha, hl, q⟩ := h
  rw [Vals.ref1 r]
  obtain ⟨its, rv, pl, _⟩ := I.list ha
  refine set_of_list ns (I.ok.hd hc) pl.isList (intsAre_of rv) (by unfold scanBound; omega) fun hp t n R le kp => ?_
  exact ⟨.ref s.heap.objs.size, upd H s.heap.objs.size (SetO X.w s.heap.objs.size (fun j => decide (j ∈ ns)) n), I.laid (t' := t) kp (Nat.le_refl _) (setO_new R), rfl, q _ n (I.hok.fresh (Nat.le_refl _)) le⟩
end Shg
set_option Elab.async false
set_option linter.all false
set_option maxRecDepth 100000
set_option maxHeartbeats 2000000
/-! xs[::e], where e gives minus one. -/
namespace Shg
open PySem PySem.Spec PyProof.Rows L2
/-- te: the list; ts: the step, which must be -1 -/
def tRevE (K : PySem.W.Frag) (te : TE) (ts : TO) : TE := fun σ H Q => te σ H fun x H1 => ts σ H1 fun o H2 => o = some (-1) ∧ ∃ a xs, x = .ref a ∧ SqL K H2 a xs ∧ ∀ p, H2 p = none → Q (.ref p) (upd H2 p (.lst xs.reverse))
theorem pe_revE {X : Cx} {e st : Expr} {te : TE} {ts : TO} {pp pos : Pos} (he : PE X e te) (hst : PO X (some st) ts) : PE X (.Subscript e (.Slice none none (some st) pp) pos) (tRevE X.K te ts) := by
  refine ⟨fun pins s σ H Q I h => Subscript_ (thn (he.run pins s σ H _ I h) fun v sa ⟨x, Ha, Ia, ra, qa⟩ => ?_)⟩
  refine wpAny_Slice (thn (po_none.run pins sa σ Ha (fun o G => o = none ∧ G = Ha) Ia ⟨rfl, rfl⟩) fun va sb ⟨oa, Hb, Ib, pa, za, zb⟩ => ?_)
  obtain rfl := za
  obtain rfl := zb
  refine thn (po_none.run pins sb σ Hb (fun o G => o = none ∧ G = Hb) Ib ⟨rfl, rfl⟩) fun vb sc ⟨ob, Hc, Ic, pb, zc, zd⟩ => ?_
  obtain rfl := zc
  obtain rfl := zd
  refine thn (hst.run pins sc σ Hc _ Ic qa) fun vc sd ⟨oc, Hd, Id, pc, zo, a, xs, zx, hx, q⟩ => ?_
  subst zo zx
  cases ra
  have Ie : Inv X pins σ Hd { sd with heap := sd.heap.push { cls := .type "slice", data := .fields #[va, vb, vc] } } := Id.kept (t' := sd.toks) fun _ _ z => Heap.get?_push_of_some _ z
  obtain ⟨its, rv, pl, hz⟩ := Ie.list hx
  have len := rv.length
  show wpAny (model X.prog X.w) X.A (subscriptTail e (.Slice none none (some st) pp) (.ref a) (.ref sd.heap.objs.size)) (EP X pins σ Q) X.xe _
  refine tail_any (ops := [.ref a, .ref sd.heap.objs.size]) pl.isList.typeIs (PySem.slot_list_getitem.lookup) ?_ (by with_unfolding_all rfl)
  refine wpAny_getItem_list_slice pl.isList (Heap.IsSliceOf.new _ va vb vc) pa pb pc (by decide) ?_ (by rw [List.size_toArray]; omega)
  rw [PySem.W.krv_pick]
  exact ⟨.ref _, _, Ie.laid (t' := sd.toks) (o := .lst xs.reverse) (fun _ _ z => Heap.get?_push_of_some _ z) (Nat.le_refl _) ⟨by rw [List.length_reverse]; exact hz, _, 0, rv.reverse, Heap.get?_push_size _ rfl⟩, rfl, q _ (Ie.hok.fresh (Nat.le_refl _))⟩
end Shg
set_option Elab.async false
set_option linter.all false
set_option maxRecDepth 100000
set_option maxHeartbeats 2000000
/-! sorted(a set of ints), up to a thousand of them. -/
namespace Shg
open PySem PySem.Spec PyProof.Rows L2 SrtO
section
variable {P : Program} {w : World} {A : Around} {E : Value → Shared → Prop} {s : Shared} {a : Addr}
theorem sorted_setW {M : Int → Bool} {n : Nat} {Q : Value → Shared → Prop} (R : SetR w s.heap a M n) (hd0 : A.handled = none) (few : n ≤ 1000)
    (fin : ∀ s' p (out : List Value) (c : Nat) (ks : List Int), (∀ b o, s.heap.get? b = some o → s'.heap.get? b = some o) → s'.gens = s.gens → s'.os = s.os → s.heap.objs.size ≤ p →
      s'.heap.get? p = some (seqObj "list" out.toArray c) → IntsAre out ks → ks.Pairwise (· < ·) → (∀ k, k ∈ ks ↔ M k = true) → ks.length = n → Q (.ref p) s') :
    wpAny (model P w) A (call (.builtin "sorted") [.ref a]) Q E s := by
  obtain ⟨o, es, ep, t, ho, hex, hd, each, nodup, mem, hb, hf, hn, hr, hl⟩ := R
  refine Calls.call_function_entry kind_sorted plain_sorted entry_sorted (args_sorted1 _) ?_
  unfold Builtin.«sorted»
  refine wpAny_bind (m := checkCount "sorted" 1 1 _) (wpAny_pure (wpAny_bind (collect_set (A := A.in1) hd0 ⟨o, ho, hex.1, hd⟩ hf hb hr hl fun s1 us kept sz gens os perm => ?_)))
  have len : us.length = n := (perm.length_eq.trans (List.length_map ..)).trans ((Array.length_toList).trans hn)
  have are : IntsAre us (us.map Builtin.Re.reRawOf) := ints_of us fun v hv => by
    obtain ⟨e, he, q⟩ := List.mem_map.mp (perm.mem_iff.mp hv)
    obtain ⟨k, tk, h1, _⟩ := each e he
    exact ⟨k, tk, q.symm.trans h1⟩
  have keys : (us.map Builtin.Re.reRawOf).Perm (es.toList.map keyOf) := by
    have := perm.map Builtin.Re.reRawOf
    rwa [List.map_map] at this
  have line : us.length ≤ sizeLine := by rw [len, sizeLine_eq]; omega
  refine wpAny_bind (wpAny_newList ?_ line)
  have new : (s1.heap.push (seqObj "list" us.toArray 0)).get? s1.heap.objs.size = some (seqObj "list" us.toArray 0) := Heap.get?_push_size _ rfl
  refine wpAny_bind (wpAny_holding (wpAny_call_entry slot_list_sort ⟨_, new, rfl⟩ entry_list_sort (list_sort_ord swo_int new line (fun h2 => ints_sortable are h2) fun out h1 h2 => ⟨_, rfl, ?_⟩) (args_list_sort _)))
  obtain ⟨k1, k2, k3⟩ := ints_out are h1 h2
  obtain ⟨c, hc⟩ := sortedHeap_at (vs := us) (out := out.toArray) new
  have all : (out.map iv).Perm (es.toList.map keyOf) := k2.trans keys
  refine wpAny_pure ⟨_, rfl, fin _ s1.heap.objs.size out c (out.map iv) (fun b u e => ?_) gens os sz hc k1 (lt_of_le_nodup _ k3 (all.nodup_iff.mpr nodup)) (fun k => by rw [all.mem_iff, ← mem k]) ?_⟩
  · have q := kept b u e
    have lt := Heap.lt_size q
    show (sortedHeap (s1.heap.push (seqObj "list" us.toArray 0)) s1.heap.objs.size us out.toArray).get? b = some u
    rw [sortedHeap_old (Nat.ne_of_lt lt) (Nat.lt_of_lt_of_le lt (by rw [Heap.size_push]; exact Nat.le_succ _))]
    exact Heap.get?_push_of_some _ q
  · rw [all.length_eq, List.length_map, Array.length_toList]
    exact hn
end
def rSortedSetW (w : World) : List V → Hp → VK → Prop := fun vs H Q => ∃ (a : Addr) (M : Int → Bool) (n : Nat), vs = [V.ref a] ∧ H a = some (SetO w a M n) ∧ n ≤ 1000 ∧
  ∀ (ks : List Int) (p : Addr), ks.Pairwise (· < ·) → (∀ k : Int, k ∈ ks ↔ M k = true) → ks.length = n → H p = none → Q (.ref p) (upd H p (.lst (ks.map V.int)))
theorem cr_sortedSetW {X : Cx} (hc : X.calm = true) : CallR X (.builtin "sorted") (rSortedSetW X.w) := by
  intro pins s σ H vs us Q I r h
  obtain ⟨a, M, n, rfl, ha, few, q⟩ := h
  rw [Vals.ref1 r]
  refine sorted_setW (setO_get I ha) (I.ok.hd hc) few fun s' p out c ks kept gens os hp at_ are rise mem len => ?_
  have line : (ks.map V.int).length ≤ sizeLine := by rw [List.length_map, len, sizeLine_eq]; omega
  have free : H p = none := I.hok.fresh hp
  refine ⟨.ref p, _, I.call' (ch := []) (H' := upd H p (.lst (ks.map V.int))) os (Un.laid kept hp free) (I.hok.laid kept hp ⟨line, out, c, vals_of_ints are, at_⟩) (by rw [gens]; exact I.bare) (fun _ z => nomatch z), rfl, q ks p rise mem len free⟩
end Shg
set_option Elab.async false
set_option linter.all false
set_option maxRecDepth 100000
set_option maxHeartbeats 8000000
set_option autoImplicit false
/-! _law_played: a party tick by tick; the first item of a row is anything. -/
namespace Pq
open PySem L2 Sho NdefX Shg Sh1
abbrev NPl : List Str := ["_law_rows_here", "_law_pile", "_law_lifted", "_law_piles", "_law_ticks", "_law_tick", "_law_place", "_law_other", "_law_row"]
theorem ticks_crossed {rs : List Rw} (hv : ∀ r ∈ rs, r.come < r.go) (nd : rs.Nodup) {ts : List Int} (hs : ts.Pairwise (fun a b => a < b)) (hc : ∀ r ∈ rs, r.come ∈ ts ∧ r.go ∈ ts) : crossed rs = ts.flatMap fun t => (tickOf rs t (pileTo rs t)).1 := by
  have st := sorted_flat (f := Rw.go) ts (takers rs) hs (sortV_sorted Rw.go _) fun r hr => (hc r (takers_mem hr)).2
  show (takers rs).flatMap (liftsOf rs) = _
  rw [← st]
  have fl : ∀ l : List Int, (l.flatMap fun t => (takers rs).filter fun r => decide (r.go = t)).flatMap (liftsOf rs) = l.flatMap fun t => ((bot rs).reverse.filter fun r => decide (r.go = t)).flatMap (liftsOf rs) := fun l => by
    induction l with
    | nil => rfl
    | cons t l ih =>
      rw [List.flatMap_cons, List.flatMap_append, ih, List.flatMap_cons]
      congr 2
      exact sortV_filter Rw.go (bot rs).reverse t
  rw [fl ts]
  exact flat_congrI fun t _ => (tick_out hv nd t).symm
/-- a row as it stands: its first item is nv of it -/
def PlayAt (nv : Rw → V) (H : Hp) (v : V) (r : Rw) : Prop := ∃ t, v = .ref t ∧ H t = some (.tup [nv r, .int r.come, .int r.go])
def PairR (nv : Rw → V) (H : Hp) (v : V) (q : Rw × Rw) : Prop := ∃ t, v = .ref t ∧ H t = some (.tup [nv q.1, nv q.2])
/-- the piles behind the ticks -/
def PilesAt (nv : Rw → V) (rs : List Rw) (H : Hp) (kvs : List (Key × V)) (ts : List Int) : Prop := PySem.Paired (fun (kv : Key × V) (t : Int) => kv.1 = .inl t ∧ ∃ l, kv.2 = .ref l ∧ H l = some (.lst ((pileOf rs t).map nv))) kvs ts
/-- tuples stay -/
def TupK (H H' : Hp) : Prop := ∀ b vs, H b = some (.tup vs) → H' b = some (.tup vs)
theorem TupK.same {H H' : Hp} (s : Same H H') : TupK H H' := fun b vs e => s b _ e
theorem TupK.trans {H H1 H2 : Hp} (a : TupK H H1) (b : TupK H1 H2) : TupK H H2 := fun c vs e => b c vs (a c vs e)
theorem TupK.updL {H : Hp} {L : Addr} {xs : List V} {o : HO} (e : H L = some (.lst xs)) : TupK H (upd H L o) := fun b vs h => by
  rw [upd_ne fun z => by rw [z, e] at h; cases h]
  exact h
theorem play_keep {nv : Rw → V} {H H' : Hp} (k : TupK H H') {ws : List V} {rs : List Rw} (h : PySem.Paired (PlayAt nv H) ws rs) : PySem.Paired (PlayAt nv H') ws rs := pair_mono (fun _ _ ⟨t, e, ht⟩ => ⟨t, e, k _ _ ht⟩) h
theorem pairR_keep {nv : Rw → V} {H H' : Hp} (k : TupK H H') {ws : List V} {qs : List (Rw × Rw)} (h : PySem.Paired (PairR nv H) ws qs) : PySem.Paired (PairR nv H') ws qs := pair_mono (fun _ _ ⟨t, e, ht⟩ => ⟨t, e, k _ _ ht⟩) h
/-- what stands through the ticks -/
structure Std (nv : Rw → V) (rs : List Rw) (H0 H : Hp) (p Li Di : Addr) (ts : List Int) (kvs : List (Key × V)) (i : Nat) : Prop where
  same : Same H0 H
  ep : H p = some (.lst (ts.map V.int))
  eD : H Di = some (.dK kvs)
  pl : PySem.Paired (fun (kv : Key × V) (t : Int) => kv.1 = .inl t ∧ ∃ l, kv.2 = .ref l ∧ l ≠ Li ∧ H l = some (.lst ((pileOf rs t).map nv))) kvs (ts.take i)
theorem Std.go {nv : Rw → V} {rs : List Rw} {H0 H H' : Hp} {p Li Di : Addr} {ts : List Int} {kvs : List (Key × V)} {i : Nat} (d : Std nv rs H0 H p Li Di ts kvs i) (s : Same H H') : Std nv rs H0 H' p Li Di ts kvs i :=
  ⟨d.same.trans s, s _ _ d.ep, s _ _ d.eD, pair_mono (fun _ _ ⟨a, l, e, n, h⟩ => ⟨a, l, e, n, s _ _ h⟩) d.pl⟩
theorem same_upd0 {H0 H : Hp} {L : Addr} {o : HO} (s : Same H0 H) (n : H0 L = none) : Same H0 (upd H L o) := fun b u e => by
  rw [upd_ne (ne_of_none e n)]
  exact s b u e
theorem Std.out {nv : Rw → V} {rs : List Rw} {H0 H : Hp} {p Li Di : Addr} {ts : List Int} {kvs : List (Key × V)} {i : Nat} {o : HO} (d : Std nv rs H0 H p Li Di ts kvs i) (n : H0 Li = none) (n1 : p ≠ Li) (n2 : Di ≠ Li) : Std nv rs H0 (upd H Li o) p Li Di ts kvs i :=
  ⟨same_upd0 d.same n, by rw [upd_ne n1]; exact d.ep, by rw [upd_ne n2]; exact d.eD, pair_mono (fun _ _ ⟨a, l, e, m, h⟩ => ⟨a, l, e, m, by rw [upd_ne m]; exact h⟩) d.pl⟩
theorem gone_len (t : Int) : ∀ l : List Rw, (gone t l).1.length ≤ l.length * l.length ∧ (gone t l).2.length ≤ l.length
  | [] => ⟨Nat.zero_le _, Nat.zero_le _⟩
  | x :: l => by
    have ⟨h1, h2⟩ := gone_len t l
    unfold gone
    have : (l.length + 1) * (l.length + 1) = l.length * l.length + l.length + l.length + 1 := by rw [Nat.add_mul, Nat.mul_add]; omega
    split
    · refine ⟨?_, ?_⟩
      · rw [List.length_append, List.length_map, List.length_reverse, List.length_cons]
        omega
      · rw [List.length_cons]
        exact Nat.le_succ_of_le h2
    · refine ⟨?_, ?_⟩
      · show (gone t l).1.length ≤ _
        rw [List.length_cons]
        omega
      · rw [List.length_cons, List.length_cons]
        exact Nat.succ_le_succ h2
theorem pairs_filter {R : V → Rw → Prop} {rs : List Rw} {ws : List V} (h : PySem.Paired R ws rs) (p : Rw → Bool) : ∀ n, n ≤ rs.length → PySem.Paired R (gather (fun i => (rs[i]?).bind fun c => if p c = true then ws[i]? else none) n) ((rs.take n).filter p)
  | 0, _ => .nil
  | n + 1, hn => by
    have ih := pairs_filter h p n (by omega)
    have hl := Shg.pair_len h
    have e1 : ws[n]? = some (ws[n]'(by omega)) := List.getElem?_eq_getElem (by omega)
    obtain ⟨r, hr, hR⟩ := Shg.pair_get h e1
    rw [List.take_add_one, hr, List.filter_append]
    cases hp : p r with
    | true =>
      rw [gather_some (y := ws[n]'(by omega)) (by rw [hr]; show (if p r = true then _ else _) = _; rw [hp, if_pos rfl, e1])]
      refine Shg.pair_app ih ?_
      show PySem.Paired R _ (List.filter p [r])
      rw [List.filter_cons_of_pos hp]
      exact .cons hR .nil
    | false =>
      rw [gather_none (by rw [hr]; show (if p r = true then _ else _) = _; rw [hp, if_neg Bool.false_ne_true])]
      show PySem.Paired R _ (_ ++ List.filter p [r])
      rw [List.filter_cons_of_neg (by rw [hp]; exact Bool.false_ne_true), List.filter_nil, List.append_nil]
      exact ih
theorem put_new {kvs : List (Key × V)} {k : Key} {v : V} (h : ∀ kv ∈ kvs, kv.1 ≠ k) : putK kvs k v = kvs ++ [(k, v)] := by
  unfold putK
  rw [if_neg]
  intro e
  obtain ⟨kv, hm, e⟩ := List.any_eq_true.mp e
  exact h kv hm (of_decide_eq_true e)
theorem cut_fromN (ws : List V) (k : Nat) : cutV ws (some (k : Int)) none = ws.drop k := by
  unfold cutV
  rw [HT.sIx_none, HT.sIx_nat]
  by_cases h : k ≤ ws.length
  · rw [Nat.min_eq_left h, List.take_of_length_le (by rw [List.length_drop]; exact Nat.le_refl _)]
  · rw [Nat.min_eq_right (by omega), Nat.sub_self, List.take_zero, List.drop_of_length_le (by omega)]
theorem cut_toN (ws : List V) (k : Nat) : cutV ws none (some (k : Int)) = ws.take k := by
  unfold cutV
  rw [HT.sIx_none, HT.sIx_nat, List.drop_zero, Nat.sub_zero]
  by_cases h : k ≤ ws.length
  · rw [Nat.min_eq_left h]
  · rw [Nat.min_eq_right (by omega), List.take_length, List.take_of_length_le (by omega)]
theorem pair_rev {α β : Type} {R : α → β → Prop} : ∀ {as : List α} {bs : List β}, PySem.Paired R as bs → PySem.Paired R as.reverse bs.reverse
  | _, _, .nil => .nil
  | _, _, .cons h r => by
    rw [List.reverse_cons, List.reverse_cons]
    exact Shg.pair_app (pair_rev r) (.cons h .nil)
section
variable {P : Program} {w : World} {K : PySem.W.Frag} {mg : Str → Option Value} {base : Heap}
theorem units1 {k : Nat} {A : Around} (r : Room k A) : A.units + 1 < cLine := by have := r.un; omega
theorem scPlayed : FnScope NPl ["_law_rows_here"] (defScope sLawPlayed) := ⟨rfl, rfl, rfl, by decide +kernel, rfl, by decide +kernel, by decide +kernel⟩
def spPlayed (K : PySem.W.Frag) : Sp := fun vs H Q _ => ∃ (a : Addr) (ws : List V) (rs : List Rw) (nv : Rw → V), vs = [.ref a] ∧ SqL K H a ws ∧ PySem.Paired (PlayAt nv H) ws rs ∧ rs.length ≤ 100 ∧ (∀ r ∈ rs, r.come < r.go) ∧ rs.Nodup ∧
  ∀ (t L D : Addr) (out : List V) (kvs : List (Key × V)) (ts : List Int) (H' : Hp), Same H H' → H' t = some (.tup [.ref L, .ref D]) → H' L = some (.lst out) → PySem.Paired (PairR nv H') out (crossed rs) → H' D = some (.dK kvs) →
    PilesAt nv rs H' kvs ts → ts.Pairwise (· < ·) → (∀ k, k ∈ ts ↔ ∃ r ∈ rs, r.come = k ∨ r.go = k) → Q (.ref t) H'
theorem ok_played {f : Addr} {fd : FuncData} (F : Fun K "_law_played" "_law_played" sLawPlayed f fd) (B : Shg.Blt mg) : FnOk P w K mg base CX0 1 f fd ["_law_rows_here"] (spPlayed K) := by
  refine F.ok scPlayed (fun vs H Q E h => ?_) (fun cdv A outer s H vs Q E hr h => ?_)
  · obtain ⟨a, ws, rs, nv, rfl, _⟩ := h
    rfl
  obtain ⟨a, ws, rs, nv, rfl, ha, hw, hl, hv, nd0, kk⟩ := h
  have nd := scPlayed.nd
  have lw := Shg.pair_len hw
  refine ⟨_, (pss_cons (ps_par3 (i := 1) (j := 2) (l := 3) rfl nd rfl rfl rfl (by decide) (by decide) (by decide) rfl rfl rfl (pa_cons (pe_lst pa_nil) (pa_cons (pe_lst pa_nil) (pa_cons pe_dnewK pa_nil))) rfl)
      (pss_cons (ps_set (i := 4) nd rfl (Or.inl rfl) (pe_callB (cr_sortedSetW rfl) (by rfl) B.sorted (by decide +kernel) (pa_cons (pe_callTy (cr_setL rfl) (by rfl) B.set (by decide +kernel) (pa_cons (pe_op op_cat (pe_lc (own := [("_law_row", 8)]) (g := gName 8) (tt := tYes) (te := tOp (rIxT K) (tVar 8) (tC (.int 1))) rfl nd (pi_list (pv 0)) (blkOk_by (own := [("_law_row", 8)]) (N := NPl) (sc := defScope sLawPlayed) (by decide +kernel))
        (fun _ _ _ _ _ => (pg_name (i := 8) nd rfl (Or.inl rfl))) (fun _ _ _ _ _ => pts_nil) (fun _ _ _ _ _ => (pe_ix ix_tup (pv 8) pe_int (fun _ _ => rfl)))) (pe_lc (own := [("_law_row", 8)]) (g := gName 8) (tt := tYes) (te := tOp (rIxT K) (tVar 8) (tC (.int 2))) rfl nd (pi_list (pv 0)) (blkOk_by (own := [("_law_row", 8)]) (N := NPl) (sc := defScope sLawPlayed) (by decide +kernel))
        (fun _ _ _ _ _ => (pg_name (i := 8) nd rfl (Or.inl rfl))) (fun _ _ _ _ _ => pts_nil) (fun _ _ _ _ _ => (pe_ix ix_tup (pv 8) pe_int (fun _ _ => rfl))))) pa_nil)) pa_nil)))
      (pss_cons (ps_for PassesOwn.never rfl (pi_list (pv 4)) (pg_name (i := 5) nd rfl (Or.inr rfl)) (pss_cons (ps_for PassesOwn.never rfl (pi_range3 (by rfl) B.range (pa_cons (pe_op op_sub (pe_callB call_len_seq (by rfl) B.len PySem.boot_len (pa_cons (pv 1) pa_nil)) pe_int) (pa_cons (pe_op op_sub pe_int pe_int) (pa_cons (pe_op op_sub pe_int pe_int) pa_nil)))) (pg_name (i := 6) nd rfl (Or.inl rfl)) (pss_one (ps_if (pt_cmpR op_eq (pe_ix ix_tup (pe_ix ix_list (pv 1) (pv 6) (fun _ _ => rfl)) pe_int (fun _ _ => rfl)) (pv 5) (nomark _)) (pss_cons (ps_for PassesOwn.never rfl (pi_list (pe_revE (pe_slice sl_list (pv 1) (po_some (pe_op op_add (pv 6) pe_int)) po_none) (po_some (pe_op op_sub pe_int pe_int)))) (pg_name (i := 7) nd rfl (Or.inl rfl)) (pss_one (ps_expr (pe_bm PySem.F.plainAttrs_list PySem.F.slot_list_append PySem.F.type_list_append mt_append (pv 2) (pa_cons (pe_tup (pa_cons (pe_ix ix_tup (pe_ix ix_list (pv 1) (pv 6) (fun _ _ => rfl)) pe_int (fun _ _ => rfl)) (pa_cons (pe_ix ix_tup (pv 7) pe_int (fun _ _ => rfl)) pa_nil))) pa_nil)))))
      (pss_one (ps_set (i := 1) nd rfl (Or.inl rfl) (pe_op op_cat (pe_slice sl_list (pv 1) po_none (po_some (pv 6))) (pe_slice sl_list (pv 1) (po_some (pe_op op_add (pv 6) pe_int)) po_none))))) pss_nil)))
      (pss_cons (ps_set (i := 1) nd rfl (Or.inl rfl) (pe_op op_cat (pv 1) (pe_lc (own := [("_law_row", 8)]) (g := gName 8) (tt := tTest (tOp rEq (tOp (rIxT K) (tVar 8) (tC (.int 1))) (tVar 5))) (te := tVar 8) rfl nd (pi_list (pv 0)) (blkOk_by (own := [("_law_row", 8)]) (N := NPl) (sc := defScope sLawPlayed) (by decide +kernel))
        (fun _ _ _ _ _ => (pg_name (i := 8) nd rfl (Or.inl rfl))) (fun _ _ _ _ _ => pts_one (pt_cmpR op_eq (pe_ix ix_tup (pv 8) pe_int (fun _ _ => rfl)) (pv 5) (nomark _))) (fun _ _ _ _ _ => (pv 8)))))
      (pss_one (ps_dput (units1 hr) (pv 3) (pv 5) (pe_lc (own := [("_law_row", 8)]) (g := gName 8) (tt := tYes) (te := tOp (rIxT K) (tVar 8) (tC (.int 0))) rfl nd (pi_list (pv 1)) (blkOk_by (own := [("_law_row", 8)]) (N := NPl) (sc := defScope sLawPlayed) (by decide +kernel))
        (fun _ _ _ _ _ => (pg_name (i := 8) nd rfl (Or.inl rfl))) (fun _ _ _ _ _ => pts_nil) (fun _ _ _ _ _ => (pe_ix ix_tup (pv 8) pe_int (fun _ _ => rfl)))) rfl)))))
      (pss_one (ps_ret (pe_tup (pa_cons (pv 2) (pa_cons (pv 3) pa_nil)))))))), ?_⟩
  refine ⟨Nat.zero_le _, fun Pl0 hP => ⟨Nat.zero_le _, fun Li hL => fun Di hD => ⟨_, _, _, rfl, ?_⟩⟩⟩
  have e0 : ∀ b o, H b = some o → (upd (upd (upd H Pl0 (.lst [])) Li (.lst [])) Di (.dK [])) b = some o := ((Shg.same_upd hP).trans ((Shg.same_upd hL).trans (Shg.same_upd hD)))
  have fP : H Pl0 = none := hP
  have fL : H Li = none := by
    cases e : H Li with
    | none => rfl
    | some o => rw [Shg.same_upd hP _ _ e] at hL; cases hL
  have fD : H Di = none := by
    cases e : H Di with
    | none => rfl
    | some o => rw [((Shg.same_upd hP).trans (Shg.same_upd hL)) _ _ e] at hD; cases hD
  have nPL : Pl0 ≠ Li := fun z => by rw [← z, upd_same] at hL; cases hL
  have nDL : Di ≠ Li := fun z => by rw [z, upd_same] at hD; cases hD
  have eP1 := ((Shg.same_upd (o := .lst []) hL).trans (Shg.same_upd (o := .dK []) hD)) _ _ (upd_same (H := H) (a := Pl0) (o := .lst []))
  have eL1 := (Shg.same_upd (o := .dK []) hD) _ _ (upd_same (H := upd H Pl0 (.lst [])) (a := Li) (o := .lst []))
  have eD1 := upd_same (H := upd (upd H Pl0 (.lst [])) Li (.lst [])) (a := Di) (o := .dK [])
  generalize upd (upd (upd H Pl0 (.lst [])) Li (.lst [])) Di (.dK []) = H1 at *
  clear hP hL hD
  have sA : Same H H1 := e0
  -- the ticks
  refine nx_of (asg_rel (fun v H' => ∃ (p : Addr) (ts : List Int), v = .ref p ∧ Same H1 H' ∧ H1 p = none ∧ H' p = some (.lst (ts.map V.int)) ∧ ts.Pairwise (· < ·) ∧ (∀ k, k ∈ ts ↔ ∃ r ∈ rs, r.come = k ∨ r.go = k) ∧ ts.length ≤ 200) (fun R h0 => ?_) fun vt Ht ht => ?_)
  · refine ⟨_, rfl, a, rfl, ⟨_, sA.seq ha⟩, fun D1 hD1 => ?_⟩
    refine lc_map walk_list (fun j => (rs[j]?).map fun r => V.int r.come) hD1 (by rw [lw]; exact Nat.le_trans hl (by decide)) (fun H2 s2 => (sA.trans s2).seq ha) (fun j v H2 H' hj s2 yy R' k1 => ?_) (fun j hj => ⟨_, by rw [List.getElem?_eq_getElem (by omega)]; rfl⟩) fun H2 s2 e2 => ?_
    · obtain ⟨rfl, ev⟩ := yy
      obtain ⟨r, hr, t, rfl, ht⟩ := Shg.pair_get hw ev
      exact ⟨rfl, _, rfl, t, _, 1, .int r.come, rfl, rfl, SqT.of ((sA.trans s2) _ _ ht), atI_nat (j := 1) rfl, k1 _ _ (Same.refl _) (by rw [hr]; rfl)⟩
    rw [lw, gather_map rs fun r => V.int r.come] at e2
    refine ⟨_, rfl, a, rfl, ⟨_, (sA.trans s2).seq ha⟩, fun D2 hD2 => ?_⟩
    refine lc_map walk_list (fun j => (rs[j]?).map fun r => V.int r.go) hD2 (by rw [lw]; exact Nat.le_trans hl (by decide)) (fun H3 s3 => ((sA.trans s2).trans s3).seq ha) (fun j v H3 H' hj s3 yy R' k1 => ?_) (fun j hj => ⟨_, by rw [List.getElem?_eq_getElem (by omega)]; rfl⟩) fun H3 s3 e3 => ?_
    · obtain ⟨rfl, ev⟩ := yy
      obtain ⟨r, hr, t, rfl, ht⟩ := Shg.pair_get hw ev
      exact ⟨rfl, _, rfl, t, _, 2, .int r.go, rfl, rfl, SqT.of (((sA.trans s2).trans s3) _ _ ht), atI_nat (j := 2) rfl, k1 _ _ (Same.refl _) (by rw [hr]; rfl)⟩
    rw [lw, gather_map rs fun r => V.int r.go] at e3
    refine ⟨D1, D2, _, _, rfl, rfl, s3 _ _ e2, e3, by rw [List.length_map, List.length_map]; exact Nat.le_trans (by omega : _ ≤ 200) (by decide), fun p3 hp3 => ?_⟩
    have em : rs.map (fun r => V.int r.come) ++ rs.map (fun r => V.int r.go) = (rs.map (fun r => r.come) ++ rs.map fun r => r.go).map V.int := by
      rw [List.map_append, List.map_map, List.map_map]
      rfl
    rw [em]
    have s4 := Shg.same_upd (o := .lst ((rs.map (fun r => r.come) ++ rs.map fun r => r.go).map V.int)) hp3
    have ln : (rs.map (fun r => r.come) ++ rs.map fun r => r.go).length ≤ 200 := by rw [List.length_append, List.length_map, List.length_map]; omega
    refine ⟨p3, _, rfl, SqL.of upd_same, by omega, fun p4 n hp4 hn => ?_⟩
    have s5 := Shg.same_upd (o := SetO w p4 (fun j => decide (j ∈ rs.map (fun r => r.come) ++ rs.map fun r => r.go)) n) hp4
    refine ⟨p4, _, n, rfl, upd_same, by omega, fun ks p5 rise mem len hp5 => h0 _ _ ⟨p5, ks, rfl, (((s2.trans s3).trans s4).trans s5).trans (Shg.same_upd hp5), ?_, upd_same, rise, fun k => ?_, by omega⟩⟩
    · cases e : H1 p5 with
      | none => rfl
      | some o =>
        have z := (((s2.trans s3).trans s4).trans s5) _ _ e
        have z2 := z.symm.trans hp5
        cases z2
    · rw [mem k, decide_eq_true_eq, List.mem_append, List.mem_map, List.mem_map]
      constructor
      · rintro (⟨r, hr, e⟩ | ⟨r, hr, e⟩)
        · exact ⟨r, hr, .inl e⟩
        · exact ⟨r, hr, .inr e⟩
      · rintro ⟨r, hr, e | e⟩
        · exact .inl ⟨r, hr, e⟩
        · exact .inr ⟨r, hr, e⟩
  obtain ⟨p, ts, rfl, sT, fp, ep, rise, mem, lts⟩ := ht
  refine name_at ?_
  have npL : p ≠ Li := fun z => by rw [z, eL1] at fp; cases fp
  have hc : ∀ r ∈ rs, r.come ∈ ts ∧ r.go ∈ ts := fun r hr => ⟨(mem _).mpr ⟨r, hr, .inl rfl⟩, (mem _).mpr ⟨r, hr, .inr rfl⟩⟩
  have lB : ∀ (l : List Int), (l.flatMap fun t => (tickOf rs t (pileTo rs t)).1).length ≤ l.length * 10000 := fun l => by
    induction l with
    | nil => exact Nat.zero_le _
    | cons t l ih =>
      rw [List.flatMap_cons, List.length_append, List.length_cons, Nat.succ_mul]
      have h1 := (gone_len t (pileTo rs t)).1
      have h2 : (pileTo rs t).length ≤ 100 := Nat.le_trans (List.length_filter_le _ _) (by rw [bot_length]; exact hl)
      have h3 := Nat.mul_le_mul h2 h2
      have h4 : (tickOf rs t (pileTo rs t)).1 = (gone t (pileTo rs t)).1 := rfl
      rw [h4]
      omega
  refine ⟨_, rfl, p, rfl, ⟨_, SqL.of ep⟩, for_it walk_list (fun i σ H2 => ∃ (Pl : Addr) (pws : List V) (pile : List Rw) (out : List V) (kvs : List (Key × V)) (o5 o6 o7 o8 : Option V), σ = [some (.ref a), some (.ref Pl), some (.ref Li), some (.ref Di), some (.ref p), o5, o6, o7, o8] ∧ Std nv rs H H2 p Li Di ts kvs i ∧ Pl ≠ Li ∧ H2 Pl = some (.lst pws) ∧ PySem.Paired (PlayAt nv H2) pws pile ∧ H2 Li = some (.lst out) ∧
      PySem.Paired (PairR nv H2) out ((ts.take i).flatMap fun t => (tickOf rs t (pileTo rs t)).1) ∧ ∀ t, ts[i]? = some t → pile = pileTo rs t)
    ⟨Pl0, [], [], [], [], none, none, none, none, rfl, ⟨sA.trans sT, ep, sT _ _ eD1, .nil⟩, nPL, sT _ _ eP1, .nil, sT _ _ eL1, .nil, fun t ht => ?_⟩ (fun i σ H2 _ q => by obtain ⟨_, _, _, _, _, _, _, _, _, _, d, _⟩ := q; exact SqL.of d.ep) ?_ ?_⟩
  · unfold pileTo
    refine (List.filter_eq_nil_iff.mpr fun r hr => ?_).symm
    have h1 := (hc r (bot_mem.mp hr)).1
    have h2 : t ≤ r.come := by
      obtain ⟨k, hk, e⟩ := List.getElem_of_mem h1
      rcases Nat.eq_zero_or_pos k with rfl | kp
      · rw [List.getElem?_eq_getElem hk] at ht
        have : ts[0] = t := Option.some.inj ht
        omega
      · have h0 : 0 < ts.length := Nat.lt_trans kp hk
        rw [List.getElem?_eq_getElem h0] at ht
        have e0 : ts[0] = t := Option.some.inj ht
        have := (List.pairwise_iff_getElem.mp rise) 0 k h0 hk kp
        omega
    simp
    omega
  · rintro i y σ H3 H2 hi ⟨Pl, pws, pile, out, kvs, o5, o6, o7, o8, rfl, d, nPl, ePl, pP, eLi, pO, hpile⟩ ⟨rfl, ey⟩
    rw [List.length_map] at hi
    obtain ⟨t, hti⟩ : ∃ t, ts[i]? = some t := ⟨_, List.getElem?_eq_getElem hi⟩
    rw [List.getElem?_map, hti] at ey
    obtain rfl : y = .int t := (Option.some.inj ey).symm
    obtain rfl := hpile t hti
    have lpw := Shg.pair_len pP
    have l100 : (pileTo rs t).length ≤ 100 := Nat.le_trans (List.length_filter_le _ _) (by rw [bot_length]; exact hl)
    have lOut : ((ts.take i).flatMap fun t => (tickOf rs t (pileTo rs t)).1).length ≤ 2000000 := by
      have := lB (ts.take i)
      rw [List.length_take] at this
      omega
    generalize hO : ((ts.take i).flatMap fun t => (tickOf rs t (pileTo rs t)).1) = outR at *
    refine name_at ?_
    have rg : RgC (((pws.length : Nat) : Int) - 1) (0 - 1) (0 - 1) (((pws.length : Nat) : Int) - 1 - (-1)).toNat := RgC.neg (by omega) (by omega) (by decide) (by decide)
    have en : (((pws.length : Nat) : Int) - 1 - (-1)).toNat = pws.length := by omega
    rw [en] at rg
    have px : ∀ (k : Nat), k < pws.length → ∃ x, (pileTo rs t)[k]? = some x := fun k hk => ⟨_, List.getElem?_eq_getElem (by omega)⟩
    generalize hpile0 : pileTo rs t = pile0 at *
    refine ⟨_, rfl, Pl, pws, rfl, .inl (SqL.of ePl), _, _, rfl, rfl, _, _, rfl, rfl, _, _, rfl, rfl, _, _, _, _, rfl, rg, for_it walk_rangeC (fun m σ H4 => ∃ (Pl' : Addr) (pws' out' : List V) (o6 o7 : Option V), σ = [some (.ref a), some (.ref Pl'), some (.ref Li), some (.ref Di), some (.ref p), some (.int t), o6, o7, o8] ∧ Std nv rs H H4 p Li Di ts kvs i ∧ Pl' ≠ Li ∧ H4 Pl' = some (.lst pws') ∧
        PySem.Paired (PlayAt nv H4) pws' (pile0.take (pws.length - m) ++ (gone t (pile0.drop (pws.length - m))).2) ∧ H4 Li = some (.lst out') ∧ PySem.Paired (PairR nv H4) out' (outR ++ (gone t (pile0.drop (pws.length - m))).1))
      ⟨Pl, pws, out, o6, o7, rfl, d, nPl, ePl, ?_, eLi, ?_⟩ (fun _ _ _ _ _ => trivial) ?_ ?_⟩
    · rw [Nat.sub_zero, lpw, List.take_length, List.drop_length]
      show PySem.Paired _ _ (pile0 ++ [])
      rw [List.append_nil]
      exact pP
    · rw [Nat.sub_zero, lpw, List.drop_length]
      show PySem.Paired _ _ (outR ++ [])
      rw [List.append_nil]
      exact pO
    · rintro m y σ Ha Hb hm ⟨Pl', pws', out', o6, o7, rfl, d4, nP4, eP4, pP4, eL4, pO4⟩ ⟨rfl, ey⟩
      obtain ⟨k, hk⟩ : ∃ k, pws.length - m = k + 1 := ⟨pws.length - m - 1, by omega⟩
      have ey' : y = .int (k : Int) := ey.trans (congrArg V.int (by omega))
      subst ey'
      clear ey
      rw [hk] at pP4 pO4
      obtain ⟨x, hx⟩ := px k (by omega)
      obtain ⟨kl, ek⟩ := List.getElem?_eq_some_iff.mp hx
      have dk : pile0.drop k = x :: pile0.drop (k + 1) := by rw [List.drop_eq_getElem_cons kl, ek]
      have tk : pile0.take (k + 1) = pile0.take k ++ [x] := by rw [List.take_add_one, hx]; rfl
      have ltk : (pile0.take (k + 1)).length = k + 1 := by rw [List.length_take]; omega
      have gl := gone_len t (pile0.drop (k + 1))
      have ld : (pile0.drop (k + 1)).length ≤ 100 := by rw [List.length_drop]; omega
      have gl1 := Nat.le_trans gl.1 (Nat.mul_le_mul ld ld)
      have gl2 := Nat.le_trans gl.2 ld
      have e2 : pws.length - (m + 1) = k := by omega
      have gk : gone t (pile0.drop k) = if x.go = t then ((gone t (pile0.drop (k + 1))).1 ++ (gone t (pile0.drop (k + 1))).2.reverse.map fun y => (x, y), (gone t (pile0.drop (k + 1))).2) else ((gone t (pile0.drop (k + 1))).1, x :: (gone t (pile0.drop (k + 1))).2) := by
        rw [dk]
        rfl
      generalize gone t (pile0.drop (k + 1)) = g at *
      have lp4 := Shg.pair_len pP4
      rw [List.length_append, ltk] at lp4
      have lo4 := Shg.pair_len pO4
      rw [List.length_append] at lo4
      obtain ⟨v, hv4⟩ : ∃ v, pws'[k]? = some v := ⟨_, List.getElem?_eq_getElem (by omega)⟩
      obtain ⟨x', hx', tx, rfl, htx⟩ := Shg.pair_get pP4 hv4
      rw [List.getElem?_append_left (by omega), List.getElem?_take_of_lt (by omega), hx] at hx'
      obtain rfl := Option.some.inj hx'
      refine name_at ?_
      refine ⟨_, rfl, _, rfl, Pl', _, _, _, rfl, rfl, SqL.of eP4, atI_nat hv4, tx, _, 2, .int x.go, rfl, rfl, SqT.of htx, atI_nat (j := 2) rfl, _, rfl, rfl, _, rfl, ite2 (fun q => ?_) (fun q => ?_)⟩
      · have xt : x.go = t := by simpa using q
        rw [if_pos xt] at gk
        refine ⟨_, rfl, _, rfl, _, _, rfl, rfl, _, rfl, Pl', _, rfl, SqL.of eP4, fun q1 hq1 => ⟨_, _, rfl, rfl, _, rfl, rfl, q1, _, rfl, SqL.of upd_same, fun q2 hq2 => ⟨q2, rfl, ⟨_, SqL.of upd_same⟩, ?_⟩⟩⟩
        have hdr : (pile0.take (k + 1) ++ g.2).drop (k + 1) = g.2 := List.drop_left' ltk
        have htr : (pile0.take (k + 1) ++ g.2).take k = pile0.take k := by
          rw [List.take_append_of_le_length (by omega), List.take_take, Nat.min_eq_left (by omega)]
        have cr : (cutV pws' (some ((k : Int) + 1)) none).reverse = (pws'.drop (k + 1)).reverse := by rw [show ((k : Nat) : Int) + 1 = ((k + 1 : Nat) : Int) by omega, cut_fromN]
        have c0 : cutV pws' (some ((k : Int) + 1)) none = pws'.drop (k + 1) := by rw [show ((k : Nat) : Int) + 1 = ((k + 1 : Nat) : Int) by omega, cut_fromN]
        have s1 := Shg.same_upd (o := .lst (cutV pws' (some ((k : Int) + 1)) none)) hq1
        have s2 := Shg.same_upd (o := .lst (cutV pws' (some ((k : Int) + 1)) none).reverse) hq2
        have eq2 : (upd (upd Hb q1 (.lst (cutV pws' (some ((k : Int) + 1)) none))) q2 (.lst (cutV pws' (some ((k : Int) + 1)) none).reverse)) q2 = some (.lst (cutV pws' (some ((k : Int) + 1)) none).reverse) := upd_same
        have s12 := s1.trans s2
        have nqL : q2 ≠ Li := fun z => by rw [z, s1 _ _ eL4] at hq2; cases hq2
        have nqP : q2 ≠ Pl' := fun z => by rw [z, s1 _ _ eP4] at hq2; cases hq2
        rw [c0] at eq2 s12 ⊢
        generalize upd (upd Hb q1 (.lst (pws'.drop (k + 1)))) q2 (.lst (pws'.drop (k + 1)).reverse) = Hc at *
        clear s1 s2 hq1 hq2 cr c0
        have pR : PySem.Paired (PlayAt nv Hc) (pws'.drop (k + 1)).reverse g.2.reverse := by
          have := Shg.pair_drop (k + 1) pP4
          rw [hdr] at this
          exact pair_rev (play_keep (.same s12) this)
        have lR := Shg.pair_len pR
        rw [List.length_reverse, List.length_reverse] at lR
        refine for_it walk_list (fun j σ H5 => ∃ (out5 : List V) (o7 : Option V), σ = [some (.ref a), some (.ref Pl'), some (.ref Li), some (.ref Di), some (.ref p), some (.int t), some (.int (k : Int)), o7, o8] ∧ Std nv rs H H5 p Li Di ts kvs i ∧ H5 Pl' = some (.lst pws') ∧ H5 q2 = some (.lst (pws'.drop (k + 1)).reverse) ∧ TupK Hc H5 ∧ H5 Li = some (.lst out5) ∧
            PySem.Paired (PairR nv H5) out5 ((outR ++ g.1) ++ (g.2.reverse.take j).map fun y => (x, y)))
          ⟨out', o7, rfl, d4.go s12, s12 _ _ eP4, eq2, .same (Same.refl _), s12 _ _ eL4, by rw [List.take_zero, List.map_nil, List.append_nil]; exact pairR_keep (.same s12) pO4⟩ (fun j σ H5 _ z => by obtain ⟨_, _, _, _, _, e, _⟩ := z; exact SqL.of e) ?_ ?_
        · rintro j y σ Hd He hj ⟨out5, o7, rfl, d5, eP5, eq5, k5, eL5, pO5⟩ ⟨rfl, ey⟩
          obtain ⟨z, hz, tz, rfl, htz⟩ := Shg.pair_get pR ey
          refine name_at ?_
          have lo5 := Shg.pair_len pO5
          rw [List.length_append, List.length_append, List.length_map, List.length_take] at lo5
          refine ⟨_, rfl, .inl ⟨rfl, _, SqL.of eL5⟩, _, rfl, _, rfl, Pl', _, _, _, rfl, rfl, SqL.of eP5, atI_nat hv4, tx, _, 0, nv x, rfl, rfl, SqT.of (k5 _ _ (s12 _ _ htx)), atI_nat (j := 0) rfl, _, rfl, tz, _, 0, nv z, rfl, rfl, SqT.of (k5 _ _ htz), atI_nat (j := 0) rfl, by show 2 ≤ sizeLine; decide, fun u hu => ?_⟩
          have su := Shg.same_upd (o := .tup [nv x, nv z]) hu
          have nu : u ≠ Li := fun z => by rw [z, eL5] at hu; cases hu
          refine ⟨Li, out5, .ref u, rfl, rfl, su _ _ eL5, ?_, ?_⟩
          · have : g.2.reverse.length ≤ 100 := by rw [List.length_reverse]; exact gl2
            exact Nat.lt_of_le_of_lt (show out5.length ≤ 2020000 by omega) (by decide)
          · refine ⟨out5 ++ [.ref u], _, rfl, (d5.go su).out fL npL nDL, by rw [upd_ne nP4]; exact su _ _ eP5, by rw [upd_ne nqL]; exact su _ _ eq5, k5.trans ((TupK.same su).trans (TupK.updL (su _ _ eL5))), upd_same, ?_⟩
            have et : g.2.reverse.take (j + 1) = g.2.reverse.take j ++ [z] := by rw [List.take_add_one, hz]; rfl
            rw [et, List.map_append, ← List.append_assoc]
            exact Shg.pair_app (pairR_keep ((TupK.same su).trans (TupK.updL (su _ _ eL5))) pO5) (.cons ⟨u, rfl, by rw [upd_ne nu]; exact upd_same⟩ .nil)
        · rintro σ Hd ⟨out5, o7, rfl, d5, eP5, eq5, k5, eL5, pO5⟩
          rw [List.length_reverse, lR, List.take_of_length_le (by rw [List.length_reverse]; exact Nat.le_refl _)] at pO5
          refine nx_of ?_
          refine ⟨_, rfl, _, rfl, _, rfl, Pl', _, rfl, SqL.of eP5, fun c1 hc1 => ?_⟩
          rw [cut_toN]
          have u1 := Shg.same_upd (o := .lst (pws'.take k)) hc1
          refine ⟨_, rfl, _, rfl, _, _, rfl, rfl, _, rfl, Pl', _, rfl, SqL.of (u1 _ _ eP5), fun c2 hc2 => ?_⟩
          rw [show ((k : Nat) : Int) + 1 = ((k + 1 : Nat) : Int) by omega, cut_fromN] at *
          have u2 := Shg.same_upd (o := .lst (pws'.drop (k + 1))) hc2
          refine ⟨c1, c2, _, _, rfl, rfl, u2 _ _ upd_same, upd_same, ?_, fun M hM => ?_⟩
          · exact Nat.le_trans (show (pws'.take k).length + (pws'.drop (k + 1)).length ≤ 300 by rw [List.length_take, List.length_drop]; omega) (by decide)
          have u3 := Shg.same_upd (o := .lst (pws'.take k ++ pws'.drop (k + 1))) hM
          have u13 := (u1.trans u2).trans u3
          have nM : M ≠ Li := fun z => by rw [z, (u1.trans u2) _ _ eL5] at hM; cases hM
          refine name_at ⟨M, _, out5, _, _, rfl, d5.go u13, nM, upd_same, ?_, u13 _ _ eL5, ?_⟩
          · rw [e2, gk]
            have h1 := Shg.pair_take k pP4
            rw [htr] at h1
            have h2 := Shg.pair_drop (k + 1) pP4
            rw [hdr] at h2
            exact play_keep ((TupK.same s12).trans (k5.trans (.same u13))) (Shg.pair_app h1 h2)
          · rw [e2, gk, ← List.append_assoc]
            exact pairR_keep (.same u13) pO5
      · have xt : ¬ x.go = t := fun z => q (by simpa using z)
        rw [if_neg xt] at gk
        refine nx_of ⟨Pl', pws', out', _, _, rfl, d4, nP4, eP4, ?_, eL4, ?_⟩
        · rw [e2, gk]
          rw [tk, List.append_assoc] at pP4
          exact pP4
        · rw [e2, gk]
          exact pO4
    · rintro σ H4 ⟨Pl', pws', out', o6, o7, rfl, d4, nP4, eP4, pP4, eL4, pO4⟩
      rw [Nat.sub_self, List.take_zero, List.nil_append, List.drop_zero] at pP4
      rw [Nat.sub_self, List.drop_zero] at pO4
      have gl := gone_len t pile0
      have lp4 := Shg.pair_len pP4
      have few : (gone t pile0).2.length ≤ 100 := Nat.le_trans gl.2 l100
      -- those who come
      refine ⟨_, rfl, _, rfl, a, rfl, ⟨_, d4.same.seq ha⟩, fun D hD => ?_⟩
      refine lc_gather (walk_list (xs := ws)) (fun j => (rs[j]?).bind fun r => if (fun r : Rw => decide (r.come = t)) r = true then ws[j]? else none) hD (by rw [lw]; exact Nat.le_trans hl (by decide)) (fun H s => (d4.same.trans s).seq ha) (fun j v H5 H6 hj s5 vv R2 k1 => ?_) fun H5 s5 e5 => ?_
      · obtain ⟨rfl, ev⟩ := vv
        obtain ⟨r, hr, tr, rfl, htr⟩ := Shg.pair_get hw ev
        have k3 := k1 _ (Same.refl _)
        rw [hr] at k3
        have k3' : R2 (if decide (r.come = t) = true then ws[j]? else none) _ := k3
        rw [ev] at k3'
        refine ⟨rfl, _, rfl, tr, _, 1, .int r.come, rfl, rfl, SqT.of (s5 _ _ (d4.same _ _ htr)), atI_nat (j := 1) rfl, _, rfl, rfl, _, rfl, ?_⟩
        have eV : decide (V.int r.come = V.int t) = decide (r.come = t) := decide_eq_decide.mpr ⟨fun z => by injection z, fun z => by rw [z]⟩
        rw [eV]
        refine ite2 (fun q => ?_) (fun q => ?_)
        · rw [if_pos q] at k3'
          exact ⟨_, rfl, k3'⟩
        · rw [if_neg q] at k3'
          exact k3'
      have pF := pairs_filter (play_keep (.same (d4.same.trans s5)) hw) (fun r : Rw => decide (r.come = t)) rs.length (Nat.le_refl _)
      rw [List.take_length] at pF
      rw [lw] at e5
      generalize gather (fun j => (rs[j]?).bind fun r => if (fun r : Rw => decide (r.come = t)) r = true then ws[j]? else none) rs.length = fs at *
      have lf := Shg.pair_len pF
      have lfr := List.length_filter_le (fun r : Rw => decide (r.come = t)) rs
      refine ⟨Pl', D, _, _, rfl, rfl, s5 _ _ eP4, e5, Nat.le_trans (by omega : _ ≤ 200) (by decide), fun M hM => ?_⟩
      have sM := Shg.same_upd (o := .lst (pws' ++ fs)) hM
      have s45 := s5.trans sM
      have nM : M ≠ Li := fun z => by rw [z, s5 _ _ eL4] at hM; cases hM
      have eM : (upd H5 M (.lst (pws' ++ fs))) M = some (.lst (pws' ++ fs)) := upd_same
      have pM : PySem.Paired (PlayAt nv (upd H5 M (.lst (pws' ++ fs)))) (pws' ++ fs) (pileOf rs t) := by
        have e := tick_pile hv t
        rw [hpile0] at e
        have e' : (gone t pile0).2 ++ rs.filter (fun r => decide (r.come = t)) = pileOf rs t := e
        rw [← e']
        exact Shg.pair_app (play_keep (.same s45) pP4) (play_keep (.same sM) pF)
      have d6 := d4.go s45
      have eL6 := s45 _ _ eL4
      have pO6 := pairR_keep (.same s45) pO4
      generalize upd H5 M (.lst (pws' ++ fs)) = H6 at *
      have lM := Shg.pair_len pM
      have lpo : (pileOf rs t).length ≤ 100 := Nat.le_trans (List.length_filter_le _ _) (by rw [bot_length]; exact hl)
      generalize pws' ++ fs = zs at *
      -- the names behind the tick
      refine name_at ?_
      refine ⟨_, rfl, M, rfl, ⟨_, SqL.of eM⟩, fun D2 hD2 => ?_⟩
      refine lc_map walk_list (fun j => ((pileOf rs t)[j]?).map nv) hD2 (by rw [lM]; exact Nat.le_trans lpo (by decide)) (fun H7 s7 => SqL.of (s7 _ _ eM)) (fun j v H7 H' hj s7 yy R' k1 => ?_) (fun j hj => ⟨_, by rw [List.getElem?_eq_getElem (by omega)]; rfl⟩) fun H7 s7 e7 => ?_
      · obtain ⟨rfl, ev⟩ := yy
        obtain ⟨r, hr, tr, rfl, htr⟩ := Shg.pair_get pM ev
        exact ⟨rfl, _, rfl, tr, _, 0, nv r, rfl, rfl, SqT.of (s7 _ _ htr), atI_nat (j := 0) rfl, k1 _ _ (Same.refl _) (by rw [hr]; rfl)⟩
      rw [lM, gather_map (pileOf rs t) nv] at e7
      have d7 := d6.go s7
      have nD2 : D2 ≠ Li := fun z => by rw [z, eL6] at hD2; cases hD2
      have nDD : D2 ≠ Di := fun z => by rw [z, d6.eD] at hD2; cases hD2
      have lkv := Shg.pair_len d7.pl
      have lti : (ts.take i).length = i := by rw [List.length_take]; omega
      have new : ∀ kv ∈ kvs, kv.1 ≠ (.inl t : Key) := fun kv hkv z => by
        obtain ⟨j, hj, ej⟩ := List.getElem_of_mem hkv
        obtain ⟨u, hu, e1, _⟩ := Shg.pair_get d7.pl (List.getElem?_eq_getElem hj)
        rw [ej, z] at e1
        injection e1 with e1
        have ji : j < i := by omega
        rw [List.getElem?_take_of_lt ji] at hu
        obtain ⟨h1, h2⟩ := List.getElem?_eq_some_iff.mp hu
        obtain ⟨h3, h4⟩ := List.getElem?_eq_some_iff.mp hti
        have := (List.pairwise_iff_getElem.mp rise) j i h1 h3 ji
        omega
      refine ⟨_, rfl, _, rfl, Di, _, rfl, DPut.k (k := .inl t) d7.eD (Nat.lt_of_le_of_lt (show kvs.length ≤ 200 by omega) (by decide)), ?_⟩
      rw [put_new new]
      have tk : TupK H7 (upd H7 Di (.dK (kvs ++ [(.inl t, .ref D2)]))) := fun b vs e => by
        rw [upd_ne fun z => by rw [z, d7.eD] at e; cases e]
        exact e
      have npD : p ≠ Di := fun z => by have h1 := d7.ep; rw [z, d7.eD] at h1; cases h1
      have eM7 := s7 _ _ eM
      refine ⟨M, zs, pileOf rs t, out', kvs ++ [(.inl t, .ref D2)], _, _, _, _, rfl, ⟨same_upd0 d7.same fD, by rw [upd_ne npD]; exact d7.ep, upd_same, ?_⟩, nM, by rw [upd_ne fun z => by rw [z, d7.eD] at eM7; cases eM7]; exact eM7, play_keep ((TupK.same s7).trans tk) pM, by rw [upd_ne (Ne.symm nDL)]; exact s7 _ _ eL6, ?_, fun t' ht' => ?_⟩
      · have et : ts.take (i + 1) = ts.take i ++ [t] := by rw [List.take_add_one, hti]; rfl
        rw [et]
        refine Shg.pair_app (pair_mono (fun _ _ ⟨x, l, e, n, h⟩ => ⟨x, l, e, n, by rw [upd_ne fun z => by rw [z, d7.eD] at h; cases h]; exact h⟩) d7.pl) (.cons ⟨rfl, D2, rfl, nD2, by rw [upd_ne nDD]; exact e7⟩ .nil)
      · have et : ts.take (i + 1) = ts.take i ++ [t] := by rw [List.take_add_one, hti]; rfl
        rw [et, List.flatMap_append, hO, List.flatMap_cons, List.flatMap_nil, List.append_nil, hpile0]
        exact pairR_keep ((TupK.same s7).trans tk) pO6
      · obtain ⟨h3, h4⟩ := List.getElem?_eq_some_iff.mp hti
        obtain ⟨h5, h6⟩ := List.getElem?_eq_some_iff.mp ht'
        have lt := (List.pairwise_iff_getElem.mp rise) i (i + 1) h3 h5 (Nat.lt_succ_self _)
        rw [h4, h6] at lt
        have side : ∀ z ∈ ts, z ≤ t ∨ t' ≤ z := fun z hz => by
          obtain ⟨m, hm, rfl⟩ := List.getElem_of_mem hz
          rcases Nat.lt_or_ge i m with q | q
          · right
            rcases Nat.eq_or_lt_of_le q with q | q
            · subst q
              exact Int.le_of_eq h6.symm
            · have := (List.pairwise_iff_getElem.mp rise) (i + 1) m h5 hm q
              omega
          · left
            rcases Nat.eq_or_lt_of_le q with q | q
            · subst q
              exact Int.le_of_eq h4
            · have := (List.pairwise_iff_getElem.mp rise) m i hm h3 q
              omega
        exact pile_between lt fun r hr => ⟨side _ (hc r hr).1, side _ (hc r hr).2⟩
  · rintro σ H2 ⟨Pl, pws, pile, out, kvs, o5, o6, o7, o8, rfl, d, nPl, ePl, pP, eLi, pO, _⟩
    rw [List.length_map, List.take_length] at pO
    have d2 := d.pl
    rw [List.length_map, List.take_length] at d2
    refine ⟨_, rfl, _, rfl, by show 2 ≤ sizeLine; decide, fun t ht => ?_⟩
    have s := Shg.same_upd (o := .tup [.ref Li, .ref Di]) ht
    exact kk t Li Di out kvs ts _ (d.same.trans s) upd_same (s _ _ eLi) (pairR_keep (.same s) (by rw [ticks_crossed hv nd0 rise hc]; exact pO)) (s _ _ d.eD) (pair_mono (fun _ _ ⟨x, l, e, _, h⟩ => ⟨x, l, e, s _ _ h⟩) d2) rise mem
end
end Pq
set_option Elab.async false
set_option linter.all false
set_option maxRecDepth 100000
set_option maxHeartbeats 8000000
set_option autoImplicit false
/-! _law_cross: whose stays cross whose, by playing. -/
namespace Ck
open PySem L2 Sho NdefX Shg Sh1 Gq
open Kb (crossed_nm takers_perm rw_nodup)
abbrev NLc : List Str := ["_law_rows_here", "_law_near", "_law_one", "_law_other", "_law_row"]
abbrev nvS : Rw → V := fun r => .str r.nm
theorem play_of {H : Hp} : ∀ {ws : List V} {xs : List Stay}, StaysV H ws xs → PySem.Paired (Pq.PlayAt nvS H) ws (xs.map rw3)
  | _, _, .nil => .nil
  | _, _, .cons ⟨t, e, h⟩ r => .cons ⟨t, e, h⟩ (play_of r)
theorem merge_new : ∀ (l acc : List (Key × V)), ((acc ++ l).map fun kv => kv.1).Nodup → mergeK acc l = acc ++ l
  | [], acc, _ => (List.append_nil acc).symm
  | kv :: l, acc, h => by
    have fresh : valV acc kv.1 = none := val_none fun x hx e => by
      rw [List.map_append, List.nodup_append] at h
      exact h.2.2 _ (List.mem_map.mpr ⟨x, hx, rfl⟩) _ (List.mem_map.mpr ⟨kv, List.mem_cons_self, rfl⟩) e
    show mergeK (putK acc kv.1 kv.2) l = _
    rw [putK_new _ fresh, merge_new l (acc ++ [(kv.1, kv.2)]) (by rw [List.append_assoc]; exact h), List.append_assoc]
    rfl
section
variable {P : Program} {w : World} {K : PySem.W.Frag} {mg : Str → Option Value} {base : Heap}
def spLawNear (K : PySem.W.Frag) : Sp := fun vs H Q _ => ∃ (R : Addr) (ws : List V) (xs : List Stay), vs = [.ref R] ∧ SqL K H R ws ∧ StaysV H ws xs ∧ xs.length ≤ 100 ∧ (∀ x ∈ xs, x.2.1 < x.2.2) ∧ (xs.map fun x => x.1).Nodup ∧
  ∀ (D : Addr) (kvs : List (Key × V)) H', Same H H' → H' D = some (.dK kvs) → NearK H' kvs (xs.map fun x => x.1) (nearOf (crossed (xs.map rw3))) → Q (.ref D) H'
theorem scLc : FnScope NLc ["_law_rows_here"] (defScope sLawCross) := ⟨rfl, rfl, rfl, by decide +kernel, rfl, by decide +kernel, by decide +kernel⟩
theorem ok_lawNear {f fY : Addr} {fd fdY : FuncData} (F : Fun K "_law_cross" "_law_cross" sLawCross f fd) (B : Shg.Blt mg) (GY : FnOk P w K mg base CX0 1 fY fdY ["_law_rows_here"] (Pq.spPlayed K)) (mY : mg "_law_played" = some (.ref fY)) (kY : PySem.W.keepIn K (.ref fY) = true) (bY : Binds K fdY ["_law_rows_here"] []) :
    FnOk P w K mg base CX0 2 f fd ["_law_rows_here"] (spLawNear K) := by
  refine F.ok scLc (fun vs H Q E h => ?_) (fun cdv A outer s H vs Q E hr h => ?_)
  · obtain ⟨R, ws, xs, rfl, _⟩ := h
    rfl
  obtain ⟨R, ws, xs, rfl, hR, sv, hl, hv, nm, k⟩ := h
  have nd := scLc.nd
  refine ⟨_, pss_cons (ps_set (i := 1) nd rfl (Or.inl rfl) (pe_callTy (call_dictP rfl) (by rfl) B.dict (by decide +kernel) (pa_cons (pe_lc (own := [("_law_row", 4)]) (g := gName 4) (tt := tYes) (te := tTup (tCons (tOp (rIxT K) (tVar 4) (tC (.int 0))) (tCons (tLst tNil) tNil))) rfl nd (pi_list (pv 0)) (blkOk_by (own := [("_law_row", 4)]) (N := NLc) (sc := defScope sLawCross) (by decide +kernel))
        (fun _ _ _ _ _ => pg_name (i := 4) nd rfl (Or.inl rfl)) (fun _ _ _ _ _ => pts_nil) (fun _ _ _ _ _ => pe_tup (pa_cons (pe_ix ix_tup (pv 4) pe_int (fun _ _ => rfl)) (pa_cons (pe_lst pa_nil) pa_nil)))) pa_nil)))
    (pss_cons (ps_for PassesOwn.never rfl (pi_list (pe_ix ix_tup (pe_call GY (hr.mono (by decide)) rfl mY kY bY .nil pass0 (pa_cons (pv 0) pa_nil)) pe_int (fun _ _ => rfl))) (pg_tup rfl (pgs_cons (pg_name (i := 2) nd rfl (Or.inl rfl)) (pgs_cons (pg_name (i := 3) nd rfl (Or.inl rfl)) pgs_nil)))
      (pss_cons (ps_expr (pe_bm PySem.F.plainAttrs_list PySem.F.slot_list_append PySem.F.type_list_append mt_append (pe_dget (units1 hr) (pv 1) (pv 2) (fun _ _ => rfl)) (pa_cons (pv 3) pa_nil)))
        (pss_one (ps_expr (pe_bm PySem.F.plainAttrs_list PySem.F.slot_list_append PySem.F.type_list_append mt_append (pe_dget (units1 hr) (pv 1) (pv 3) (fun _ _ => rfl)) (pa_cons (pv 2) pa_nil))))))
      (pss_one (ps_ret (pv 1)))), ?_⟩
  have lw := Shg.pair_len sv
  -- an empty list for each
  refine asg_rel (fun v H' => ∃ (D : Addr) (kvs : List (Key × V)), v = .ref D ∧ Same H H' ∧ H' D = some (.dK kvs) ∧ PySem.Paired (fun (kv : Key × V) (n : Str) => kv.1 = .inr n ∧ ∃ a, kv.2 = .ref a ∧ H' a = some (.lst []) ∧ H a = none) kvs (xs.map fun x => x.1) ∧ (kvs.map fun kv => kv.2).Nodup) (fun R0 h0 => ?_) fun vD HD hD => ?_
  · refine ⟨_, rfl, R, rfl, ⟨_, hR⟩, fun D0 nD0 => ?_⟩
    refine loop_any (walk_list (K := K) (a := R) (xs := ws)) (fun j H' => ∃ (ps : List Addr) (kvs : List (Key × V)), Same H H' ∧ H' D0 = some (.lst (ps.map V.ref)) ∧ PySem.Paired (fun (q : Addr) (kv : Key × V) => H' q = some (.tup [kV kv.1, kv.2])) ps kvs ∧ PySem.Paired (fun (kv : Key × V) (n : Str) => kv.1 = .inr n ∧ ∃ a, kv.2 = .ref a ∧ a ≠ D0 ∧ H' a = some (.lst []) ∧ H a = none) kvs ((xs.map fun x => x.1).take j) ∧ (kvs.map fun kv => kv.2).Nodup)
      ⟨[], [], Shg.same_upd nD0, upd_same, .nil, .nil, List.nodup_nil⟩ (fun j H' _ q => by
        obtain ⟨_, _, s, _⟩ := q
        exact Dw.sql_e (LamX.ExtN.of s) hR) (fun j v H4 H5 hj q yy => ?_) fun H4 q => ?_
    · obtain ⟨ps, kvs, s4, e4, r4, n4, d4⟩ := q
      obtain ⟨rfl, e2⟩ := yy
      obtain ⟨x, hx, t, rfl, ht⟩ := Shg.pair_get sv e2
      have lk := Shg.pair_len n4
      have lp := Shg.pair_len r4
      refine ⟨rfl, _, rfl, t, _, 0, .str x.1, rfl, rfl, SqT.of (s4 _ _ ht), atI_nat (j := 0) rfl, Nat.zero_le _, fun a ha => ⟨by show 2 ≤ sizeLine; decide, fun q hq => ?_⟩⟩
      have s5 := Shg.same_upd (o := .lst []) ha
      have ea : upd H5 a (.lst []) a = some (.lst []) := upd_same
      have s6 := Shg.same_upd (o := .tup [.str x.1, .ref a]) hq
      have eq6 : upd (upd H5 a (.lst [])) q (.tup [.str x.1, .ref a]) q = some (.tup [.str x.1, .ref a]) := upd_same
      have e6 := s6 _ _ (s5 _ _ e4)
      have ea6 := s6 _ _ ea
      have aD : a ≠ D0 := fun z => by rw [z, e4] at ha; cases ha
      have s46 := s5.trans s6
      generalize upd (upd H5 a (.lst [])) q (.tup [.str x.1, .ref a]) = H6 at s6 eq6 e6 ea6 s46 ⊢
      have kp : ∀ b o, H6 b = some o → b ≠ D0 → upd H6 D0 (.lst ((ps.map V.ref) ++ [.ref q])) b = some o := fun b o e n => by rw [upd_ne n]; exact e
      refine ⟨_, e6, ?_, ps ++ [q], kvs ++ [(.inr x.1, .ref a)], fun b u e => ?_, ?_, ?_, ?_, ?_⟩
      · rw [List.length_map, lp, lk, List.length_take, List.length_map]
        have : 1000 < sizeLine := by decide
        omega
      · rw [upd_ne (ne_of_none e nD0)]
        exact (s4.trans s46) b u e
      · rw [upd_same, List.map_append]
        rfl
      · refine Shg.pair_app (Shg.pair_mono (fun p kv e => kp _ _ (s46 _ _ e) fun z => ?_) r4) (.cons (kp _ _ eq6 fun z => ?_) .nil)
        · rw [z, e4] at e; cases e
        · rw [z, e6] at eq6; cases eq6
      · rw [List.take_succ, List.getElem?_map, hx]
        exact Shg.pair_app (Shg.pair_mono (fun kv n ⟨e1, a', e2, e3, e4, e5⟩ => ⟨e1, a', e2, e3, kp _ _ (s46 _ _ e4) e3, e5⟩) n4) (.cons ⟨rfl, a, rfl, aD, kp _ _ ea6 aD, none_back s4 ha⟩ .nil)
      · rw [List.map_append, List.nodup_append]
        refine ⟨d4, by simp, fun u hu z hz e => ?_⟩
        rw [List.mem_singleton.mp hz] at e
        subst e
        obtain ⟨kv, hkv, e⟩ := List.mem_map.mp hu
        obtain ⟨i, hi⟩ := List.getElem?_of_mem hkv
        obtain ⟨n, hn, _, a', e1, _, e2, _⟩ := Shg.pair_get n4 hi
        rw [e] at e1
        rw [← V.ref.inj e1, ha] at e2
        cases e2
    · obtain ⟨ps, kvs, s4, e4, r4, n4, d4⟩ := q
      rw [List.take_of_length_le (by rw [List.length_map, lw]; exact Nat.le_refl _)] at n4
      refine ⟨D0, ps, kvs, rfl, SqL.of e4, Shg.pair_mono (fun p kv e => SqT.of e) r4, fun D nD => ?_⟩
      have s5 := Shg.same_upd (o := .dK (mergeK [] kvs)) nD
      have e5 : upd H4 D (.dK (mergeK [] kvs)) D = some (.dK kvs) := by
        rw [upd_same, merge_new kvs [] ?_]
        · rfl
        · rw [List.nil_append]
          have ek : kvs.map (fun kv => kv.1) = (xs.map fun x => x.1).map Sum.inr := by
            clear e4 r4 s5 d4
            generalize (xs.map fun x => x.1) = ns at n4
            induction n4 with
            | nil => rfl
            | cons h t ih => rw [List.map_cons, List.map_cons, ih, h.1]
          rw [ek]
          exact List.pairwise_map.mpr (nm.imp fun h e => h (Sum.inr.inj e))
      exact h0 _ _ ⟨D, kvs, rfl, s4.trans s5, e5, Shg.pair_mono (fun kv n ⟨e1, a, e2, _, e3, e4⟩ => ⟨e1, a, e2, s5 _ _ e3, e4⟩) n4, d4⟩
  obtain ⟨D, kvs, rfl, sD, eD, rD, nD⟩ := hD
  have svD : StaysV HD ws xs := Shg.pair_mono (fun _ _ ⟨t, q, ht⟩ => ⟨t, q, sD _ _ ht⟩) sv
  refine ⟨_, rfl, R, ws, xs.map rw3, nvS, rfl, Dw.sql_e (LamX.ExtN.of sD) hR, play_of svD, by rw [List.length_map]; exact hl, ?_, rw_nodup nm, fun t L D2 out kvs2 ts H1 s1 et eL o1 _ _ _ _ => ?_⟩
  · intro r hr'
    obtain ⟨x, hx, rfl⟩ := List.mem_map.mp hr'
    exact hv x hx
  have eD1 := s1 _ _ eD
  have rD1 : PySem.Paired (fun (kv : Key × V) (n : Str) => kv.1 = .inr n ∧ ∃ a, kv.2 = .ref a ∧ H1 a = some (.lst []) ∧ H a = none) kvs (xs.map fun x => x.1) := Shg.pair_mono (fun kv n ⟨e1, a, e2, e3, e4⟩ => ⟨e1, a, e2, s1 _ _ e3, e4⟩) rD
  have lo := Shg.pair_len o1
  -- all that was there stays, but the lists
  have mEm : ∀ kv ∈ kvs, ∀ a, kv.2 = V.ref a → H1 a = some (.lst []) ∧ H a = none := fun kv hkv a e => by
    obtain ⟨i, hi⟩ := List.getElem?_of_mem hkv
    obtain ⟨n, hn, _, a', e1, e2, e3⟩ := Shg.pair_get rD1 hi
    rw [e] at e1
    rw [V.ref.inj e1]
    exact ⟨e2, e3⟩
  refine ⟨t, _, 0, .ref L, rfl, rfl, SqT.of et, atI_nat (j := 0) rfl, L, rfl, ⟨_, SqL.of eL⟩, for_it (walk_list (K := K) (a := L) (xs := out)) (fun j σ H' => (∃ o2 o3 o4, σ = [some (.ref R), some (.ref D), o2, o3, o4]) ∧ (∀ b o, H1 b = some o → (∀ kv ∈ kvs, kv.2 ≠ .ref b) → H' b = some o) ∧ H' L = some (.lst out) ∧ NearK H' kvs (xs.map fun x => x.1) (nearOf (((Pq.crossed (xs.map rw3)).take j).map fun q => (q.1.nm, q.2.nm))))
    ⟨⟨_, _, _, rfl⟩, fun b o e _ => e, eL, Shg.pair_mono (fun kv n ⟨e1, a, e2, e3, _⟩ => ⟨e1, a, e2, e3⟩) rD1⟩ (fun j σ H' _ z => SqL.of z.2.2.1) ?_ ?_⟩
  · rintro j y σ H3 H2 hj ⟨⟨o2, o3, o4, rfl⟩, kp, eL2, nk⟩ ⟨rfl, e2⟩
    obtain ⟨q, hq, tq, rfl, htq⟩ := Shg.pair_get o1 e2
    have nt : ∀ {b : Addr} {o : HO}, H1 b = some o → o ≠ .lst [] → ∀ kv ∈ kvs, kv.2 ≠ .ref b := fun {b o} h n kv hkv e => by
      have := (mEm kv hkv b e).1
      rw [h] at this
      exact n (Option.some.inj this)
    have htq2 := kp _ _ htq (nt htq fun z => nomatch z)
    have eD2 := kp _ _ eD1 (nt eD1 fun z => nomatch z)
    have nL : ∀ kv ∈ kvs, kv.2 ≠ .ref L := nt eL fun z => by
      have := HO.lst.inj z
      rw [this] at e2
      cases e2
    refine ⟨tq, _, rfl, SqT.of htq2, rfl, _, _, rfl, _, _, rfl, rfl, ?_⟩
    have mem : q.1.nm ∈ (xs.map fun x => x.1) ∧ q.2.nm ∈ (xs.map fun x => x.1) := by
      have h1 := List.mem_of_getElem? hq
      unfold Pq.crossed at h1
      obtain ⟨r, hr', h2⟩ := List.mem_flatMap.mp h1
      obtain ⟨r2, hr2, rfl⟩ := List.mem_map.mp h2
      obtain ⟨x, hx, rfl⟩ := List.mem_map.mp (Pq.takers_mem hr')
      obtain ⟨y, hy, rfl⟩ := List.mem_map.mp (lifted_mem hr2)
      exact ⟨List.mem_map.mpr ⟨x, hx, rfl⟩, List.mem_map.mpr ⟨y, hy, rfl⟩⟩
    generalize hps : ((Pq.crossed (xs.map rw3)).take j).map (fun q => (q.1.nm, q.2.nm)) = ps at nk
    have et2 : ((Pq.crossed (xs.map rw3)).take (j + 1)).map (fun q => (q.1.nm, q.2.nm)) = ps ++ [(q.1.nm, q.2.nm)] := by
      rw [List.take_succ, hq, List.map_append, hps]
      rfl
    have few : ∀ n, (nearOf ps n).length + 2 < sizeLine := fun n => by
      have h1 : (nearOf ps n).length ≤ ps.length * 2 := flat_le (f := fun q : Str × Str => (if q.1 = n then [q.2] else []) ++ (if q.2 = n then [q.1] else [])) (n := 2) (fun q => by
        rw [List.length_append]
        have e1 : ((if q.1 = n then [q.2] else [] : List Str)).length ≤ 1 := by split <;> simp
        have e2 : ((if q.2 = n then [q.1] else [] : List Str)).length ≤ 1 := by split <;> simp
        omega) ps
      have h3 := flat_le (f := fun x : Rw => (lifted (xs.map rw3) x).map fun y => (x, y)) (n := 100) (fun x => by
        rw [List.length_map]
        exact Nat.le_trans (lifted_len _ x) (by rw [List.length_map]; exact hl)) (Pq.takers (xs.map rw3))
      have h4 : (Pq.crossed (xs.map rw3)).length ≤ (Pq.takers (xs.map rw3)).length * 100 := h3
      have h6 : (Pq.takers (xs.map rw3)).length = xs.length := by rw [(takers_perm _).length_eq, List.length_map]
      have h5 : 30000 < sizeLine := by decide
      have h7 : ps.length ≤ (Pq.crossed (xs.map rw3)).length := by rw [← hps, List.length_map, List.length_take]; exact Nat.min_le_right _ _
      rw [h6] at h4
      omega
    obtain ⟨a1, i1, kv1, c1, c2, c3, c4, c5⟩ := near_get nk mem.1
    refine ⟨_, rfl, _, rfl, D, .ref a1, rfl, ?_, .inl ⟨rfl, _, SqL.of c5⟩, _, rfl, a1, _, _, rfl, rfl, c5, ?_, ?_⟩
    · rw [← c4]
      exact DGet.k (k := Sum.inr q.1.nm) eD2
    · rw [List.length_map]
      have := few q.1.nm
      omega
    have nk3 := near_upd nk nD nm c1 c2 c3 (z := q.2.nm)
    have k3 : ∀ b o, H2 b = some o → (∀ kv ∈ kvs, kv.2 ≠ .ref b) → upd H2 a1 (.lst ((nearOf ps q.1.nm).map V.str ++ [.str q.2.nm])) b = some o := fun b o e n => by
      rw [upd_ne fun z => n kv1 (List.mem_of_getElem? c1) (by rw [z]; exact c3)]
      exact e
    have eD3 := k3 _ _ eD2 (nt eD1 fun z => nomatch z)
    generalize upd H2 a1 (.lst ((nearOf ps q.1.nm).map V.str ++ [.str q.2.nm])) = H4 at nk3 k3 eD3 ⊢
    obtain ⟨a2, i2, kv2, d1, d2, d3, d4, d5⟩ := near_get nk3 mem.2
    refine ⟨_, rfl, _, rfl, D, .ref a2, rfl, ?_, .inl ⟨rfl, _, SqL.of d5⟩, _, rfl, a2, _, _, rfl, rfl, d5, ?_, ?_⟩
    · rw [← d4]
      exact DGet.k (k := Sum.inr q.2.nm) eD3
    · rw [List.length_map]
      have := few q.2.nm
      show ((nearOf ps q.2.nm) ++ _).length < _
      rw [List.length_append]
      have : ((if q.1.nm = q.2.nm then [q.2.nm] else [] : List Str)).length ≤ 1 := by split <;> simp
      omega
    have nk4 := near_upd nk3 nD nm d1 d2 d3 (z := q.1.nm)
    have ef : (fun n => (nearOf ps n ++ if q.1.nm = n then [q.2.nm] else []) ++ if q.2.nm = n then [q.1.nm] else []) = nearOf (ps ++ [(q.1.nm, q.2.nm)]) := by
      funext n
      unfold nearOf
      rw [List.flatMap_append, List.flatMap_cons, List.flatMap_nil, List.append_nil, List.append_assoc]
    have nk5 : NearK _ kvs (xs.map fun x => x.1) _ := nk4
    rw [ef, ← et2] at nk5
    have k4 : ∀ b o, H4 b = some o → (∀ kv ∈ kvs, kv.2 ≠ .ref b) → upd H4 a2 (.lst ((nearOf ps q.2.nm ++ if q.1.nm = q.2.nm then [q.2.nm] else []).map V.str ++ [.str q.1.nm])) b = some o := fun b o e n => by
      rw [upd_ne fun z => n kv2 (List.mem_of_getElem? d1) (by rw [z]; exact d3)]
      exact e
    exact ⟨⟨_, _, _, rfl⟩, fun b o e n => k4 _ _ (k3 _ _ (kp b o e n) n) n, k4 _ _ (k3 _ _ eL2 nL) nL, nk5⟩
  · rintro σ H2 ⟨⟨o2, o3, o4, rfl⟩, kp, eL2, nk⟩
    rw [lo, List.take_length, ← crossed_nm] at nk
    have old : ∀ {b : Addr} {o : HO}, H b = some o → ∀ kv ∈ kvs, kv.2 ≠ .ref b := fun {b o} h kv hkv e => by
      have := (mEm kv hkv b e).2
      rw [h] at this
      cases this
    refine ⟨_, rfl, k D kvs H2 (fun b o e => kp b o (s1 _ _ (sD _ _ e)) (old e)) (kp _ _ eD1 fun kv hkv e => ?_) nk⟩
    have := (mEm kv hkv D e).1
    rw [eD1] at this
    cases this
end
end Ck
set_option Elab.async false
set_option linter.all false
set_option maxRecDepth 100000
set_option maxHeartbeats 4000000
set_option autoImplicit false
/-! What the laws of piles keep through a turn. -/
namespace Ck
open PySem L2 Sho NdefX Shg Sh1 Gq
/-- a good name -/
def GoodN (n : Str) : Prop := n.length ≤ 1000 ∧ n.cps.all (· < 0x110000) = true
/-- a list of names -/
structure NmAt (l a : Addr) (k : Nat) (names : List Str) (H : Hp) : Prop where
  at_ : H a = some (.lst (names.map V.str))
  ne : a ≠ l
  len : names.length ≤ k
  good : ∀ n ∈ names, GoodN n
section
/-- what stands through a turn -/
structure S5 (K : PySem.W.Frag) (T : List (Addr × Str)) (C l a : Addr) (ns : List Int) (R : Addr) (ws : List V) (xs : List Stay) (p D : Addr) (kvs : List (Key × V)) (H : Hp) : Prop where
  d : Dw.St K T l a ns H
  r : H R = some (.lst ws)
  nR : R ≠ l
  s : StaysV H ws xs
  p : PartyAt C H p xs
  eD : H D = some (.dK kvs)
  nk : NearK H kvs (xs.map fun x => x.1) (nearOf (crossed (xs.map rw3)))
section
variable {K : PySem.W.Frag} {T : List (Addr × Str)} {C l a : Addr} {ns : List Int} {R : Addr} {ws : List V} {xs : List Stay} {p D : Addr} {kvs : List (Key × V)} {H H' : Hp}
theorem party_ext (e : LamX.ExtN H H') (h : PartyAt C H p xs) : PartyAt C H' p xs := by
  obtain ⟨dx, b, zs, h1, h2, h3⟩ := h
  exact ⟨dx, b, zs, e _ _ h1 (fun _ z => nomatch z), e _ _ h2 (fun _ z => nomatch z), Shg.pair_mono (fun _ _ ⟨t, q, ht⟩ => ⟨t, q, e _ _ ht fun _ z => nomatch z⟩) h3⟩
theorem S5.grows (k : S5 K T C l a ns R ws xs p D kvs H) (g : Grows T H H') : S5 K T C l a ns R ws xs p D kvs H' :=
  ⟨k.d.grows g, g.ext _ _ k.r (fun _ z => nomatch z), k.nR, Shg.pair_mono (fun _ _ ⟨t, q, ht⟩ => ⟨t, q, g.ext _ _ ht fun _ z => nomatch z⟩) k.s, party_ext g.ext k.p, g.ext _ _ k.eD (fun _ z => nomatch z),
    Shg.pair_mono (fun kv n ⟨e1, a, e2, e3⟩ => ⟨e1, a, e2, g.ext _ _ e3 fun _ z => nomatch z⟩) k.nk⟩
theorem S5.same (k : S5 K T C l a ns R ws xs p D kvs H) (s : Same H H') : S5 K T C l a ns R ws xs p D kvs H' := k.grows (Sh1.Grows.of s)
theorem S5.draw (k : S5 K T C l a ns R ws xs p D kvs H) (b : But l H H') (d : DrawSt K H' l a ns) : S5 K T C l a ns R ws xs p D kvs H' := by
  obtain ⟨zs, hl⟩ := k.d.d.at
  have nt : ∀ {c : Addr} {o : HO}, H c = some o → (∀ ys, o ≠ .lst ys) → H' c = some o := fun {c o} e n => b _ _ e fun z => by
    rw [z, hl] at e
    cases e
    exact n _ rfl
  refine ⟨k.d.draw b d, b _ _ k.r k.nR, k.nR, Shg.pair_mono (fun _ _ ⟨t, q, ht⟩ => ⟨t, q, nt ht fun _ z => nomatch z⟩) k.s, ?_, nt k.eD (fun _ z => nomatch z), Shg.pair_mono (fun kv n ⟨e1, a, e2, e3⟩ => ⟨e1, a, e2, b _ _ e3 fun z => ?_⟩) k.nk⟩
  · obtain ⟨dx, c, us, h1, h2, h3⟩ := k.p
    exact ⟨dx, c, us, nt h1 (fun _ z => nomatch z), nt h2 (fun _ z => nomatch z), Shg.pair_mono (fun _ _ ⟨t, q, ht⟩ => ⟨t, q, nt ht fun _ z => nomatch z⟩) h3⟩
  · rw [z, hl] at e3
    generalize nearOf (crossed (xs.map rw3)) n = ys at e3
    cases ys <;> cases e3
theorem NmAt.draw {k : Nat} {names : List Str} {b : Addr} (h : NmAt l b k names H) (s : But l H H') : NmAt l b k names H' := ⟨s _ _ h.at_ h.ne, h.ne, h.len, h.good⟩
theorem NmAt.grows {k : Nat} {names : List Str} {b : Addr} (h : NmAt l b k names H) (g : Grows T H H') : NmAt l b k names H' := ⟨g.ext _ _ h.at_ (fun _ z => nomatch z), h.ne, h.len, h.good⟩
theorem NmAt.same {k : Nat} {names : List Str} {b : Addr} (h : NmAt l b k names H) (g : Same H H') : NmAt l b k names H' := ⟨g _ _ h.at_, h.ne, h.len, h.good⟩
end
theorem dp_stay {K : PySem.W.Frag} {H : Hp} {ws : List V} {xs : List Stay} (h : StaysV H ws xs) : DpAll K H ws (xs.map fun x => .tuple [.str x.1, .int x.2.1, .int x.2.2]) :=
  Shp.dp_of (fun v x ⟨t, e, ht⟩ => by subst e; exact .tup (SqT.of ht) (.cons (.str _) (.cons (.int _) (.cons (.int _) .nil)))) h
theorem stay_plain {xs : List Stay} (hs : Short xs) : Shp.PlainD 2 (.list (xs.map fun x => .tuple [.str x.1, .int x.2.1, .int x.2.2])) := Shp.plain_lst fun d hd => by
  obtain ⟨x, hx, rfl⟩ := List.mem_map.mp hd
  refine Shp.plain_tup fun e he => ?_
  simp only [List.mem_cons, List.not_mem_nil, or_false] at he
  rcases he with rfl | rfl | rfl
  · exact Shp.plain_str (hs x hx).2 0
  · exact Shp.plain_int _ 0
  · exact Shp.plain_int _ 0
theorem cut_drop (ws : List V) (k : Nat) : cutV ws (some (k : Int)) none = ws.drop k := by
  unfold cutV
  rw [HT.sIx_none, HT.sIx_nat]
  by_cases h : k ≤ ws.length
  · rw [Nat.min_eq_left h, List.take_of_length_le (by rw [List.length_drop]; exact Nat.le_refl _)]
  · rw [Nat.min_eq_right (by omega), Nat.sub_self, List.take_zero, List.drop_of_length_le (by omega)]
end
end Ck
set_option Elab.async false
set_option linter.all false
set_option maxRecDepth 100000
set_option maxHeartbeats 8000000
set_option autoImplicit false
/-! quiet_guests. -/
namespace Qu
open PySem L2 Sho NdefX Shg Sh1 Gq Ck
abbrev NQf : List Str := ["party", "crossing", "many", "chosen", "rest", "first", "later", "fitting", "stay"]
theorem ne_atU {D b : Addr} {H : Hp} {o u : HO} (hD : H D = some o) (e : H b = some u) (n : u ≠ o) : b ≠ D := fun z => by
  rw [z, hD] at e
  exact n (Option.some.inj e).symm
theorem grows_updU {T : List (Addr × Str)} {H H1 : Hp} {D : Addr} {zs zs' : List V} (hD : H D = none) (G : Grows T H H1) (e : H1 D = some (.lst zs)) : Grows T H (L2.upd H1 D (.lst zs')) := by
  refine ⟨fun b u h n => ?_, fun t q hq => ?_⟩
  · rw [upd_ne (ne_of_none h hD)]
    exact G.ext b u h n
  · obtain ⟨qs, q1, q2, q3⟩ := G.tab t q hq
    refine ⟨qs, by rw [upd_ne (ne_atU e q1 fun z => nomatch z)]; exact q1, q2, fun p' cv h => ?_⟩
    obtain ⟨c, e1, e2⟩ := q3 p' cv h
    exact ⟨c, e1, by rw [upd_ne (ne_atU e e2 fun z => nomatch z)]; exact e2⟩
theorem stays_extU {H H' : Hp} (e : LamX.ExtN H H') {ws : List V} {xs : List Stay} (h : StaysV H ws xs) : StaysV H' ws xs := Shg.pair_mono (fun _ _ ⟨t, q, ht⟩ => ⟨t, q, e _ _ ht fun _ z => nomatch z⟩) h
section
variable {P : Program} {w : World} {K : PySem.W.Frag} {mg : Str → Option Value} {base : Heap}
def spQuietG (C : Addr) (T : List (Addr × Str)) : Sp := fun vs H Q _ => ∃ (p : Addr) (xs : List Stay), vs = [.ref p] ∧ PartyAt C H p xs ∧ Short xs ∧ xs.length ≤ 100 ∧ (xs.map fun x => x.1).Nodup ∧ (∀ x ∈ xs, x.2.1 < x.2.2) ∧ LamX.Tabs T H ∧
  ∀ (a : Addr) H', Grows T H H' → H' a = some (.lst ((grd (nearOf (crossed (xs.map rw3))) (xs.map fun x => x.1)).map V.str)) → Q (.ref a) H'
theorem scQf : FnScope NQf ["party"] (defScope sQuietGuests) := ⟨rfl, rfl, rfl, by decide +kernel, rfl, by decide +kernel, by decide +kernel⟩
theorem ok_quietG {f C fX fQ fS pS : Addr} {fd fdX fdQ fdS : FuncData} {T : List (Addr × Str)} (F : Fun K "quiet_guests" "quiet_guests" sQuietGuests f fd) (B : Shg.Blt mg) (PC : PartyC K mg C)
    (GX : FnOk P w K mg base CX0 10 fX fdX ["party"] (spNear C T)) (mX : mg "_crossing_names" = some (.ref fX)) (kX : PySem.W.keepIn K (.ref fX) = true) (bX : Binds K fdX ["party"] [])
    (GQ : FnOk P w K mg base CX0 7 fQ fdQ ["stays"] (spQuiet K T)) (mQ : mg "quiet_count" = some (.ref fQ)) (kQ : PySem.W.keepIn K (.ref fQ) = true) (bQ : Binds K fdQ ["stays"] [])
    (GS : FnOk P w K mg base CX0 1 fS fdS ["self"] (getSp C "_stays")) (hS : PropOf K C "stays" pS fS) (bS : Binds K fdS ["self"] []) :
    FnOk P w K mg base CX0 11 f fd ["party"] (spQuietG C T) := by
  refine F.ok scQf (fun vs H Q E h => ?_) (fun cdv A outer s H vs Q E hr h => ?_)
  · obtain ⟨p, xs, rfl, _⟩ := h
    rfl
  obtain ⟨p, xs, rfl, hP, sht, hl, nm, hv, hT, k⟩ := h
  have nd := scQf.nd
  refine ⟨_, (pss_cons (ps_set (i := 1) nd rfl (Or.inr rfl) (pe_call GX (hr.mono (by decide)) rfl mX kX bX .nil pass0 (pa_cons (pv 0) pa_nil)))
      (pss_cons (ps_set (i := 2) nd rfl (Or.inl rfl) (pe_call GQ (hr.mono (by decide)) rfl mQ kQ bQ .nil pass0 (pa_cons (pe_prop (pv 0) PC.cl hS GS (hr.mono (by decide)) bS .nil pass0 rfl) pa_nil)))
      (pss_cons (ps_set (i := 3) nd rfl (Or.inl rfl) (pe_lst pa_nil))
      (pss_cons (ps_set (i := 4) nd rfl (Or.inl rfl) (pe_callTy call_list_of (by rfl) B.list (by decide +kernel) (pa_cons (pe_prop (pv 0) PC.cl hS GS (hr.mono (by decide)) bS .nil pass0 rfl) pa_nil)))
      (pss_cons (ps_while PassesOwn.never (pt_truth (pv 4) (fun _ => rfl)) (pss_cons (ps_asg (pv 4) (pg_starL rfl (pg_name (i := 5) nd rfl (Or.inr rfl)) (pg_name (i := 6) nd rfl (Or.inl rfl))))
      (pss_cons (ps_setLc (i := 7) (own := [("stay", 8)]) (g := gName 8) (tt := tTest (tOp (rIn K true) (tOp (rIxT K) (tVar 8) (tC (.int 0))) (tDGet (tVar 1) (tOp (rIxT K) (tVar 5) (tC (.int 0)))))) (te := tVar 8) rfl nd rfl rfl (sw_true rfl rfl rfl (by decide +kernel)) (pi_list (pv 6)) (blkOk_by (own := [("stay", 8)]) (N := NQf) (sc := defScope sQuietGuests) (by decide +kernel))
        (fun _ _ _ _ _ => (pg_name (i := 8) nd rfl (Or.inl rfl))) (fun _ _ _ _ _ => pts_one (pt_cmpR op_notIn_seq (pe_ix ix_tup (pv 8) pe_int (fun _ _ => rfl)) (pe_dget (units1 hr) (pv 1) (pe_ix ix_tup (pv 5) pe_int (fun _ _ => rfl)) (fun _ _ => rfl)) rfl)) (fun _ _ _ _ _ => (pv 8)))
      (pss_one (ps_if (pt_cmpR op_eq (pe_op op_add (pe_op op_add (pe_callB call_len_seq (by rfl) B.len PySem.boot_len (pa_cons (pv 3) pa_nil)) pe_int) (pe_call GQ (hr.mono (by decide)) rfl mQ kQ bQ .nil pass0 (pa_cons (pe_callTy call_tuple_of (by rfl) B.tuple (by decide +kernel) (pa_cons (pv 7) pa_nil)) pa_nil))) (pv 2) (nomark _)) (pss_cons (ps_expr (pe_bm PySem.F.plainAttrs_list PySem.F.slot_list_append PySem.F.type_list_append mt_append (pv 3) (pa_cons (pe_ix ix_tup (pv 5) pe_int (fun _ _ => rfl)) pa_nil)))
      (pss_one (ps_set (i := 4) nd rfl (Or.inl rfl) (pv 7)))) (pss_one (ps_set (i := 4) nd rfl (Or.inl rfl) (pv 6))))))))
      (pss_one (ps_ret (pv 3)))))))), ?_⟩
  have sy : ∀ n m, m ∈ nearOf (crossed (xs.map rw3)) n → n ∈ nearOf (crossed (xs.map rw3)) m := fun n m h => near_sym h
  have irr : ∀ n, n ∉ nearOf (crossed (xs.map rw3)) n := Fp.near_irr (by rw [nm_rw]; exact nm)
  have z1 : (1 : Nat) ≤ sizeLine := by decide
  refine ⟨_, rfl, p, xs, rfl, hP, sht, hl, nm, hT, fun D kvs H1 G1 eD nk => ?_⟩
  refine name_at ?_
  have P1 := party_ext G1.ext hP
  have ret : ∀ a H', Grows T H1 H' → H' a = some (.lst ((grd (nearOf (crossed (xs.map rw3))) (xs.map fun x => x.1)).map V.str)) → Q (.ref a) H' := fun a H' g e => k a H' (G1.trans g) e
  have hT1 := G1.tab hT
  clear k hP
  generalize hff : nearOf (crossed (xs.map rw3)) = ff at *
  have sub : ∀ ys : List Stay, ys.Sublist xs → ∀ a ∈ (ys.map fun x => x.1), ∀ b ∈ (ys.map fun x => x.1), (b ∈ nearOf (crossed (ys.map rw3)) a ↔ b ∈ ff a) := fun ys s => by
    rw [← hff, ← nm_rw]
    exact sub_near (s.map rw3) (by rw [nm_rw]; exact nm)
  have cnt : ∀ (ys : List Stay), ys.Sublist xs → ∀ m, Alpha (nearOf (crossed (ys.map rw3))) (ys.map fun x => x.1) m → m = alN ff (ys.map fun x => x.1) := fun ys s m h => (h.congr (sub ys s)).uniq (alpha_alN irr sy (nm.sublist (s.map _)))
  obtain ⟨dx, a0, ws, h1, h2, sv⟩ := id P1
  refine ⟨_, rfl, p, dx, _, rfl, h1, p, dx, _, .ref a0, rfl, h1, lk_stays _, a0, ws, xs, rfl, .inr (SqT.of h2), sv, hl, nm, hv, hT1, fun M H2 G2 AM => ?_⟩
  obtain rfl := cnt xs (List.Sublist.refl _) M AM
  refine name_at ?_
  refine ⟨Nat.zero_le _, fun Ch hCh => ?_⟩
  refine name_at ?_
  have s3 := Shg.same_upd (o := .lst []) hCh
  have e3 : upd H2 Ch (.lst []) Ch = some (.lst []) := upd_same
  have G3 : Grows T H1 (upd H2 Ch (.lst [])) := G2.trans (Sh1.Grows.of s3)
  have hCh1 : ∀ b o, H1 b = some o → (∀ ps, o ≠ .tbl ps) → b ≠ Ch := fun b o e n => ne_of_none (G2.ext _ _ e n) hCh
  refine ⟨_, rfl, p, dx, _, rfl, G3.ext _ _ h1 (fun _ z => nomatch z), p, dx, _, .ref a0, rfl, G3.ext _ _ h1 (fun _ z => nomatch z), lk_stays _, a0, ws, rfl, .inr (SqT.of (G3.ext _ _ h2 fun _ z => nomatch z)), fun Rs hRs => ?_⟩
  refine name_at ?_
  have s4 := s3.trans (Shg.same_upd (o := .lst ws) hRs)
  have e4 : upd (upd H2 Ch (.lst [])) Rs (.lst ws) Rs = some (.lst ws) := upd_same
  have e4c := (Shg.same_upd (o := .lst ws) hRs) _ _ e3
  generalize upd (upd H2 Ch (.lst [])) Rs (.lst ws) = H4 at s4 e4 e4c ⊢
  have sv2 := stays_extU G2.ext sv
  refine ⟨fun m σ H' => ∃ (o5 o6 o7 : Option V) (Rs : Addr) (vs : List V) (ys : List Stay) (c : List Str), σ = [some (.ref p), some (.ref D), some (.int (alN ff (xs.map fun x => x.1) : Nat)), some (.ref Ch), some (.ref Rs), o5, o6, o7, none] ∧ m = ys.length ∧ Grows T H2 H' ∧ H' Ch = some (.lst (c.map V.str)) ∧ Rs ≠ Ch ∧ H' Rs = some (.lst vs) ∧ StaysV H' vs ys ∧ ys.Sublist xs ∧ c ++ grd ff (ys.map fun x => x.1) = grd ff (xs.map fun x => x.1) ∧ c.length + alN ff (ys.map fun x => x.1) = alN ff (xs.map fun x => x.1) ∧ c.length + ys.length ≤ 100,
    ⟨_, none, none, none, Rs, ws, xs, [], rfl, rfl, Sh1.Grows.of s4, e4c, ?_, e4, Shg.pair_mono (fun _ _ ⟨t, q, ht⟩ => ⟨t, q, s4 _ _ ht⟩) sv2, List.Sublist.refl _, rfl, Nat.zero_add _, by rw [List.length_nil]; omega⟩, ?_⟩
  · intro z
    subst z
    rw [e3] at hRs
    cases hRs
  rintro m σ H5 ⟨o5, o6, o7, Rs, vs, ys, c, rfl, em', G5, eC, nR, eR, sv5, sb, gr, al, lc⟩
  refine ⟨_, rfl, _, .inl ⟨_, SqL.of eR, rfl⟩, ?_⟩
  cases sv5 with
  | nil =>
    refine iteF ⟨_, rfl, ret Ch H5 (G2.trans G5) ?_⟩
    have gr : c ++ grd ff [] = _ := gr
    rw [grd_nil, List.append_nil] at gr
    rw [← gr]
    exact eC
  | @cons v y vs' ys' hv0 sv6 =>
    obtain ⟨tv, rfl, htv⟩ := hv0
    refine iteT ⟨_, fun σ' H' z => z, _, rfl, Rs, _, vs', rfl, SqL.of eR, fun La hLa => ?_⟩
    have s6 := Shg.same_upd (o := .lst vs') hLa
    have eLa : upd H5 La (.lst vs') La = some (.lst vs') := upd_same
    have nLa : La ≠ Ch := fun z => by
      rw [z, eC] at hLa
      cases hLa
    generalize upd H5 La (.lst vs') = H6 at s6 eLa ⊢
    refine name_at (name_at ?_)
    have G6 : Grows T H2 H6 := G5.trans (Sh1.Grows.of s6)
    have G16 : Grows T H1 H6 := G2.trans G6
    have sbs : (y :: ys').Sublist xs := sb
    have hy : y ∈ xs := sbs.mem List.mem_cons_self
    have sb' : ys'.Sublist xs := (List.sublist_cons_self y ys').trans sbs
    have eD6 := G16.ext _ _ eD fun _ z => nomatch z
    have nk6 : NearK H6 kvs (xs.map fun x => x.1) ff := Shg.pair_mono (fun kv n ⟨e1, a, e2, e3⟩ => ⟨e1, a, e2, G16.ext _ _ e3 fun _ z => nomatch z⟩) nk
    have hyn : y.1 ∈ (xs.map fun x => x.1) := List.mem_map.mpr ⟨y, hy, rfl⟩
    obtain ⟨Lf, _, _, _, _, _, vLf, eLf⟩ := near_get nk6 hyn
    have dgL : DGet H6 D (.str y.1) (some (.ref Lf)) := by
      rw [← vLf]
      exact DGet.k (k := Sum.inr y.1) eD6
    have l7 := Shg.pair_len sv6
    have lc' : c.length + (ys'.length + 1) ≤ 100 := lc
    let Pf : Stay → Bool := fun z => !decide (z.1 ∈ ff y.1)
    -- who fits
    refine ⟨_, rfl, La, rfl, ⟨_, SqL.of eLa⟩, fun Fa hFa => ?_⟩
    refine lc_gather walk_list (fun j => ((vs'.zip ys')[j]?).bind fun q => if Pf q.2 = true then some q.1 else none) hFa (by exact Nat.le_trans (show vs'.length ≤ 100 by omega) (by decide)) (fun HA sA => SqL.of (sA _ _ eLa)) (fun j u HA H' hj sA yy Rr k1 => ?_) fun HA sA eA => ?_
    · obtain ⟨rfl, e2⟩ := yy
      obtain ⟨x, hx, t9, rfl, ht9⟩ := Shg.pair_get sv6 e2
      have ez : (vs'.zip ys')[j]? = some (.ref t9, x) := List.getElem?_zip_eq_some.mpr ⟨e2, hx⟩
      have k2 := k1 _ (Same.refl _)
      rw [ez] at k2
      have k3 : Rr (if Pf x = true then some (V.ref t9) else none) H' := k2
      refine ⟨rfl, _, rfl, t9, _, 0, .str x.1, rfl, rfl, SqT.of (sA _ _ (s6 _ _ ht9)), atI_nat (j := 0) rfl, _, rfl, _, rfl, tv, _, 0, .str y.1, rfl, rfl, SqT.of (sA _ _ (s6 _ _ htv)), atI_nat (j := 0) rfl, D, .ref Lf, rfl, ?_, Lf, _, rfl, .inl (SqL.of (sA _ _ eLf)), rfl, Sh1.flat_strs _, _, rfl, ?_⟩
      · rw [← vLf]
        exact DGet.k (k := Sum.inr y.1) (sA _ _ eD6)
      · have ei : (if (true : Bool) = true then !inV (.str x.1) ((ff y.1).map V.str) else inV (.str x.1) ((ff y.1).map V.str)) = Pf x := by
          rw [if_pos rfl, Sh1.inV_strs]
          show _ = !decide (x.1 ∈ ff y.1)
          congr 1
          rw [Bool.eq_iff_iff, decide_eq_true_iff]
          exact any_mem
        have ei' : (if (true : Bool) = true then !inV (.str x.1) ((ff y.1).map V.str) else inV (.str x.1) ((ff y.1).map V.str)) = Pf x := ei
        refine ite2 (fun q => ?_) (fun q => ?_)
        · rw [if_pos (ei'.symm.trans q)] at k3
          exact ⟨_, rfl, k3⟩
        · rw [if_neg fun z => q (ei'.trans z)] at k3
          exact k3
    rw [show vs'.length = (vs'.zip ys').length from by rw [List.length_zip]; omega, gather_list (vs'.zip ys') fun q => if Pf q.2 = true then some q.1 else none] at eA
    refine name_at ?_
    generalize hfv : ((vs'.zip ys').filterMap fun q => if Pf q.2 = true then some q.1 else none) = fv at eA
    have svF : StaysV H6 fv (ys'.filter Pf) := by
      rw [← hfv]
      exact paired_filter Pf (Shg.pair_mono (fun _ _ ⟨t, q, ht⟩ => ⟨t, q, s6 _ _ ht⟩) sv6)
    have svA : StaysV HA fv (ys'.filter Pf) := Shg.pair_mono (fun _ _ ⟨t, q, ht⟩ => ⟨t, q, sA _ _ ht⟩) svF
    have lF : (ys'.filter Pf).length ≤ ys'.length := List.length_filter_le _ _
    have sbF : (ys'.filter Pf).Sublist xs := List.filter_sublist.trans sb'
    have nmF : (ys'.filter Pf).map (fun x => x.1) = fit ff y.1 (ys'.map fun x => x.1) := by
      unfold fit
      rw [List.filter_map]
      rfl
    have GA : Grows T H2 HA := G6.trans (Sh1.Grows.of sA)
    have eC6 := sA _ _ (s6 _ _ eC)
    have lyn : (ys'.map fun x => x.1).length = ys'.length := List.length_map _
    have gr2 : c ++ grd ff (y.1 :: ys'.map fun x => x.1) = grd ff (xs.map fun x => x.1) := gr
    have al2 : c.length + alN ff (y.1 :: ys'.map fun x => x.1) = alN ff (xs.map fun x => x.1) := al
    rw [grd_cons] at gr2
    rw [alN_cons] at al2
    -- the choice
    refine ⟨_, rfl, Ch, _, rfl, .inl (SqL.of eC6), _, _, rfl, rfl, _, rfl, Fa, fv, rfl, .inl ⟨SqL.of eA, fun tq htq => ?_⟩⟩
    have sQ := Shg.same_upd (o := .tup fv) htq
    have eQ : upd HA tq (.tup fv) tq = some (.tup fv) := upd_same
    generalize upd HA tq (.tup fv) = HQ at sQ eQ ⊢
    refine ⟨tq, fv, ys'.filter Pf, rfl, .inr (SqT.of eQ), Shg.pair_mono (fun _ _ ⟨t, q, ht⟩ => ⟨t, q, sQ _ _ ht⟩) svA, by omega, nm.sublist (sbF.map _), fun x hx => hv x (sbF.mem hx), (G2.trans (GA.trans (Sh1.Grows.of sQ))).tab hT1, fun m HR GR Am => ?_⟩
    have em := cnt _ sbF m Am
    rw [nmF] at em
    subst em
    refine ⟨_, _, rfl, rfl, _, rfl, rfl, _, rfl, ?_⟩
    have GAR : Grows T H2 HR := (GA.trans (Sh1.Grows.of sQ)).trans GR
    have eCR := GR.ext _ _ (sQ _ _ eC6) fun _ z => nomatch z
    have GT : Grows T H6 HR := ((Sh1.Grows.of sA).trans (Sh1.Grows.of sQ)).trans GR
    rw [List.length_map]
    have key : ∀ {a b : Int}, decide (V.int a = V.int b) = true ↔ a = b := fun {a b} => by
      rw [decide_eq_true_iff]
      exact ⟨fun h => V.int.inj h, fun h => by rw [h]⟩
    refine ite2 (fun q => ?_) (fun q => ?_)
    · have q := key.mp q
      have le : alN ff (ys'.map fun x => x.1) ≤ 1 + alN ff (fit ff y.1 (ys'.map fun x => x.1)) := by
        rcases Nat.le_total (alN ff (ys'.map fun x => x.1)) (1 + alN ff (fit ff y.1 (ys'.map fun x => x.1))) with z | z
        · exact z
        · rw [Nat.max_eq_right z] at al2
          omega
      rw [if_pos le] at gr2
      rw [Nat.max_eq_left le] at al2
      refine ⟨_, rfl, .inl ⟨rfl, _, SqL.of eCR⟩, _, rfl, tv, _, 0, .str y.1, rfl, rfl, SqT.of (GT.ext _ _ (s6 _ _ htv) fun _ z => nomatch z), atI_nat (j := 0) rfl, Ch, _, _, rfl, rfl, eCR, by rw [List.length_map]; exact Nat.lt_of_lt_of_le (show c.length < 101 by omega) (by decide), ?_⟩
      have GU := grows_updU (zs' := c.map V.str ++ [.str y.1]) hCh GAR eCR
      have eFR : HR Fa = some (.lst fv) := GR.ext _ _ (sQ _ _ eA) fun _ z => nomatch z
      have nF : Fa ≠ Ch := fun z => by
        rw [z, s6 _ _ eC] at hFa
        cases hFa
      have svR : StaysV HR fv (ys'.filter Pf) := stays_extU GR.ext (Shg.pair_mono (fun _ _ ⟨t, q, ht⟩ => ⟨t, q, sQ _ _ ht⟩) svA)
      refine ⟨_, rfl, ?_⟩
      refine name_at ⟨(ys'.filter Pf).length, by rw [em', List.length_cons]; omega, _, _, _, Fa, fv, ys'.filter Pf, c ++ [y.1], rfl, rfl, GU, by rw [upd_same, List.map_append]; rfl, nF, by rw [upd_ne nF]; exact eFR, Shg.pair_mono (fun _ _ ⟨t, q, ht⟩ => ⟨t, q, by rw [upd_ne (ne_atU eCR ht fun z => nomatch z)]; exact ht⟩) svR, sbF, ?_, ?_, ?_⟩
      · rw [nmF, List.append_assoc]
        exact gr2
      · rw [nmF, List.length_append]
        show c.length + 1 + _ = _
        omega
      · rw [List.length_append]
        show c.length + 1 + _ ≤ 100
        omega
    · have q : ¬ (((c.length : Nat) : Int) + 1 + ((alN ff (fit ff y.1 (ys'.map fun x => x.1)) : Nat) : Int) = ((alN ff (xs.map fun x => x.1) : Nat) : Int)) := fun z => q (key.mpr z)
      have le : ¬ alN ff (ys'.map fun x => x.1) ≤ 1 + alN ff (fit ff y.1 (ys'.map fun x => x.1)) := fun z => by
        rw [Nat.max_eq_left z] at al2
        omega
      rw [if_neg le] at gr2
      rw [Nat.max_eq_right (by omega)] at al2
      refine ⟨_, rfl, ?_⟩
      refine name_at ⟨ys'.length, by rw [em', List.length_cons]; omega, _, _, _, La, vs', ys', c, rfl, rfl, GAR, eCR, nLa, GT.ext _ _ eLa (fun _ z => nomatch z), stays_extU GT.ext (Shg.pair_mono (fun _ _ ⟨t, q, ht⟩ => ⟨t, q, s6 _ _ ht⟩) sv6), sb', gr2, al2, by omega⟩
end
end Qu
set_option Elab.async false
set_option linter.all false
set_option maxRecDepth 100000
set_option maxHeartbeats 4000000
/-! all_lifting. -/
namespace Sh1
open PySem L2 Sho NdefX Shg
section
variable {P : Program} {w : World} {K : PySem.W.Frag} {mg : Str → Option Value} {base : Heap}
def spAll (C : Addr) (T : List (Addr × Str)) : Sp := fun vs H Q _ => ∃ (p : Addr) (xs : List Stay), vs = [.ref p] ∧ PartyAt C H p xs ∧ Short xs ∧ xs.length ≤ 100 ∧ LamX.Tabs T H ∧ ∀ H', Grows T H H' → Q (.int ((crossed (xs.map rw3)).length : Nat)) H'
theorem scAll : FnScope ["party"] ["party"] (defScope sAllLifting) := ⟨rfl, rfl, rfl, by decide +kernel, rfl, by decide +kernel, by decide +kernel⟩
theorem ok_all {f C fX : Addr} {fd fdX : FuncData} {T : List (Addr × Str)} (F : Fun K "all_lifting" "all_lifting" sAllLifting f fd) (B : Shg.Blt mg) (PC : PartyC K mg C) (GX : GFn P w K mg base 8 fX fdX ["self"] (spCross C T)) (mX : Meth K C "crossings" fX) (bX : Binds K fdX ["self"] []) :
    FnOk P w K mg base (L2.CX P w) 12 f fd ["party"] (spAll C T) := by
  refine F.okX scAll (fun vs H Q E h => ?_) (fun cdv A outer s H vs Q E hr h => ?_)
  · obtain ⟨p, xs, rfl, _⟩ := h
    rfl
  · obtain ⟨p, xs, rfl, PA, hs, hl, hT, k⟩ := h
    refine ⟨_, pss_one (ps_ret (pe_callB call_len_seq (by rfl) B.len PySem.boot_len (pa_cons (pe_listG (k := 8) (E := fun _ _ _ => False) (pgen_meth0 (pv 0) PC.cl mX GX (hr.mono (by decide)) bX .nil) passL (fun _ _ _ h => h.elim) (hr.mono (by decide)) (by rfl) B.list (by decide +kernel)) pa_nil))), ?_⟩
    obtain ⟨dx, a, ws, h1, h2, h3⟩ := id PA
    refine ⟨_, rfl, p, dx, _, rfl, h1, no_meth _ (by decide +kernel), p, xs, rfl, PA, hs, hl, hT, fun H' out G r pl hpl => ⟨pl, out, rfl, .inl (SqL.of upd_same), ?_⟩⟩
    rw [pair_len r]
    exact k _ (G.trans (Grows.upd hpl))
end
end Sh1
set_option Elab.async false
set_option linter.all false
set_option maxRecDepth 100000
set_option maxHeartbeats 2000000
/-! Parties without stays and of one. -/
namespace Sh1
open PySem L2 Sho NdefX
theorem ins_party {C : Addr} {H : Hp} {p : Addr} {xs : List Stay} (h : PartyAt C H p xs) : InsAt H p C := by
  obtain ⟨dx, a, ws, h1, _⟩ := h
  exact ⟨dx, _, h1⟩
theorem Valid.take {xs : List Stay} (h : Valid xs) (n : Nat) : Valid (xs.take n) :=
  ⟨Nat.le_trans (List.length_take_le' ..) h.len, h.nd.sublist (List.Sublist.map _ (List.take_sublist ..)), fun x hx => h.ok x (List.mem_of_mem_take hx)⟩
theorem Valid.one {x : Stay} (h : okStay x.1 x.2.1 x.2.2 = true) : Valid [x] :=
  ⟨by simp, by simp, fun y hy => by rw [List.mem_singleton] at hy; rw [hy]; exact h⟩
theorem Short.take {xs : List Stay} (h : Short xs) (n : Nat) : Short (xs.take n) := fun x hx => h x (List.mem_of_mem_take hx)
theorem new0 {C CI : Addr} {E : XK} {σ : L2.St} {H : Hp} {Q : VK} (h : ∀ (p : Addr) (H' : Hp), Same H H' → H p = none → PartyAt C H' p [] → Q (.ref p) H') : StX.tMakeR C (spPNew C CI) E tNil σ H Q := by
  intro x0 d0 n1 n2 n3
  exact party_new (C := C) (CI := CI) (H := H) (xs := []) (ys := []) .nil (by intro x hx; cases hx) (Nat.zero_le _) (fun _ => h) (fun i hi => nomatch hi) x0 d0 n1 n2 n3
theorem new1 {C CI : Addr} {E : XK} {σ : L2.St} {H : Hp} {Q : VK} {i : Nat} {v : V} {x : Stay} (e : σ[i]? = some (some v)) (hv : StayV H v x) (hs : Short [x]) (h : Making C CI H [x] Q E) : StX.tMakeR C (spPNew C CI) E (tCons (tVar i) tNil) σ H Q :=
  ⟨v, e, party_new (C := C) (CI := CI) (H := H) (xs := [x]) (ys := [v]) (.cons hv .nil) hs (by show 1 ≤ sizeLine; decide) h.1 h.2⟩
end Sh1
set_option Elab.async false
set_option linter.all false
set_option maxRecDepth 100000
set_option maxHeartbeats 2000000
/-! Operators of Party with a text or an int. -/
namespace Sh1
open PySem L2 Sho NdefX
section
variable {P : Program} {w : World} {K : PySem.W.Frag} {mg : Str → Option Value} {base : Heap}
/-- what an operator of Party with a text or an int asks of the written part -/
structure OpC (K : PySem.W.Frag) (C : Addr) (op rop : Str) (T : String) (f : Addr) : Prop where
  one : PySem.W.findIn K (.ref C) op = some (some (.ref f))
  fn : PySem.W.isFn K (.ref f) = true
  r : ∃ rc, PySem.W.findIn K (.ref C) rop = some rc ∧ (rc = none ∨ ∃ g : Addr, rc = some (.ref g))
  t1 : ∃ fo, PySem.W.findIn K (.type T) op = some fo
  t2 : ∃ ro, PySem.W.findIn K (.type T) rop = some ro
  sub : PySem.W.subIn K (.type T) (.ref C) = some false
theorem sub_str {X : Cx} {CX : CXT} {k : Nat} {f C : Addr} {sp : Sp} {E : XK} (F : FnR X.prog X.w X.K X.mg X.base CX k f sp) (hr : Room k X.A) (hx : Passes CX X E) (hc : PySem.W.selfFirst X.K C = true) (O : OpC X.K C "__sub__" "__rsub__" "str" f) :
    OpR X (binaryOp .Sub) (rOwnT C sp E isStr) := by
  obtain ⟨rc, r1, r2⟩ := O.r
  obtain ⟨fo, t1⟩ := O.t1
  obtain ⟨ro, t2⟩ := O.t2
  exact op_ownT (op := .Sub) (T := "str") F hr hx hc ty_str O.one O.fn r1 r2 t1 t2 O.sub
theorem shift_int {X : Cx} {CX : CXT} {k : Nat} {f C : Addr} {sp : Sp} {E : XK} (F : FnR X.prog X.w X.K X.mg X.base CX k f sp) (hr : Room k X.A) (hx : Passes CX X E) (hc : PySem.W.selfFirst X.K C = true) (O : OpC X.K C "__rshift__" "__rrshift__" "int" f) :
    OpR X (binaryOp .RShift) (rOwnT C sp E isInt) := by
  obtain ⟨rc, r1, r2⟩ := O.r
  obtain ⟨fo, t1⟩ := O.t1
  obtain ⟨ro, t2⟩ := O.t2
  exact op_ownT (op := .RShift) (T := "int") F hr hx hc ty_int O.one O.fn r1 r2 t1 t2 O.sub
end
end Sh1
set_option Elab.async false
set_option linter.all false
set_option maxRecDepth 100000
set_option maxHeartbeats 2000000
namespace Sh1
open PySem L2 Sho NdefX
theorem asg_seq {te : TE} {g : TG} {u : TS} {D : Ends} {σ : L2.St} {H : Hp} (h : te σ H fun x H1 => g x σ H1 (u D)) : tSeq (tAsg te g) u D σ H := h
theorem asg_one {te : TE} {g : TG} {D : Ends} {σ : L2.St} {H : Hp} (h : te σ H fun x H1 => g x σ H1 D.nx) : tAsg te g D σ H := h
section
variable {P : Program} {w : World} {K : PySem.W.Frag} {mg : Str → Option Value} {base : Heap}
def spParty (K : PySem.W.Frag) (C : Addr) : Sp := fun vs H Q _ => ∃ (a : Addr) (ws : List V) (xs : List Stay), vs = [.ref a] ∧ SqL K H a ws ∧ StaysV H ws xs ∧ Short xs ∧ Valid xs ∧
  ∀ (p : Addr) (H' : Hp), Same H H' → H p = none → PartyAt C H' p xs → Q (.ref p) H'
theorem scParty : FnScope ["_law_rows_here", "_law_result", "_law_row"] ["_law_rows_here"] (defScope sLawParty) := ⟨rfl, rfl, rfl, by decide +kernel, rfl, by decide +kernel, by decide +kernel⟩
theorem ok_party {f C CI fI fA : Addr} {fd fdA : FuncData} (F : Fun K "_law_party" "_law_party" sLawParty f fd) (PC : PartyC K mg C) (M : Mk K C fI) (GI : FnR P w K mg base (L2.CX P w) 5 fI (spPNew C CI))
    (hc : PySem.W.selfFirst K C = true) (hA : PySem.W.findIn K (.ref C) "__add__" = some (some (.ref fA))) (iA : PySem.W.isFn K (.ref fA) = true)
    (GA : FnOk P w K mg base (L2.CX P w) 7 fA fdA ["self", "other"] (spPAdd C CI)) (bA : Binds K fdA ["self", "other"] []) :
    FnOk P w K mg base (L2.CX P w) 8 f fd ["_law_rows_here"] (spParty K C) := by
  refine F.okX scParty (fun vs H Q E h => ?_) (fun cdv A outer s H vs Q E hr h => ?_)
  · obtain ⟨a, ws, xs, rfl, _⟩ := h
    rfl
  · obtain ⟨a, ws, xs, rfl, ha, hxs, hsh, hv, k⟩ := h
    have nd := scParty.nd
    have pass : Passes (L2.CX P w) (cxOf (L2.CX P w) P w K mg base ["_law_rows_here", "_law_result", "_law_row"] "_law_party" (defScope sLawParty) f cdv A outer s H E) E := passes_call (takes_of rfl rfl rfl rfl) fun _ _ _ _ z => z
    refine ⟨_, pss_cons (ps_set (i := 1) nd rfl (Or.inl rfl) (pe_makeR0 M GI (hr.mono (by decide)) rfl PC.gm pass))
      (pss_cons (ps_for (passes_of rfl) rfl (pi_list (pv 0)) (pg_name (i := 2) nd rfl (Or.inl rfl))
        (pss_one (ps_set (i := 1) nd rfl (Or.inl rfl) (pe_op (op_own2 (fnr_of GA bA) hr pass hc hA iA) (pv 1) (StX.pe_makeR M GI (hr.mono (by decide)) rfl PC.gm pass (pa_cons (pv 2) pa_nil))))))
      (pss_one (ps_ret (pv 1)))), ?_⟩
    have len := pair_len hxs
    refine asg_seq (new0 fun p H1 s1 hp P1 => ?_)
    refine ⟨_, rfl, a, rfl, ⟨_, s1.seq ha⟩, for_it walk_list (fun i σ H2 => ∃ q o2, σ = [some (.ref a), some (.ref q), o2] ∧ Same H H2 ∧ H q = none ∧ PartyAt C H2 q (xs.take i))
      ⟨p, none, rfl, s1, hp, P1⟩ (fun i σ H2 _ ⟨_, _, _, s2, _⟩ => s2.seq ha) ?_ ?_⟩
    · rintro i y σ H2 H3 hi ⟨q, o2, rfl, s2, hq, P2⟩ ⟨rfl, e2⟩
      obtain ⟨x, hx, hy⟩ := pair_get hxs e2
      have hxm := List.mem_of_getElem? hx
      have take1 : xs.take (i + 1) = xs.take i ++ [x] := by rw [List.take_add_one, hx]; rfl
      refine ⟨_, rfl, new1 rfl (hy.same s2) (fun z hz => by rw [List.mem_singleton] at hz; rw [hz]; exact hsh x hxm) ⟨fun _ r H4 s4 hr4 P4 => ?_, fun i hi => ?_⟩⟩
      · refine ⟨q, r, rfl, rfl, ins_party (P2.same s4), ins_party P4, q, r, xs.take i, [x], rfl, P2.same s4, P4, hsh.take i, (fun z hz => by rw [List.mem_singleton] at hz; rw [hz]; exact hsh x hxm), ?_, ?_, ?_⟩
        · have := hv.len
          rw [List.length_take]
          simp only [List.length_cons, List.length_nil]
          omega
        · intro _ z H5 s5 hz P5
          refine ⟨_, _, rfl, (s2.trans s4).trans s5, ?_, by rw [take1]; exact P5⟩
          exact (s2.trans s4).free hz
        · intro j hj
          rw [← take1, valid_iff.mpr (hv.take _)] at hj
          cases hj
      · rw [valid_iff.mpr (Valid.one (hv.ok x hxm))] at hi
        cases hi
    · rintro σ H2 ⟨q, o2, rfl, s2, hq, P2⟩
      refine ⟨_, rfl, k q H2 s2 hq ?_⟩
      rw [len, List.take_length] at P2
      exact P2
end
end Sh1
set_option Elab.async false
set_option linter.all false
set_option maxRecDepth 100000
set_option maxHeartbeats 2000000
/-! _law_same: of equal data, with lists and tuples. -/
namespace Smm
open PySem L2 Sho NdefX Shg Sh1
/-- x stands for d, at most n deep: ints, texts, tuples, lists -/
def Leaf (x : V) (d : PyData) : Prop := (∃ i, x = .int i ∧ d = .int i) ∨ ∃ z, x = .str z ∧ d = .str z
def Stands (H : Hp) : Nat → V → PyData → Prop
  | 0, x, d => Leaf x d
  | n + 1, x, d => Leaf x d ∨ (∃ (a : Addr) (xs : List V) (ds : List PyData), x = .ref a ∧ d = .tuple ds ∧ H a = some (.tup xs) ∧ xs.length ≤ 1000 ∧ PySem.Paired (fun y e => Stands H n y e) xs ds) ∨
      ∃ (a : Addr) (xs : List V) (ds : List PyData), x = .ref a ∧ d = .list ds ∧ H a = some (.lst xs) ∧ xs.length ≤ 1000 ∧ PySem.Paired (fun y e => Stands H n y e) xs ds
theorem Stands.same {H H' : Hp} (s : Same H H') : ∀ {n : Nat} {x : V} {d : PyData}, Stands H n x d → Stands H' n x d
  | 0, _, _, h => h
  | n + 1, x, d, h => by
    rcases h with h | ⟨a, xs, ds, e1, e2, e3, e4, e5⟩ | ⟨a, xs, ds, e1, e2, e3, e4, e5⟩
    · exact .inl h
    · exact .inr (.inl ⟨a, xs, ds, e1, e2, s _ _ e3, e4, Shg.pair_mono (fun _ _ h => Stands.same s h) e5⟩)
    · exact .inr (.inr ⟨a, xs, ds, e1, e2, s _ _ e3, e4, Shg.pair_mono (fun _ _ h => Stands.same s h) e5⟩)
section
variable {P : Program} {w : World} {K : PySem.W.Frag} {mg : Str → Option Value} {base : Heap}
def spSame (n : Nat) : Sp := fun vs H Q _ => ∃ (x y : V) (d : PyData), vs = [x, y] ∧ Stands H n x d ∧ Stands H n y d ∧ ∀ H', Same H H' → Q (.bl true) H'
theorem scSame : FnScope ["_law_result", "_law_expected", "_law_k"] ["_law_result", "_law_expected"] (defScope sSame) := ⟨rfl, rfl, rfl, by decide +kernel, rfl, by decide +kernel, by decide +kernel⟩
theorem kA {K : PySem.W.Frag} {t : String} (h1 : kitB t "tuple" = some false) (h2 : kitB t "list" = some false) : PySem.W.kitAny K (.type t) [.type "tuple", .type "list"] = some false :=
  kitAny_cons (b := false) h1 (fun _ => kitAny_cons (b := false) h2 (fun _ => rfl) fun z => nomatch z) fun z => nomatch z
theorem kT {K : PySem.W.Frag} : PySem.W.kitAny K (.type "tuple") [.type "tuple", .type "list"] = some true :=
  kitAny_cons (b := true) (show kitB "tuple" "tuple" = some true by decide +kernel) (fun z => nomatch z) fun _ => rfl
theorem kL {K : PySem.W.Frag} : PySem.W.kitAny K (.type "list") [.type "tuple", .type "list"] = some true :=
  kitAny_cons (b := false) (show kitB "list" "tuple" = some false by decide +kernel) (fun _ => kitAny_cons (b := true) (show kitB "list" "list" = some true by decide +kernel) (fun z => nomatch z) fun _ => rfl) fun z => nomatch z
/-- a leaf's class -/
theorem leaf_ty {K : PySem.W.Frag} {x : V} {d : PyData} (h : Leaf x d) : ∃ t : String, (∀ H, TyX K H x (.type t)) ∧ PySem.W.kitAny K (.type t) [.type "tuple", .type "list"] = some false ∧ kitB t "bool" = some false ∧ ∃ b, kitB t "int" = some b ∧ (b = true → ∃ i, d = .int i) ∧ (b = false → ∃ z, d = .str z) ∧ scal x x = true := by
  rcases h with ⟨i, rfl, rfl⟩ | ⟨z, rfl, rfl⟩
  · exact ⟨"int", fun _ => .base (.int i), kA (by decide +kernel) (by decide +kernel), by decide +kernel, true, by decide +kernel, fun _ => ⟨i, rfl⟩, (fun z => nomatch z), rfl⟩
  · exact ⟨"str", fun _ => .base (.str z), kA (by decide +kernel) (by decide +kernel), by decide +kernel, false, by decide +kernel, (fun z => nomatch z), fun _ => ⟨z, rfl⟩, rfl⟩
theorem leaf_eq {x y : V} {d : PyData} (h : Leaf x d) (k : Leaf y d) : x = y := by
  rcases h with ⟨i, rfl, rfl⟩ | ⟨z, rfl, rfl⟩ <;> rcases k with ⟨j, rfl, e⟩ | ⟨j, rfl, e⟩ <;> cases e <;> rfl
/-- a tuple or a list of items -/
def SeqO (b : Bool) (xs : List V) : HO := if b = true then .lst xs else .tup xs
abbrev tyB (b : Bool) : Value := if b = true then .type "list" else .type "tuple"
theorem stands_split {H : Hp} {n : Nat} {sp' : Sp} {x y : V} {d : PyData} (hn : n = 0 ∨ ∃ m, n = m + 1 ∧ sp' = spSame m) (hx : Stands H n x d) (hy : Stands H n y d) :
    (Leaf x d ∧ x = y) ∨ ∃ (q : Bool) (m : Nat) (a b : Addr) (xs ys : List V) (ds : List PyData), sp' = spSame m ∧ x = .ref a ∧ y = .ref b ∧ H a = some (SeqO q xs) ∧ H b = some (SeqO q ys) ∧ xs.length ≤ 1000 ∧
      PySem.Paired (fun y e => Stands H m y e) xs ds ∧ PySem.Paired (fun y e => Stands H m y e) ys ds := by
  have noleaf : ∀ {ds : List PyData} {y : V}, ¬ Leaf y (.tuple ds) ∧ ¬ Leaf y (.list ds) := fun {ds y} => by
    constructor
    · rintro (⟨i, _, z⟩ | ⟨i, _, z⟩) <;> cases z
    · rintro (⟨i, _, z⟩ | ⟨i, _, z⟩) <;> cases z
  rcases hn with rfl | ⟨m, rfl, e⟩
  · exact .inl ⟨hx, leaf_eq hx hy⟩
  · rcases hx with hx | ⟨a, xs, ds, rfl, rfl, h1, h2, h3⟩ | ⟨a, xs, ds, rfl, rfl, h1, h2, h3⟩
    · rcases hy with hy | ⟨b, ys, es, rfl, rfl, _⟩ | ⟨b, ys, es, rfl, rfl, _⟩
      · exact .inl ⟨hx, leaf_eq hx hy⟩
      · exact absurd hx noleaf.1
      · exact absurd hx noleaf.2
    · rcases hy with hy | ⟨b, ys, es, rfl, e2, g1, g2, g3⟩ | ⟨b, ys, es, rfl, e2, g1, g2, g3⟩
      · exact absurd hy noleaf.1
      · cases e2
        exact .inr ⟨false, m, a, b, xs, ys, ds, e, rfl, rfl, h1, g1, h2, h3, g3⟩
      · cases e2
    · rcases hy with hy | ⟨b, ys, es, rfl, e2, g1, g2, g3⟩ | ⟨b, ys, es, rfl, e2, g1, g2, g3⟩
      · exact absurd hy noleaf.2
      · cases e2
      · cases e2
        exact .inr ⟨true, m, a, b, xs, ys, ds, e, rfl, rfl, h1, g1, h2, h3, g3⟩
theorem seq_ty {H : Hp} {q : Bool} {a : Addr} {xs : List V} (h : H a = some (SeqO q xs)) : TyX K H (.ref a) (tyB q) := by
  cases q with
  | false => exact .base (.tup (show H a = some (.tup xs) from h))
  | true => exact .base (.lst (show H a = some (.lst xs) from h))
theorem seq_ka (q : Bool) : PySem.W.kitAny K (tyB q) [.type "tuple", .type "list"] = some true := by
  cases q with
  | false => exact kT
  | true => exact kL
theorem seq_kl (q : Bool) : ∃ t : String, tyB q = .type t ∧ kitB t "list" = some q := by
  cases q with
  | false => exact ⟨"tuple", rfl, by decide +kernel⟩
  | true => exact ⟨"list", rfl, by decide +kernel⟩
theorem seq_sq {H : Hp} {q : Bool} {a : Addr} {xs : List V} (h : H a = some (SeqO q xs)) : SqL K H a xs ∨ SqT K H a xs := by
  cases q with
  | false => exact .inr (SqT.of h)
  | true => exact .inl (SqL.of h)
theorem seq_ix {H : Hp} {q : Bool} {a : Addr} {xs : List V} {i : Nat} {j : Int} {v : V} {Q : VK} (h : H a = some (SeqO q xs)) (ej : j = (i : Int)) (hi : xs[i]? = some v) (k : Q v H) : rIx K (.ref a) (.int j) H Q := by
  subst ej
  cases q with
  | false => exact .inr (.inl ⟨a, xs, _, v, rfl, rfl, SqT.of h, atI_nat hi, k⟩)
  | true => exact .inl ⟨a, xs, _, v, rfl, rfl, SqL.of h, atI_nat hi, k⟩
theorem same_step {k n : Nat} {sp' : Sp} {f : Addr} {fd : FuncData} (F : Fun K "_law_same" "_law_same" sSame f fd) (B : Shg.Blt mg) (mF : mg "_law_same" = some (.ref f)) (bF : Binds K fd ["_law_result", "_law_expected"] [])
    (ih : FnOk P w K mg base CX0 k f fd ["_law_result", "_law_expected"] sp') (hn : n = 0 ∨ ∃ m, n = m + 1 ∧ sp' = spSame m) : FnOk P w K mg base CX0 (k + 1) f fd ["_law_result", "_law_expected"] (spSame n) := by
  refine F.ok scSame (fun vs H Q E h => ?_) (fun cdv A outer s H vs Q E hr h => ?_)
  · obtain ⟨x, y, d, rfl, _⟩ := h
    rfl
  · obtain ⟨x, y, d, rfl, hx, hy, kk⟩ := h
    have nd := scSame.nd
    refine ⟨_, (pss_cons (ps_if (pt_val (pe_callB call_isiT (by rfl) B.isi (by decide +kernel) (pa_cons (pv 1) (pa_cons (pe_tup (pa_cons (pe_bltn (v := .ty "tuple") (by rfl) B.tuple (by decide +kernel) rfl) (pa_cons (pe_bltn (v := .ty "list") (by rfl) B.list (by decide +kernel) rfl) pa_nil))) pa_nil)))) (pss_cons (ps_if (PW.pt (pw_or (pt_not (pt_val (pe_callB call_isiT (by rfl) B.isi (by decide +kernel) (pa_cons (pv 0) (pa_cons (pe_tup (pa_cons (pe_bltn (v := .ty "tuple") (by rfl) B.tuple (by decide +kernel) rfl) (pa_cons (pe_bltn (v := .ty "list") (by rfl) B.list (by decide +kernel) rfl) pa_nil))) pa_nil))))) (pw_or1 (pt_cmpR op_ne (pe_callB call_isi (by rfl) B.isi (by decide +kernel) (pa_cons (pv 0) (pa_cons (pe_bltn (v := .ty "list") (by rfl) B.list (by decide +kernel) rfl) pa_nil))) (pe_callB call_isi (by rfl) B.isi (by decide +kernel) (pa_cons (pv 1) (pa_cons (pe_bltn (v := .ty "list") (by rfl) B.list (by decide +kernel) rfl) pa_nil))) (nomark _))))) (pss_one (ps_ret pe_bl)) pss_nil)
      (pss_cons (ps_if (pt_cmpR op_ne (pe_callB call_len_seq (by rfl) B.len PySem.boot_len (pa_cons (pv 0) pa_nil)) (pe_callB call_len_seq (by rfl) B.len PySem.boot_len (pa_cons (pv 1) pa_nil)) (nomark _)) (pss_one (ps_ret pe_bl)) pss_nil)
      (pss_one (ps_ret (pe_cmpR (op_eqD (hr.mono (Nat.zero_le _)).units) (pe_lc (own := [("_law_k", 2)]) (g := gName 2) (tt := tNot (tB (tCall sp' [] E0 (tCons (tOp (rIx K) (tVar 0) (tVar 2)) (tCons (tOp (rIx K) (tVar 1) (tVar 2)) tNil))))) rfl nd
            (pi_range1 (by rfl) B.range (pa_cons (pe_callB call_len_seq (by rfl) B.len PySem.boot_len (pa_cons (pv 1) pa_nil)) pa_nil)) (blkOk_by (own := [("_law_k", 2)]) (N := ["_law_result", "_law_expected", "_law_k"]) (sc := defScope sSame) (by decide +kernel))
            (fun _ _ _ _ _ => (pg_name (i := 2) nd rfl (Or.inl rfl)))
            (fun _ _ _ _ _ => pts_one (pt_not (pt_val (pe_call ih hr rfl mF F.kp bF .nil pass0 (pa_cons (pe_ix ix_seq (pv 0) (pv 2) (fun _ _ => rfl)) (pa_cons (pe_ix ix_seq (pv 1) (pv 2) (fun _ _ => rfl)) pa_nil))))))
            (fun _ _ _ _ _ => pv 2)) (pe_lst pa_nil) (nomark _)))))) pss_nil)
      (pss_cons (ps_if (pt_cmpR op_ne (pe_callB call_isi (by rfl) B.isi (by decide +kernel) (pa_cons (pv 0) (pa_cons (pe_bltn (v := .ty "bool") (by rfl) B.bool (by decide +kernel) rfl) pa_nil))) (pe_callB call_isi (by rfl) B.isi (by decide +kernel) (pa_cons (pv 1) (pa_cons (pe_bltn (v := .ty "bool") (by rfl) B.bool (by decide +kernel) rfl) pa_nil))) (nomark _)) (pss_one (ps_ret pe_bl)) pss_nil)
      (pss_one (ps_ret (pe_and (pe_cmpR op_eq (pe_callB call_isi (by rfl) B.isi (by decide +kernel) (pa_cons (pv 0) (pa_cons (pe_bltn (v := .ty "int") (by rfl) B.int (by decide +kernel) rfl) pa_nil))) (pe_callB call_isi (by rfl) B.isi (by decide +kernel) (pa_cons (pv 1) (pa_cons (pe_bltn (v := .ty "int") (by rfl) B.int (by decide +kernel) rfl) pa_nil))) (nomark _)) (pe_one (pe_cmpR op_eq (pv 0) (pv 1) (nomark _)))))))), ?_⟩
    rcases stands_split hn hx hy with ⟨hl, e⟩ | ⟨q, m, a, b, xs, ys, ds, e, rfl, rfl, h1, h2, h3, h4, h5⟩
    · subst e
      obtain ⟨t, ty, ka, kb, bi, ki, ki1, ki2, hsc⟩ := leaf_ty (K := K) hl
      refine ⟨_, rfl, by decide, fun tp htp => ?_⟩
      have s1 : Same H (upd H tp (.tup [.ty "tuple", .ty "list"])) := Shg.same_upd htp
      refine ⟨x, tp, _, .type t, [.type "tuple", .type "list"], false, rfl, upd_same, .cons (.ty _) (.cons (.ty _) .nil), ty _, ka, _, rfl, iteF ?_⟩
      refine ⟨_, rfl, x, _, .type t, .type "bool", false, rfl, .ty _, ty _, kb, _, rfl, x, _, .type t, .type "bool", false, rfl, .ty _, ty _, kb, rfl, _, rfl, iteF ?_⟩
      refine ⟨_, rfl, x, _, .type t, .type "int", bi, rfl, .ty _, ty _, ki, _, rfl, x, _, .type t, .type "int", bi, rfl, .ty _, ty _, ki, rfl, true, by rw [decide_eq_true rfl], iteT ⟨_, rfl, _, rfl, hsc, ?_⟩⟩
      rw [decide_eq_true rfl]
      exact kk _ s1
    · subst e
      have lx := Shg.pair_len h4
      have ly := Shg.pair_len h5
      refine ⟨_, rfl, by decide, fun tp htp => ?_⟩
      have s1 := Shg.same_upd (o := .tup [.ty "tuple", .ty "list"]) htp
      refine ⟨.ref b, tp, _, tyB q, [.type "tuple", .type "list"], true, rfl, upd_same, .cons (.ty _) (.cons (.ty _) .nil), seq_ty (s1 _ _ h2), seq_ka q, _, rfl, iteT ?_⟩
      refine ⟨_, rfl, by decide, fun tq htq => ?_⟩
      have s2 := s1.trans (Shg.same_upd (o := .tup [.ty "tuple", .ty "list"]) htq)
      refine ⟨.ref a, tq, _, tyB q, [.type "tuple", .type "list"], true, rfl, upd_same, .cons (.ty _) (.cons (.ty _) .nil), seq_ty (s2 _ _ h1), seq_ka q, _, rfl, iteF ?_⟩
      obtain ⟨ts, et, kl⟩ := seq_kl q
      refine ⟨_, rfl, .ref a, _, tyB q, .type "list", q, rfl, .ty _, seq_ty (s2 _ _ h1), by rw [et]; exact kit_ty kl, _, rfl, .ref b, _, tyB q, .type "list", q, rfl, .ty _, seq_ty (s2 _ _ h2), by rw [et]; exact kit_ty kl, by cases q <;> rfl, false, by rw [decide_eq_true rfl]; rfl, iteF ?_⟩
      generalize upd (upd H tp (.tup [.ty "tuple", .ty "list"])) tq (.tup [.ty "tuple", .ty "list"]) = H2 at s2
      refine ⟨_, rfl, a, xs, rfl, seq_sq (s2 _ _ h1), _, rfl, b, ys, rfl, seq_sq (s2 _ _ h2), rfl, false, ?_, iteF ?_⟩
      · have e : (xs.length : Int) = (ys.length : Int) := by rw [lx, ly]
        rw [e, decide_eq_true rfl]
        rfl
      · have hlen : (ys.length : Int).toNat = ys.length := by simp
        have l1000 : ys.length ≤ 1000 := by omega
        refine ⟨_, rfl, b, ys, rfl, seq_sq (s2 _ _ h2), (ys.length : Nat), rfl, by omega, by omega, fun D hD => ?_⟩
        refine lc_gather walk_range (fun _ => none) hD (by rw [hlen]; exact Nat.le_trans l1000 (by decide)) (fun _ _ => trivial) (fun i v H3 H4 hi s3 yv R k1 => ?_) fun H3 s3 e3 => ?_
        · obtain ⟨rfl, rfl⟩ := yv
          rw [hlen] at hi
          obtain ⟨y', hy'⟩ : ∃ y', ys[i]? = some y' := ⟨_, List.getElem?_eq_getElem hi⟩
          obtain ⟨x', hx'⟩ : ∃ x', xs[i]? = some x' := ⟨_, List.getElem?_eq_getElem (by omega)⟩
          obtain ⟨e1, he1, st1⟩ := Shg.pair_get h4 hx'
          obtain ⟨e2, he2, st2⟩ := Shg.pair_get h5 hy'
          rw [he1] at he2
          cases he2
          have s23 := s2.trans s3
          have zi : (0 : Int) + (i : Nat) = (i : Nat) := by omega
          refine ⟨rfl, _, rfl, _, rfl, seq_ix (s23 _ _ h1) zi hx' ⟨_, rfl, _, rfl, seq_ix (s23 _ _ h2) zi hy' ?_⟩⟩
          exact ⟨x', y', e1, rfl, st1.same s23, st2.same s23, fun H5 s5 => ⟨_, rfl, iteF (k1 _ s5)⟩⟩
        · have g0 : gather (fun _ => none) ((ys.length : Int).toNat) = [] := by
            unfold gather
            simp
          rw [g0] at e3
          refine ⟨by decide, fun L hL => ?_⟩
          have s4 := Shg.same_upd (o := .lst []) hL
          exact ⟨.list [], .list [], .lst (SqL.of (s4 _ _ e3)) .nil, .lst (SqL.of upd_same) .nil, rfl, rfl, kk _ ((s2.trans s3).trans s4)⟩
theorem ok_same {f : Addr} {fd : FuncData} (F : Fun K "_law_same" "_law_same" sSame f fd) (B : Shg.Blt mg) (mF : mg "_law_same" = some (.ref f)) (bF : Binds K fd ["_law_result", "_law_expected"] []) : ∀ n, FnOk P w K mg base CX0 (n + 1) f fd ["_law_result", "_law_expected"] (spSame n)
  | 0 => same_step (sp' := fun _ _ _ _ => False) F B mF bF ⟨fun _ _ _ _ h => False.elim h, fun _ _ _ _ _ _ _ _ _ _ _ _ _ h => False.elim h⟩ (.inl rfl)
  | n + 1 => same_step F B mF bF (ok_same F B mF bF n) (.inr ⟨n, rfl, rfl⟩)
end
end Smm
set_option Elab.async false
set_option linter.all false
set_option maxRecDepth 100000
set_option maxHeartbeats 2000000
/-! Answers of readings that stand in every law. -/
namespace Shg
open PySem L2 Sho NdefX
/-- a op b op c of ints -/
theorem chainI {f g : Int → Int → Bool} {ta tb tc : TE} {σ : L2.St} {H : Hp} {R : Bool → Hp → Prop} (i j k : Int) (h1 : ∀ Q : VK, Q (.int i) H → ta σ H Q) (h2 : ∀ Q : VK, Q (.int j) H → tb σ H Q) (h3 : ∀ Q : VK, Q (.int k) H → tc σ H Q) (h : R (f i j && g j k) H) :
    tTest (tChain (rI0 fun i j => .bl (f i j)) (rI0 fun i j => .bl (g i j)) ta tb tc) σ H R := by
  refine h1 _ (h2 _ ⟨i, j, rfl, rfl, f i j, rfl, ?_⟩)
  cases e : f i j with
  | false =>
    rw [if_neg Bool.false_ne_true]
    rw [e] at h
    exact ⟨_, rfl, h⟩
  | true =>
    rw [if_pos rfl]
    rw [e] at h
    exact h3 _ ⟨j, k, rfl, rfl, _, rfl, h⟩
theorem chainN {f g : Int → Int → Bool} {ta tb tc : TE} {σ : L2.St} {H : Hp} {R : Bool → Hp → Prop} (i j k : Int) (h1 : ∀ Q : VK, Q (.int i) H → ta σ H Q) (h2 : ∀ Q : VK, Q (.int j) H → tb σ H Q) (h3 : ∀ Q : VK, Q (.int k) H → tc σ H Q) (h : R (!(f i j && g j k)) H) :
    tNot (tTest (tChain (rI0 fun i j => .bl (f i j)) (rI0 fun i j => .bl (g i j)) ta tb tc)) σ H R := chainI (R := fun b H' => R (!b) H') i j k h1 h2 h3 h
/-- a, b = x, y: what is known of x -/
theorem par_rel {i j : Nat} {te : TE} {tr : TA} {u : TS} {D : Ends} {σ : L2.St} {H : Hp} (P : V → Hp → Prop) (h1 : ∀ R : VK, (∀ v H', P v H' → R v H') → te σ H R)
    (h2 : ∀ v H', P v H' → tr σ H' fun ws H2 => ∃ v1 w, v :: ws = [v1, w] ∧ u D ((σ.set i (some v1)).set j (some w)) H2) : tSeq (tPar i j (tCons te tr)) u D σ H := h1 _ h2
/-- paired place by place -/
theorem pair_of {α β : Type} {R : α → β → Prop} : ∀ {as : List α} {bs : List β}, as.length = bs.length → (∀ (i : Nat) a b, as[i]? = some a → bs[i]? = some b → R a b) → PySem.Paired R as bs
  | [], [], _, _ => .nil
  | [], _ :: _, h, _ => by simp at h
  | _ :: _, [], h, _ => by simp at h
  | a :: as, b :: bs, h, k => .cons (k 0 a b rfl rfl) (pair_of (by simpa using h) fun i x y hx hy => k (i + 1) x y hx hy)
end Shg
set_option Elab.async false
set_option linter.all false
set_option maxRecDepth 100000
set_option maxHeartbeats 8000000
set_option autoImplicit false
/-! The law of quiet guests. -/
namespace Qu
open PySem L2 Sho NdefX Shg Sh1 Gq Ck
open Kb (rows_ok)
abbrev N07 : List Str := ["_law_script", "_law_state", "_law_rows_here", "_law_party_here", "_law_expected", "_law_turn", "_law_near", "_law_found", "_law_row", "_law_rest", "_law_one"]
theorem or_noU {A B : TT} {σ : L2.St} {H : Hp} {Q : Bool → Hp → Prop} (P1 P2 : Hp → Prop) (hA : ∀ R : Bool → Hp → Prop, (∀ H', P1 H' → R false H') → A σ H R) (hB : ∀ H1, P1 H1 → ∀ R : Bool → Hp → Prop, (∀ H', P2 H' → R false H') → B σ H1 R) (hQ : ∀ H', P2 H' → Q false H') : tOr A B σ H Q := by
  refine hA _ fun H1 p1 => ?_
  exact hB H1 p1 _ hQ
theorem strs_standU {H : Hp} : ∀ (qs : List Str), PySem.Paired (fun y e => Smm.Stands H 0 y e) (qs.map V.str) (qs.map PyData.str)
  | [] => .nil
  | p :: qs => .cons (.inr ⟨_, rfl, rfl⟩) (strs_standU qs)
theorem filter_sub : ∀ {F gs : List Str}, F.Sublist gs → gs.Nodup → gs.filter (fun n => decide (n ∈ F)) = F
  | _, _, .slnil, _ => rfl
  | F, x :: gs, .cons _ h, nd => by
    rw [List.nodup_cons] at nd
    rw [List.filter_cons_of_neg (by rw [decide_eq_false fun z => nd.1 (h.mem z)]; decide), filter_sub h nd.2]
  | x :: F, _ :: gs, .cons_cons _ h, nd => by
    rw [List.nodup_cons] at nd
    rw [List.filter_cons_of_pos (by rw [decide_eq_true List.mem_cons_self])]
    congr 1
    rw [← filter_sub h nd.2]
    refine List.filter_congr fun n hn => ?_
    rw [filter_sub h nd.2, Bool.eq_iff_iff, decide_eq_true_iff, decide_eq_true_iff]
    constructor
    · intro z
      exact (List.mem_cons.mp z).resolve_left fun e => nd.1 (e ▸ hn)
    · exact fun z => List.mem_cons_of_mem _ z
/-- who is left out crosses one of those chosen -/
theorem grd_max {f : Str → List Str} {gs : List Str} (irr : ∀ n, n ∉ f n) (sy : ∀ n m, m ∈ f n → n ∈ f m) (nd : gs.Nodup) {x : Str} (hx : x ∈ gs) (hn : x ∉ grd f gs) : (f x).filter (fun b => decide (b ∈ grd f gs)) ≠ [] := fun e => by
  have hs := grd_sub f gs.length gs (Nat.le_refl _)
  have q := grd_quiet irr sy gs.length gs (Nat.le_refl _)
  have no : ∀ b ∈ grd f gs, b ∉ f x := fun b hb z => by
    have : b ∈ (f x).filter (fun b => decide (b ∈ grd f gs)) := List.mem_filter.mpr ⟨z, decide_eq_true hb⟩
    rw [e] at this
    cases this
  have := (alpha_alN irr sy nd).le (x :: grd f gs) (List.nodup_cons.mpr ⟨hn, nd.sublist hs⟩) (fun n h => by
    rcases List.mem_cons.mp h with rfl | h
    · exact hx
    · exact hs.mem h) fun a ha b hb z => by
      rcases List.mem_cons.mp ha with ea | ha2
      · subst ea
        rcases List.mem_cons.mp hb with eb | hb2
        · subst eb
          exact irr _ z
        · exact no b hb2 z
      · rcases List.mem_cons.mp hb with eb | hb2
        · subst eb
          exact no a ha2 (sy _ _ z)
        · exact q a ha2 b hb2 z
  rw [List.length_cons, grd_len f gs.length gs (Nat.le_refl _)] at this
  omega
/-- with one guest less -/
theorem alpha_less {f : Str → List Str} {gs gs' : List Str} {m k : Nat} {x : Str} (h : Alpha f gs m) (h' : Alpha f gs' k) (sub : ∀ n ∈ gs', n ∈ gs) (rest : ∀ n ∈ gs, n ≠ x → n ∈ gs') : m ≤ k + 1 ∧ k ≤ m := by
  constructor
  · obtain ⟨T, nd, hT, q, e⟩ := h.ex
    have := h'.le (T.erase x) (nd.erase x) (fun n hn => rest n (hT n (List.mem_of_mem_erase hn)) fun z => by
      subst z
      exact (List.Nodup.not_mem_erase nd) hn) fun a ha b hb => q a (List.mem_of_mem_erase ha) b (List.mem_of_mem_erase hb)
    by_cases hx : x ∈ T
    · rw [List.length_erase_of_mem hx] at this
      omega
    · rw [List.erase_of_not_mem hx] at this
      omega
  · obtain ⟨T, nd, hT, q, e⟩ := h'.ex
    have := h.le T nd (fun n hn => sub n (hT n hn)) q
    omega
theorem crossed_none {rs : List Rw} (h : ∀ a ∈ rs.map Rw.nm, ∀ b ∈ rs.map Rw.nm, b ∉ nearOf (crossed rs) a) : crossed rs = [] := by
  cases e : crossed rs with
  | nil => rfl
  | cons q l =>
    have hm : q ∈ crossed rs := by rw [e]; exact List.mem_cons_self
    obtain ⟨h1, h2⟩ := crossed_mem hm
    exact absurd (near_iff.mpr (.inl hm)) (h q.1 h1 q.2 h2)
section
variable {P : Program} {w : World} {K : PySem.W.Frag} {mg : Str → Option Value} {base : Heap}
def spLaw07 (K : PySem.W.Frag) (T : List (Addr × Str)) : Sp := fun vs H Q _ => ∃ (a : Addr) (ns : List Int), vs = [.ref a] ∧ SqL K H a (ns.map V.int) ∧ ns.length ≤ 63 ∧ LamX.Tabs T H ∧ ∀ H', Q (.bl true) H'
theorem scLaw07 : FnScope N07 ["_law_script"] (defScope sLaw) := ⟨rfl, rfl, rfl, by decide +kernel, rfl, by decide +kernel, by decide +kernel⟩
/-- the defs that the law calls -/
structure Defs07 (P : Program) (w : World) (K : PySem.W.Frag) (mg : Str → Option Value) (base : Heap) (T : List (Addr × Str)) (C CU : Addr) : Prop where
  B : Shg.Blt mg
  PC : PartyC K mg C
  hc : PySem.W.selfFirst K C = true
  start : ∃ f fd, FnOk P w K mg base CX0 1 f fd ["_law_script"] (spStart K) ∧ mg "_law_start" = some (.ref f) ∧ PySem.W.keepIn K (.ref f) = true ∧ Binds K fd ["_law_script"] []
  drawn : ∃ f fd, FnOk P w K mg base CX0 1 f fd ["_law_state", "_law_count"] (spDrawn K) ∧ mg "_law_drawn" = some (.ref f) ∧ PySem.W.keepIn K (.ref f) = true ∧ Binds K fd ["_law_state", "_law_count"] []
  rows : ∃ f fd, FnOk P w K mg base CX0 2 f fd ["_law_state", "_law_most", "_law_high"] (spRows K) ∧ mg "_law_rows" = some (.ref f) ∧ PySem.W.keepIn K (.ref f) = true ∧ Binds K fd ["_law_state", "_law_most", "_law_high"] []
  party : ∃ f fd, FnOk P w K mg base (L2.CX P w) 8 f fd ["_law_rows_here"] (spParty K C) ∧ mg "_law_party" = some (.ref f) ∧ PySem.W.keepIn K (.ref f) = true ∧ Binds K fd ["_law_rows_here"] []
  near : ∃ f fd, FnOk P w K mg base CX0 2 f fd ["_law_rows_here"] (spLawNear K) ∧ mg "_law_cross" = some (.ref f) ∧ PySem.W.keepIn K (.ref f) = true ∧ Binds K fd ["_law_rows_here"] []
  isq : ∃ f fd, FnOk P w K mg base CX0 1 f fd ["_law_near", "_law_some"] (spIsQuiet K) ∧ mg "_law_is_quiet" = some (.ref f) ∧ PySem.W.keepIn K (.ref f) = true ∧ Binds K fd ["_law_near", "_law_some"] []
  great : ∃ f fd, FnOk P w K mg base CX0 2 f fd ["_law_near", "_law_names"] (spGreatest K) ∧ mg "_law_greatest" = some (.ref f) ∧ PySem.W.keepIn K (.ref f) = true ∧ Binds K fd ["_law_near", "_law_names"] []
  same : ∃ f fd, (∀ n, FnOk P w K mg base CX0 (n + 1) f fd ["_law_result", "_law_expected"] (Smm.spSame n)) ∧ mg "_law_same" = some (.ref f) ∧ PySem.W.keepIn K (.ref f) = true ∧ Binds K fd ["_law_result", "_law_expected"] []
  guests : ∃ f fd, FnOk P w K mg base CX0 11 f fd ["party"] (spQuietG C T) ∧ mg "quiet_guests" = some (.ref f) ∧ PySem.W.keepIn K (.ref f) = true ∧ Binds K fd ["party"] []
  count : ∃ f fd, FnOk P w K mg base CX0 7 f fd ["stays"] (spQuiet K T) ∧ mg "quiet_count" = some (.ref f) ∧ PySem.W.keepIn K (.ref f) = true ∧ Binds K fd ["stays"] []
  all : ∃ f fd, FnOk P w K mg base (L2.CX P w) 12 f fd ["party"] (spAll C T) ∧ mg "all_lifting" = some (.ref f) ∧ PySem.W.keepIn K (.ref f) = true ∧ Binds K fd ["party"] []
  stays : ∃ f fd p, FnOk P w K mg base CX0 1 f fd ["self"] (getSp C "_stays") ∧ PropOf K C "stays" p f ∧ Binds K fd ["self"] []
  sub : ∃ f fd, FnOk P w K mg base (L2.CX P w) 7 f fd ["self", "name"] (spPSub C CU) ∧ OpC K C "__sub__" "__rsub__" "str" f ∧ Binds K fd ["self", "name"] []
theorem ok_law07 {f C CU : Addr} {fd : FuncData} {T : List (Addr × Str)} (F : Fun K "law" "law" sLaw f fd) (D : Defs07 P w K mg base T C CU) :
    FnOk P w K mg base (L2.CX P w) 13 f fd ["_law_script"] (spLaw07 K T) := by
  obtain ⟨B, PC, hc, ⟨f1, fd1, G1, m1, k1, b1⟩, ⟨f2, fd2, G2, m2, k2, b2⟩, ⟨f3, fd3, G3, m3, k3, b3⟩, ⟨fP, fdP, GP, mP, kP, bP⟩, ⟨fN, fdN, GN, mN, kN, bN⟩, ⟨fI, fdI, GI, mI, kI, bI⟩, ⟨fR, fdR, GR, mR, kR, bR⟩, ⟨fS, fdS, GS, mS, kS, bS⟩, ⟨fW, fdW, GW, mW, kW, bW⟩, ⟨fQ, fdQ, GQ, mQ, kQ, bQ⟩, ⟨fA, fdA, GA, mA, kA, bA⟩, ⟨fSt, fdSt, pSt, GSt, hSt, bSt⟩, ⟨fSub, fdSub, GSub, OS, bSub⟩⟩ := D
  refine F.okX scLaw07 (fun vs H Q E h => ?_) (fun cdv A outer s H vs Q E hr h => ?_)
  · obtain ⟨a, ns, rfl, _⟩ := h
    rfl
  obtain ⟨a, ns, rfl, ha, hl, hT, kk⟩ := h
  have nd := scLaw07.nd
  have pass : Passes (L2.CX P w) (cxOf (L2.CX P w) P w K mg base N07 "law" (defScope sLaw) f cdv A outer s H E) E := passes_call (takes_of rfl rfl rfl rfl) fun _ _ _ _ z => z
  refine ⟨_, (pss_cons (ps_set (i := 1) nd rfl (Or.inl rfl) (pe_call G1 (hr.mono (by decide)) rfl m1 k1 b1 .nil pass0 (pa_cons (pv 0) pa_nil)))
      (pss_cons (ps_set (i := 2) nd rfl (Or.inl rfl) (pe_call G3 (hr.mono (by decide)) rfl m3 k3 b3 .nil pass0 (pa_cons (pv 1) (pa_cons pe_int (pa_cons (pe_ix ix_list (pe_lst (pa_cons pe_int (pa_cons pe_int (pa_cons pe_int pa_nil)))) (pe_call G2 (hr.mono (by decide)) rfl m2 k2 b2 .nil pass0 (pa_cons (pv 1) (pa_cons pe_int pa_nil))) (fun _ _ => rfl)) pa_nil)))))
      (pss_cons (ps_set (i := 3) nd rfl (Or.inl rfl) (pe_call GP (hr.mono (by decide)) rfl mP kP bP .nil pass (pa_cons (pv 2) pa_nil)))
      (pss_cons (ps_set (i := 4) nd rfl (Or.inl rfl) (pe_call GR (hr.mono (by decide)) rfl mR kR bR .nil pass0 (pa_cons (pe_call GN (hr.mono (by decide)) rfl mN kN bN .nil pass0 (pa_cons (pv 2) pa_nil)) (pa_cons (pe_lc (own := [("_law_row", 8)]) (g := gName 8) (tt := tYes) (te := tOp (rIxT K) (tVar 8) (tC (.int 0))) rfl nd (pi_list (pv 2)) (blkOk_by (own := [("_law_row", 8)]) (N := N07) (sc := defScope sLaw) (by decide +kernel))
        (fun _ _ _ _ _ => (pg_name (i := 8) nd rfl (Or.inl rfl))) (fun _ _ _ _ _ => pts_nil) (fun _ _ _ _ _ => (pe_ix ix_tup (pv 8) pe_int (fun _ _ => rfl)))) pa_nil))))
      (pss_cons (ps_if (PW.pt (pw_or (pt_not (pt_val (pe_call (GS 1) (hr.mono (by decide)) rfl mS kS bS .nil pass0 (pa_cons (pe_call GW (hr.mono (by decide)) rfl mW kW bW .nil pass0 (pa_cons (pv 3) pa_nil)) (pa_cons (pv 4) pa_nil))))) (pw_or1 (pt_cmpR op_ne (pe_call GQ (hr.mono (by decide)) rfl mQ kQ bQ .nil pass0 (pa_cons (pe_prop (pv 3) PC.cl hSt GSt (hr.mono (by decide)) bSt .nil pass0 rfl) pa_nil)) (pe_callB call_len_seq (by rfl) B.len PySem.boot_len (pa_cons (pv 4) pa_nil)) (nomark _))))) (pss_one (ps_ret pe_bl)) pss_nil)
      (pss_cons (ps_for (passes_of rfl) rfl (pi_range1 (by rfl) B.range (pa_cons pe_int pa_nil)) (pg_name (i := 5) nd rfl (Or.inl rfl)) (pss_cons (ps_set (i := 2) nd rfl (Or.inl rfl) (pe_call G3 (hr.mono (by decide)) rfl m3 k3 b3 .nil pass0 (pa_cons (pv 1) (pa_cons pe_int (pa_cons (pe_ix ix_list (pe_lst (pa_cons pe_int (pa_cons pe_int (pa_cons (pe_op op_pow pe_int pe_int) pa_nil)))) (pe_call G2 (hr.mono (by decide)) rfl m2 k2 b2 .nil pass0 (pa_cons (pv 1) (pa_cons pe_int pa_nil))) (fun _ _ => rfl)) pa_nil)))))
      (pss_cons (ps_par (i := 3) (j := 6) rfl nd rfl rfl (by decide) rfl rfl (pa_cons (pe_call GP (hr.mono (by decide)) rfl mP kP bP .nil pass (pa_cons (pv 2) pa_nil)) (pa_cons (pe_call GN (hr.mono (by decide)) rfl mN kN bN .nil pass0 (pa_cons (pv 2) pa_nil)) pa_nil)) (by rfl))
      (pss_cons (ps_set (i := 7) nd rfl (Or.inr rfl) (pe_call GW (hr.mono (by decide)) rfl mW kW bW .nil pass0 (pa_cons (pv 3) pa_nil)))
      (pss_cons (ps_if (pt_not (pt_val (pe_call GI (hr.mono (by decide)) rfl mI kI bI .nil pass0 (pa_cons (pv 6) (pa_cons (pv 7) pa_nil))))) (pss_one (ps_ret pe_bl)) pss_nil)
      (pss_cons (ps_if (PW.pt (pw_or (pt_cmpR (op_neD hr.units) (pv 7) (pe_lc (own := [("_law_row", 8)]) (g := gName 8) (tt := tTest (tOp (rIn K false) (tOp (rIxT K) (tVar 8) (tC (.int 0))) (tVar 7))) (te := tOp (rIxT K) (tVar 8) (tC (.int 0))) rfl nd (pi_list (pv 2)) (blkOk_by (own := [("_law_row", 8)]) (N := N07) (sc := defScope sLaw) (by decide +kernel))
        (fun _ _ _ _ _ => (pg_name (i := 8) nd rfl (Or.inl rfl))) (fun _ _ _ _ _ => pts_one (pt_cmpR op_in_seq (pe_ix ix_tup (pv 8) pe_int (fun _ _ => rfl)) (pv 7) rfl)) (fun _ _ _ _ _ => (pe_ix ix_tup (pv 8) pe_int (fun _ _ => rfl)))) (nomark _)) (pw_or1 (pt_cmpR op_ne (pe_callB call_len_seq (by rfl) B.len PySem.boot_len (pa_cons (pv 7) pa_nil)) (pe_call GQ (hr.mono (by decide)) rfl mQ kQ bQ .nil pass0 (pa_cons (pe_prop (pv 3) PC.cl hSt GSt (hr.mono (by decide)) bSt .nil pass0 rfl) pa_nil)) (nomark _))))) (pss_one (ps_ret pe_bl)) pss_nil)
      (pss_cons (ps_for (passes_of rfl) rfl (pi_list (pv 2)) (pg_name (i := 8) nd rfl (Or.inl rfl)) (pss_cons (ps_if (PW.pt (pw_and (pt_cmpR op_notIn_seq (pe_ix ix_tup (pv 8) pe_int (fun _ _ => rfl)) (pv 7) rfl) (pw_and1 (pt_cmpR (op_eqD hr.units) (pe_lc (own := [("_law_one", 10)]) (g := gName 10) (tt := tTest (tOp (rIn K false) (tVar 10) (tVar 7))) (te := tVar 10) rfl nd (pi_list (pe_dget (units1 hr) (pv 6) (pe_ix ix_tup (pv 8) pe_int (fun _ _ => rfl)) (fun _ _ => rfl))) (blkOk_by (own := [("_law_one", 10)]) (N := N07) (sc := defScope sLaw) (by decide +kernel))
        (fun _ _ _ _ _ => (pg_name (i := 10) nd rfl (Or.inl rfl))) (fun _ _ _ _ _ => pts_one (pt_cmpR op_in_seq (pv 10) (pv 7) rfl)) (fun _ _ _ _ _ => (pv 10))) (pe_lst pa_nil) (nomark _))))) (pss_one (ps_ret pe_bl)) pss_nil)
      (pss_cons (ps_set (i := 9) nd rfl (Or.inl rfl) (pe_prop (pe_op (sub_str (fnr_of GSub bSub) (hr.mono (by decide)) pass hc OS) (pv 3) (pe_ix ix_tup (pv 8) pe_int (fun _ _ => rfl))) PC.cl hSt GSt (hr.mono (by decide)) bSt .nil pass0 rfl))
      (pss_one (ps_if (pt_not (pt_chain op_le op_le (pe_op op_sub (pe_callB call_len_seq (by rfl) B.len PySem.boot_len (pa_cons (pv 7) pa_nil)) pe_int) (pe_call GQ (hr.mono (by decide)) rfl mQ kQ bQ .nil pass0 (pa_cons (pv 9) pa_nil)) (pe_callB call_len_seq (by rfl) B.len PySem.boot_len (pa_cons (pv 7) pa_nil)))) (pss_one (ps_ret pe_bl)) pss_nil)))))
      (pss_one (ps_if (pt_cmpR op_ne (pe_call GA (hr.mono (by decide)) rfl mA kA bA .nil pass (pa_cons (pe_call GP (hr.mono (by decide)) rfl mP kP bP .nil pass (pa_cons (pe_lc (own := [("_law_row", 8)]) (g := gName 8) (tt := tTest (tOp (rIn K false) (tOp (rIxT K) (tVar 8) (tC (.int 0))) (tVar 7))) (te := tVar 8) rfl nd (pi_list (pv 2)) (blkOk_by (own := [("_law_row", 8)]) (N := N07) (sc := defScope sLaw) (by decide +kernel))
        (fun _ _ _ _ _ => (pg_name (i := 8) nd rfl (Or.inl rfl))) (fun _ _ _ _ _ => pts_one (pt_cmpR op_in_seq (pe_ix ix_tup (pv 8) pe_int (fun _ _ => rfl)) (pv 7) rfl)) (fun _ _ _ _ _ => (pv 8))) pa_nil)) pa_nil)) pe_int (nomark _)) (pss_one (ps_ret pe_bl)) pss_nil)))))))))
      (pss_one (ps_ret pe_bl)))))))), ?_⟩
  refine ⟨_, rfl, a, ns, rfl, ha, hl, fun H1 l s1 hl1 D1 => ?_⟩
  have S1 : Dw.St K T l a ns H1 := ⟨D1, LamX.Tabs.ext hT s1⟩
  clear D1 s1 hT
  refine name_at (nx_of ?_)
  refine asg_rel (fun v H' => ∃ (R : Addr) (ws : List V) (xs : List Stay) (hig : Int), v = .ref R ∧ Dw.St K T l a ns H' ∧ H' R = some (.lst ws) ∧ R ≠ l ∧ StaysV H' ws xs ∧ Rows hig xs ∧ xs.length ≤ 9 ∧ hig ≤ 100) (fun R0 h0 => ?_) fun vr Hr hr2 => ?_
  · refine ⟨_, rfl, by show 3 ≤ sizeLine; decide, fun p hp => ?_⟩
    have S5 := S1.same (Shg.same_upd (o := .lst [.int 5, .int 12, .int 30]) hp)
    refine ⟨_, rfl, l, a, ns, 3, rfl, S5.d, by decide, by decide, fun r H5 r0 r1 b5 d5 => ?_⟩
    obtain ⟨z, hz, ez⟩ := Dw.at_mem (xs := [V.int 5, .int 12, .int 30]) r0 r1
    have S6 := S5.draw b5 d5
    obtain ⟨hig, rfl, m0, m1⟩ : ∃ hi : Int, z = .int hi ∧ 0 < hi ∧ hi ≤ 30 := by
      simp only [List.mem_cons, List.not_mem_nil, or_false] at hz
      rcases hz with rfl | rfl | rfl
      · exact ⟨_, rfl, by decide, by decide⟩
      · exact ⟨_, rfl, by decide, by decide⟩
      · exact ⟨_, rfl, by decide, by decide⟩
    refine ⟨p, _, r, _, rfl, rfl, SqL.of (b5 _ _ upd_same (S1.ne hp)), ez, l, a, ns, 9, hig, rfl, S6.d, by decide, by decide, m0, by omega, fun H6 R ws xs b6 d6 nR hR sv lx rw6 => ?_⟩
    exact h0 _ _ ⟨R, ws, xs, hig, rfl, S6.draw b6 d6, hR, S6.ne nR, sv, rw6, by omega, by omega⟩
  obtain ⟨R, ws, xs, hig, rfl, S7, eR, nR, sv, rws, lx, hg⟩ := hr2
  obtain ⟨vld, sht⟩ := rows_ok rws (by omega) (by omega)
  have lw := Shg.pair_len sv
  refine name_at ?_
  refine ⟨_, rfl, R, ws, xs, rfl, SqL.of eR, sv, sht, vld, fun p H8 s8 _ P8 => ?_⟩
  refine name_at ?_
  have sv8 : StaysV H8 ws xs := Shg.pair_mono (fun _ _ ⟨t, q, ht⟩ => ⟨t, q, s8 _ _ ht⟩) sv
  have hF : ∀ n ∈ (xs.map fun x => x.1), ∀ m ∈ nearOf (crossed (xs.map rw3)) n, m ∈ (xs.map fun x => x.1) := fun n _ m hm => by
    rw [← nm_rw]
    exact near_mem hm
  have sy : ∀ n m, m ∈ nearOf (crossed (xs.map rw3)) n → n ∈ nearOf (crossed (xs.map rw3)) m := fun n m h => near_sym h
  have irr : ∀ n, n ∉ nearOf (crossed (xs.map rw3)) n := Fp.near_irr (by rw [nm_rw]; exact rws.nd)
  have okG : ∀ n ∈ (xs.map fun x => x.1), n.cps.all (· < 0x110000) = true := fun n hn => by
    obtain ⟨x, hx, rfl⟩ := List.mem_map.mp hn
    exact (sht x hx).2
  have gl : (xs.map fun x => x.1).length = xs.length := List.length_map _
  have hv : ∀ x ∈ xs, x.2.1 < x.2.2 := fun x hx => (rws.tm x hx).2.2.1
  have fl : ∀ n ∈ (xs.map fun x => x.1), (nearOf (crossed (xs.map rw3)) n).length ≤ 1000 := fun n hn => by
    have h1 := near_few (crossed (xs.map rw3)) n
    have h2 := crossed_few (xs.map rw3) (k := 9) (by rw [List.length_map]; exact lx)
    omega
  -- the expected ones
  refine nx_of ?_
  refine asg_rel (fun v H' => ∃ e, v = .ref e ∧ Same H8 H' ∧ H' e = some (.lst ((grd (nearOf (crossed (xs.map rw3))) (xs.map fun x => x.1)).map V.str))) (fun R0 h0 => ?_) fun vE HE hE => ?_
  · refine ⟨_, rfl, R, ws, xs, rfl, SqL.of (s8 _ _ eR), sv8, by omega, hv, rws.nd, fun D kvs H9 s9 eD nk => ?_⟩
    refine ⟨_, rfl, R, rfl, ⟨_, SqL.of (s9 _ _ (s8 _ _ eR))⟩, fun Nm hNm => ?_⟩
    refine lc_map walk_list (fun j => (xs[j]?).map fun y => V.str y.1) hNm (by rw [lw]; exact Nat.le_trans lx (by decide)) (fun HA sA => SqL.of (sA _ _ (s9 _ _ (s8 _ _ eR)))) (fun j v HA H' hj sA yy R' k1 => ?_) (fun j hj => ?_) fun HA sA eA => ?_
    · obtain ⟨rfl, e2⟩ := yy
      obtain ⟨x, hx, t9, rfl, ht9⟩ := Shg.pair_get sv8 e2
      refine ⟨rfl, _, rfl, t9, _, 0, .str x.1, rfl, rfl, SqT.of (sA _ _ (s9 _ _ ht9)), atI_nat (j := 0) rfl, ?_⟩
      exact k1 _ _ (Same.refl _) (by rw [hx]; rfl)
    · exact ⟨_, by rw [List.getElem?_eq_getElem (by omega)]; rfl⟩
    rw [lw, gather_map xs fun y => V.str y.1] at eA
    exact ⟨D, Nm, kvs, _, _, rfl, sA _ _ eD, near_same nk sA, by rw [List.map_map]; exact SqL.of eA, by rw [gl]; exact lx, okG, fl, irr, sy, fun e H' s' ee => h0 _ _ ⟨e, rfl, (s9.trans sA).trans s', ee⟩⟩
  obtain ⟨eX, rfl, sE, eE⟩ := hE
  have SE : Dw.St K T l a ns HE := (S7.same s8).same sE
  have PE' := PartyAt.same sE P8
  have lgr := grd_len (nearOf (crossed (xs.map rw3))) _ (xs.map fun x => x.1) (Nat.le_refl _)
  have lgs := (grd_sub (nearOf (crossed (xs.map rw3))) _ (xs.map fun x => x.1) (Nat.le_refl _)).length_le
  refine name_at ?_
  refine if_rel (fun H' => Grows T HE H') (fun R0 h0 => or_noU (fun H' => Grows T HE H') (fun H' => Grows T HE H') (fun Rf h => ?_) (fun H5 g5 Rf h => ?_) fun H' g => h0 _ g) fun HF gF => ?_
  · refine ⟨_, rfl, p, xs, rfl, PE', sht, by omega, rws.nd, hv, SE.t, fun aG H' g eG => ?_⟩
    have ee := g.ext _ _ eE fun _ z => nomatch z
    refine ⟨_, rfl, .ref aG, .ref eX, .list ((grd (nearOf (crossed (xs.map rw3))) (xs.map fun x => x.1)).map PyData.str), rfl, .inr (.inr ⟨aG, _, _, rfl, rfl, eG, by rw [List.length_map]; omega, strs_standU _⟩), .inr (.inr ⟨eX, _, _, rfl, rfl, ee, by rw [List.length_map]; omega, strs_standU _⟩), fun HB sB => ⟨_, rfl, h _ (g.trans (Sh1.Grows.of sB))⟩⟩
  · obtain ⟨dx, a0, ws0, h1, h2, sv0⟩ := party_ext g5.ext PE'
    refine ⟨_, rfl, p, dx, _, rfl, h1, p, dx, _, .ref a0, rfl, h1, lk_stays _, a0, ws0, xs, rfl, .inr (SqT.of h2), sv0, by omega, rws.nd, hv, g5.tab SE.t, fun m H' g Am => ?_⟩
    refine ⟨_, rfl, eX, _, rfl, .inl (SqL.of (g.ext _ _ (g5.ext _ _ eE fun _ z => nomatch z) fun _ z => nomatch z)), rfl, _, rfl, ?_⟩
    have em := Am.uniq (alpha_alN irr sy rws.nd)
    rw [List.length_map, lgr, em, decide_eq_true rfl]
    exact h _ (g5.trans g)
  have S3 := SE.grows gF
  clear SE PE' eE sE lgr lgs fl okG hF sy irr hv gl P8 sv8 s8 eR sv S7
  -- two parties
  refine ⟨_, rfl, by decide, by decide, for_it walk_range (fun i σ H2 => ∃ o2 o3 o4 o5 o6 o7 o8 o9, σ = [some (.ref a), some (.ref l), o2, o3, o4, o5, o6, o7, o8, o9, none] ∧ Dw.St K T l a ns H2)
    ⟨_, _, _, _, _, _, _, _, rfl, S3⟩ (fun _ _ _ _ _ => trivial) ?_ ?_⟩
  · clear S3
    rintro i v σ H3 H2 hi ⟨o2, o3, o4, o5, o6, o7, o8, o9, rfl, S2⟩ ⟨rfl, ev⟩
    refine name_at ?_
    refine asg_rel (fun v H' => ∃ (R : Addr) (ws : List V) (xs : List Stay) (hig : Int), v = .ref R ∧ Dw.St K T l a ns H' ∧ H' R = some (.lst ws) ∧ R ≠ l ∧ StaysV H' ws xs ∧ Rows hig xs ∧ xs.length ≤ 24 ∧ hig ≤ 100000000) (fun R0 h0 => ?_) fun vr Hr hr2 => ?_
    · refine ⟨_, rfl, _, _, rfl, rfl, ⟨by decide, by decide, by decide⟩, by show 3 ≤ sizeLine; decide, fun p hp => ?_⟩
      have S5 := S2.same (Shg.same_upd (o := .lst [.int 12, .int 60, .int (10 ^ (8 : Int).toNat)]) hp)
      refine ⟨_, rfl, l, a, ns, 3, rfl, S5.d, by decide, by decide, fun r H5 r0 r1 b5 d5 => ?_⟩
      obtain ⟨z, hz, ez⟩ := Dw.at_mem (xs := [V.int 12, .int 60, .int (10 ^ (8 : Int).toNat)]) r0 r1
      have S6 := S5.draw b5 d5
      obtain ⟨hig, rfl, m0, m1⟩ : ∃ hi : Int, z = .int hi ∧ 0 < hi ∧ hi ≤ 100000000 := by
        simp only [List.mem_cons, List.not_mem_nil, or_false] at hz
        rcases hz with rfl | rfl | rfl
        · exact ⟨_, rfl, by decide, by decide⟩
        · exact ⟨_, rfl, by decide, by decide⟩
        · exact ⟨_, rfl, by decide, by decide⟩
      refine ⟨p, _, r, _, rfl, rfl, SqL.of (b5 _ _ upd_same (S2.ne hp)), ez, l, a, ns, 24, hig, rfl, S6.d, by decide, by decide, m0, by omega, fun H6 R ws xs b6 d6 nR hR sv lx rw6 => ?_⟩
      exact h0 _ _ ⟨R, ws, xs, hig, rfl, S6.draw b6 d6, hR, S6.ne nR, sv, rw6, by omega, by omega⟩
    obtain ⟨R, ws, xs, hig, rfl, S7, eR, nR, sv, rws, lx, hg⟩ := hr2
    obtain ⟨vld, sht⟩ := rows_ok rws (by omega) (by omega)
    have lw := Shg.pair_len sv
    have hv : ∀ x ∈ xs, x.2.1 < x.2.2 := fun x hx => (rws.tm x hx).2.2.1
    refine name_at ?_
    -- the party; who crosses whom
    refine ⟨_, rfl, R, ws, xs, rfl, SqL.of eR, sv, sht, vld, fun p H8 s8 _ P8 => ?_⟩
    have sv8 : StaysV H8 ws xs := Shg.pair_mono (fun _ _ ⟨t, q, ht⟩ => ⟨t, q, s8 _ _ ht⟩) sv
    refine ⟨_, rfl, R, ws, xs, rfl, SqL.of (s8 _ _ eR), sv8, by omega, hv, rws.nd, fun D kvs H9 s9 eD nk => ⟨_, _, rfl, ?_⟩⟩
    have U0 : S5 K T C l a ns R ws xs p D kvs H9 := ⟨(S7.same s8).same s9, s9 _ _ (s8 _ _ eR), nR, Shg.pair_mono (fun _ _ ⟨t, q, ht⟩ => ⟨t, q, s9 _ _ ht⟩) sv8, P8.same s9, eD, nk⟩
    clear S7 eR sv sv8 s8 P8 eD nk s9 S2
    have hF : ∀ n ∈ (xs.map fun x => x.1), ∀ m ∈ nearOf (crossed (xs.map rw3)) n, m ∈ (xs.map fun x => x.1) := fun n _ m hm => by
      rw [← nm_rw]
      exact near_mem hm
    have sy : ∀ n m, m ∈ nearOf (crossed (xs.map rw3)) n → n ∈ nearOf (crossed (xs.map rw3)) m := fun n m h => near_sym h
    have irr : ∀ n, n ∉ nearOf (crossed (xs.map rw3)) n := Fp.near_irr (by rw [nm_rw]; exact rws.nd)
    have okG : ∀ n ∈ (xs.map fun x => x.1), n.cps.all (· < 0x110000) = true := fun n hn => by
      obtain ⟨x, hx, rfl⟩ := List.mem_map.mp hn
      exact (sht x hx).2
    have gl : (xs.map fun x => x.1).length = xs.length := List.length_map _
    have fl : ∀ n ∈ (xs.map fun x => x.1), (nearOf (crossed (xs.map rw3)) n).length ≤ 2000 := fun n hn => by
      have h1 := near_few (crossed (xs.map rw3)) n
      have h2 := crossed_few (xs.map rw3) (k := 24) (by rw [List.length_map]; exact lx)
      omega
    have sub2 : ∀ ys : List Stay, ys.Sublist xs → ∀ a ∈ (ys.map fun x => x.1), ∀ b ∈ (ys.map fun x => x.1), (b ∈ nearOf (crossed (ys.map rw3)) a ↔ b ∈ nearOf (crossed (xs.map rw3)) a) := fun ys s => by
      rw [← nm_rw]
      exact sub_near (s.map rw3) (by rw [nm_rw]; exact rws.nd)
    have ndg := rws.nd
    have lgr := grd_len (nearOf (crossed (xs.map rw3))) _ (xs.map fun x => x.1) (Nat.le_refl _)
    have gsub := grd_sub (nearOf (crossed (xs.map rw3))) _ (xs.map fun x => x.1) (Nat.le_refl _)
    have gq := grd_quiet irr sy _ (xs.map fun x => x.1) (Nat.le_refl _)
    have gmax := fun (x : Str) (hx : x ∈ (xs.map fun x => x.1)) hn => grd_max irr sy ndg (x := x) hx hn
    have lgs := gsub.length_le
    have al := alpha_alN irr sy ndg
    generalize hFo : grd (nearOf (crossed (xs.map rw3))) (xs.map fun x => x.1) = Fo at lgr gsub gq gmax lgs
    -- the guests found
    refine nx_of ?_
    refine asg_rel (fun v H' => ∃ aG, v = .ref aG ∧ S5 K T C l a ns R ws xs p D kvs H' ∧ H' aG = some (.lst (Fo.map V.str))) (fun R0 h0 => ?_) fun vG HG hG => ?_
    · refine ⟨_, rfl, p, xs, rfl, U0.p, sht, by omega, ndg, hv, U0.d.t, fun aG H' g e => ?_⟩
      rw [hFo] at e
      exact h0 _ _ ⟨aG, rfl, U0.grows g, e⟩
    obtain ⟨aG, rfl, U1, eG⟩ := hG
    clear U0
    refine name_at ?_
    have cnt : ∀ {H0 : Hp}, S5 K T C l a ns R ws xs p D kvs H0 → ∃ (a0 dx : Addr), H0 p = some (.ins C dx [(("_stays" : Str), .ref a0)]) ∧ ∀ (R0 : VK), (∀ H', Grows T H0 H' → R0 (.int (Fo.length : Nat)) H') → spQuiet K T [.ref a0] H0 R0 (fun _ _ _ => False) := fun {H0} k => by
      obtain ⟨dx, a0, ws0, h1, h2, sv0⟩ := k.p
      refine ⟨a0, dx, h1, fun R0 h => ⟨a0, ws0, xs, rfl, .inr (SqT.of h2), sv0, by omega, ndg, hv, k.d.t, fun m H' g Am => ?_⟩⟩
      rw [Am.uniq al, ← lgr]
      exact h H' g
    -- they are quiet
    refine if_rel (fun H' => Same HG H') (fun R0 h0 => ?_) fun HI sI => ?_
    · refine ⟨_, rfl, _, rfl, D, aG, kvs, _, Fo, _, rfl, U1.eD, U1.nk, SqL.of eG, fun n hn => gsub.mem hn, by omega, okG, fl, fun H' s' => ⟨_, rfl, ?_⟩⟩
      rw [quiet_iff.mpr gq]
      exact h0 _ s'
    have U2 := U1.same sI
    have eG2 := sI _ _ eG
    clear U1 eG
    -- in their order; as many as there can be
    refine if_rel (fun H' => Grows T HI H') (fun R0 h0 => or_noU (fun H' => Grows T HI H') (fun H' => Grows T HI H') (fun Rf h => ?_) (fun H5 g5 Rf h => ?_) fun H' g => h0 _ g) fun HJ gJ => ?_
    · refine ⟨_, rfl, _, rfl, R, rfl, ⟨_, SqL.of U2.r⟩, fun D0 hD0 => ?_⟩
      refine lc_gather (walk_list (K := K) (a := R) (xs := ws)) (fun j => (xs[j]?).bind fun x => if decide (x.1 ∈ Fo) = true then some (.str x.1) else none) hD0 (by rw [lw]; exact Nat.le_trans lx (by decide)) (fun HA sA => SqL.of (sA _ _ U2.r)) (fun j v HA H' hj sA yy Rr k1 => ?_) fun HA sA eA => ?_
      · obtain ⟨rfl, e2⟩ := yy
        obtain ⟨x, hx, t9, rfl, ht9⟩ := Shg.pair_get U2.s e2
        have k2 := k1 _ (Same.refl _)
        rw [hx] at k2
        have k3 : Rr (if decide (x.1 ∈ Fo) = true then some (V.str x.1) else none) _ := k2
        refine ⟨rfl, _, rfl, t9, _, 0, .str x.1, rfl, rfl, SqT.of (sA _ _ ht9), atI_nat (j := 0) rfl, _, rfl, aG, _, rfl, .inl (SqL.of (sA _ _ eG2)), rfl, Sh1.flat_strs _, _, rfl, ?_⟩
        have ei : inV (.str x.1) (Fo.map V.str) = decide (x.1 ∈ Fo) := by
          rw [Sh1.inV_strs, Bool.eq_iff_iff, decide_eq_true_iff]
          exact any_mem
        refine ite2 (fun q => ?_) (fun q => ?_)
        · rw [if_pos (ei.symm.trans q)] at k3
          exact ⟨_, rfl, t9, _, 0, .str x.1, rfl, rfl, SqT.of (sA _ _ ht9), atI_nat (j := 0) rfl, k3⟩
        · rw [if_neg fun z => q (ei.trans z)] at k3
          exact k3
      rw [lw, gather_filter xs (fun x => decide (x.1 ∈ Fo)) fun x => V.str x.1] at eA
      have ef : (xs.filter fun x => decide (x.1 ∈ Fo)).map (fun x => V.str x.1) = Fo.map V.str := by
        have e0 : ((xs.map fun x => x.1).filter fun n => decide (n ∈ Fo)).map V.str = Fo.map V.str := by rw [filter_sub gsub ndg]
        rw [List.filter_map, List.map_map] at e0
        exact e0
      rw [ef] at eA
      have pl : Shp.PlainD 1 (.list (Fo.map PyData.str)) := Shp.plain_lst fun d hd => by
        obtain ⟨z, hz, rfl⟩ := List.mem_map.mp hd
        exact Shp.plain_str (okG z (gsub.mem hz)) 0
      refine ⟨.list (Fo.map PyData.str), .list (Fo.map PyData.str), .lst (SqL.of (sA _ _ eG2)) (Shp.dp_strs _), .lst (SqL.of eA) (Shp.dp_strs _), Shp.plain_shaped pl, Shp.plain_shaped pl, _, rfl, ?_⟩
      rw [Shp.plain_refl pl]
      exact h _ (Sh1.Grows.of sA)
    · refine ⟨_, rfl, aG, _, rfl, .inl (SqL.of (g5.ext _ _ eG2 fun _ z => nomatch z)), _, rfl, ?_⟩
      obtain ⟨a0, dx, h1, hq⟩ := cnt (U2.grows g5)
      refine ⟨p, dx, _, rfl, h1, p, dx, _, .ref a0, rfl, h1, lk_stays _, ?_⟩
      refine hq (fun y H2 => rNe (V.int ((Fo.map V.str).length : Nat)) y H2 fun x H' => ∃ k, x = V.bl k ∧ Rf k H') fun H' g => ⟨rfl, _, rfl, ?_⟩
      rw [List.length_map, decide_eq_true rfl]
      exact h _ (g5.trans g)
    have U3 := U2.grows gJ
    have eG3 := gJ.ext _ _ eG2 fun _ z => nomatch z
    clear U2 eG2
    have nmS : ∀ {ys : List Stay}, ys.Sublist xs → ∀ n ∈ (ys.map fun x => x.1), n ∈ (xs.map fun x => x.1) := fun s n hn => (s.map _).mem hn
    refine ⟨_, rfl, R, rfl, ⟨_, SqL.of U3.r⟩, for_it (walk_list (K := K) (a := R) (xs := ws)) (fun j σ H' => ∃ o8 o9, σ = [some (.ref a), some (.ref l), some (.ref R), some (.ref p), o4, some v, some (.ref D), some (.ref aG), o8, o9, none] ∧ S5 K T C l a ns R ws xs p D kvs H' ∧ H' aG = some (.lst (Fo.map V.str)))
      ⟨_, _, rfl, U3, eG3⟩ (fun j σ H' _ z => by obtain ⟨_, _, _, z, _⟩ := z; exact SqL.of z.r) ?_ ?_⟩
    · clear U3 eG3
      rintro j y σ HK HL hj ⟨o8, o9, rfl, U4, eG4⟩ ⟨rfl, ey⟩
      obtain ⟨x, hx, t, rfl, ht⟩ := Shg.pair_get U4.s ey
      have hxm : x ∈ xs := List.mem_of_getElem? hx
      have hxg : x.1 ∈ (xs.map fun x => x.1) := List.mem_map.mpr ⟨x, hxm, rfl⟩
      have ei : inV (.str x.1) (Fo.map V.str) = decide (x.1 ∈ Fo) := by
        rw [Sh1.inV_strs, Bool.eq_iff_iff, decide_eq_true_iff]
        exact any_mem
      refine name_at ?_
      refine if_rel (fun H' => Same HL H') (fun R0 h0 => ?_) fun HM sM => ?_
      · cases hin : decide (x.1 ∈ Fo) with
        | true =>
          refine and_not (fun Rf h => ⟨_, rfl, t, _, 0, .str x.1, rfl, rfl, SqT.of ht, atI_nat (j := 0) rfl, _, rfl, aG, _, rfl, .inl (SqL.of eG4), rfl, Sh1.flat_strs _, _, rfl, ?_⟩) (h0 _ (Same.refl _))
          rw [if_pos rfl, ei, hin]
          exact h
        | false =>
          refine and_yes (fun Rf h => ⟨_, rfl, t, _, 0, .str x.1, rfl, rfl, SqT.of ht, atI_nat (j := 0) rfl, _, rfl, aG, _, rfl, .inl (SqL.of eG4), rfl, Sh1.flat_strs _, _, rfl, ?_⟩) ?_
          · rw [if_pos rfl, ei, hin]
            exact h
          obtain ⟨Lx, _, _, _, _, _, vLx, eLx⟩ := near_get U4.nk hxg
          refine ⟨_, rfl, _, rfl, t, _, 0, .str x.1, rfl, rfl, SqT.of ht, atI_nat (j := 0) rfl, D, .ref Lx, rfl, ?_, Lx, rfl, ⟨_, SqL.of eLx⟩, fun D1 hD1 => ?_⟩
          · rw [← vLx]
            exact DGet.k (k := Sum.inr x.1) U4.eD
          refine lc_gather walk_list (fun j => ((nearOf (crossed (xs.map rw3)) x.1)[j]?).bind fun b => if decide (b ∈ Fo) = true then some (.str b) else none) hD1 (by rw [List.length_map]; exact Nat.le_trans (fl _ hxg) (by decide)) (fun HB sB => SqL.of (sB _ _ eLx)) (fun j' v' HB HB' hj' sB yy' Rr' k2 => ?_) fun HB sB eB => ?_
          · obtain ⟨rfl, e3⟩ := yy'
            rw [List.getElem?_map] at e3
            obtain ⟨b, hb, rfl⟩ := Option.map_eq_some_iff.mp e3
            have k3 := k2 _ (Same.refl _)
            rw [hb] at k3
            have k4 : Rr' (if decide (b ∈ Fo) = true then some (V.str b) else none) _ := k3
            refine ⟨rfl, _, rfl, _, rfl, aG, _, rfl, .inl (SqL.of (sB _ _ eG4)), rfl, Sh1.flat_strs _, _, rfl, ?_⟩
            have ei2 : inV (.str b) (Fo.map V.str) = decide (b ∈ Fo) := by
              rw [Sh1.inV_strs, Bool.eq_iff_iff, decide_eq_true_iff]
              exact any_mem
            refine ite2 (fun q => ?_) (fun q => ?_)
            · rw [if_pos (ei2.symm.trans q)] at k4
              exact ⟨_, rfl, k4⟩
            · rw [if_neg fun z => q (ei2.trans z)] at k4
              exact k4
          · rw [List.length_map, gather_filter] at eB
            have plB : Shp.PlainD 1 (.list (((nearOf (crossed (xs.map rw3)) x.1).filter fun b => decide (b ∈ Fo)).map PyData.str)) := Shp.plain_lst fun d hd => by
              obtain ⟨z, hz, rfl⟩ := List.mem_map.mp hd
              exact Shp.plain_str (okG z (gsub.mem (of_decide_eq_true (List.mem_filter.mp hz).2))) 0
            refine ⟨Nat.zero_le _, fun p0 hp0 => ?_⟩
            have sC := Shg.same_upd (o := .lst []) hp0
            refine ⟨.list (((nearOf (crossed (xs.map rw3)) x.1).filter fun b => decide (b ∈ Fo)).map PyData.str), .list [], .lst (SqL.of (sC _ _ eB)) (Shp.dp_strs _), .lst (SqL.of upd_same) .nil, Shp.plain_shaped plB, Shp.nil_shaped, _, rfl, ?_⟩
            rw [Shp.eqv_nil]
            have := gmax x.1 hxg (of_decide_eq_false hin)
            have ee : (((nearOf (crossed (xs.map rw3)) x.1).filter fun b => decide (b ∈ Fo)).map PyData.str).isEmpty = false := by
              cases he : (nearOf (crossed (xs.map rw3)) x.1).filter fun b => decide (b ∈ Fo) with
              | nil => exact absurd he this
              | cons b r => rfl
            rw [ee]
            exact h0 _ (sB.trans sC)
      have U5 := U4.same sM
      have eG5 := sM _ _ eG4
      have ht5 := sM _ _ ht
      clear U4 eG4 ht
      refine asg_rel (fun v H' => ∃ a1 ws1, v = .ref a1 ∧ S5 K T C l a ns R ws xs p D kvs H' ∧ H' aG = some (.lst (Fo.map V.str)) ∧ H' a1 = some (.tup ws1) ∧ StaysV H' ws1 (without xs x)) (fun R0 h0 => ?_) fun vR HN hN => ?_
      · obtain ⟨dx, a0, ws0, h1, h2, sv0⟩ := id U5.p
        refine ⟨_, rfl, _, rfl, t, _, 0, .str x.1, rfl, rfl, SqT.of ht5, atI_nat (j := 0) rfl, p, rfl, ⟨_, rfl⟩, ⟨dx, _, h1⟩, p, x.1, xs, rfl, U5.p, sht, vld, (sht x hxm).1, fun x' hx' q H' s' _ PQ => ?_, fun hn => ?_⟩
        · rw [Kb.guest_me ndg hxm] at hx'
          cases hx'
          obtain ⟨dq, a1, ws1, q1, q2, q3⟩ := PQ
          exact ⟨q, dq, _, rfl, q1, q, dq, _, .ref a1, rfl, q1, lk_stays _, h0 _ _ ⟨a1, ws1, rfl, U5.same s', s' _ _ eG5, q2, q3⟩⟩
        · rw [Kb.guest_me ndg hxm] at hn
          cases hn
      obtain ⟨a1, ws1, rfl, U6, eG6, e1, sv1⟩ := hN
      clear U5 eG5
      refine name_at ?_
      have sbW : (without xs x).Sublist xs := List.filter_sublist
      refine if_rel1 (fun H' => Grows T HN H') (fun R0 h0 => ?_) fun HQ gQ => ⟨_, _, rfl, U6.grows gQ, gQ.ext _ _ eG6 fun _ z => nomatch z⟩
      refine ⟨_, rfl, aG, _, rfl, .inl (SqL.of eG6), _, _, rfl, rfl, _, rfl, a1, ws1, without xs x, rfl, .inr (SqT.of e1), sv1, by have := sbW.length_le; omega, ndg.sublist (sbW.map _), fun z hz => hv z (sbW.mem hz), U6.d.t, fun m H' g Am => ?_⟩
      have less := alpha_less (x := x.1) al (Am.congr (sub2 _ sbW)) (nmS sbW) fun n hn ne => by
        obtain ⟨z, hz, rfl⟩ := List.mem_map.mp hn
        refine List.mem_map.mpr ⟨z, List.mem_filter.mpr ⟨hz, ?_⟩, rfl⟩
        rw [decide_eq_false fun e => ne (by rw [e])]
        rfl
      rw [← lgr] at less
      have eG7 := g.ext _ _ eG6 fun _ z => nomatch z
      refine ⟨_, _, rfl, rfl, _, rfl, ?_⟩
      rw [List.length_map, decide_eq_true (by omega)]
      refine iteT ⟨_, rfl, aG, _, rfl, .inl (SqL.of eG7), _, _, rfl, rfl, _, rfl, ?_⟩
      rw [List.length_map, decide_eq_true (by omega)]
      exact h0 _ g
    rintro σ HK ⟨o8, o9, rfl, U4, eG4⟩
    -- none of those chosen lifts another
    refine nx_of ?_
    refine if_rel1 (fun H' => Grows T HK H') (fun R0 h0 => ?_) fun HP gP => ⟨_, _, _, _, _, _, _, _, rfl, U4.d.grows gP⟩
    refine ⟨_, rfl, R, rfl, ⟨_, SqL.of U4.r⟩, fun D0 hD0 => ?_⟩
    refine lc_gather (walk_list (K := K) (a := R) (xs := ws)) (fun j => ((ws.zip xs)[j]?).bind fun q => if decide (q.2.1 ∈ Fo) = true then some q.1 else none) hD0 (by rw [lw]; exact Nat.le_trans lx (by decide)) (fun HA sA => SqL.of (sA _ _ U4.r)) (fun j v HA H' hj sA yy Rr k1 => ?_) fun HA sA eA => ?_
    · obtain ⟨rfl, e2⟩ := yy
      obtain ⟨x, hx, t9, rfl, ht9⟩ := Shg.pair_get U4.s e2
      have k2 := k1 _ (Same.refl _)
      rw [show (ws.zip xs)[j]? = some (.ref t9, x) from List.getElem?_zip_eq_some.mpr ⟨e2, hx⟩] at k2
      have k3 : Rr (if decide (x.1 ∈ Fo) = true then some (V.ref t9) else none) _ := k2
      refine ⟨rfl, _, rfl, t9, _, 0, .str x.1, rfl, rfl, SqT.of (sA _ _ ht9), atI_nat (j := 0) rfl, _, rfl, aG, _, rfl, .inl (SqL.of (sA _ _ eG4)), rfl, Sh1.flat_strs _, _, rfl, ?_⟩
      have ei : inV (.str x.1) (Fo.map V.str) = decide (x.1 ∈ Fo) := by
        rw [Sh1.inV_strs, Bool.eq_iff_iff, decide_eq_true_iff]
        exact any_mem
      refine ite2 (fun q => ?_) (fun q => ?_)
      · rw [if_pos (ei.symm.trans q)] at k3
        exact ⟨_, rfl, k3⟩
      · rw [if_neg fun z => q (ei.trans z)] at k3
        exact k3
    rw [show ws.length = (ws.zip xs).length from by rw [List.length_zip]; omega, gather_list (ws.zip xs) fun q => if decide (q.2.1 ∈ Fo) = true then some q.1 else none] at eA
    have svF := paired_filter (fun x : Stay => decide (x.1 ∈ Fo)) (Shg.pair_mono (fun _ _ ⟨t, q, ht⟩ => ⟨t, q, sA _ _ ht⟩) U4.s : StaysV HA ws xs)
    have sbF : (xs.filter fun x : Stay => decide (x.1 ∈ Fo)).Sublist xs := List.filter_sublist
    have vF : Valid (xs.filter fun x : Stay => decide (x.1 ∈ Fo)) := ⟨Nat.le_trans sbF.length_le vld.len, vld.nd.sublist (sbF.map _), fun z hz => vld.ok z (sbF.mem hz)⟩
    have sF : Short (xs.filter fun x : Stay => decide (x.1 ∈ Fo)) := fun z hz => sht z (sbF.mem hz)
    refine ⟨D0, _, xs.filter fun x : Stay => decide (x.1 ∈ Fo), rfl, SqL.of eA, svF, sF, vF, fun pF H' s' _ PF => ?_⟩
    refine ⟨pF, _, rfl, PF, sF, by have := sbF.length_le; omega, LamX.Tabs.ext (LamX.Tabs.ext U4.d.t sA) s', fun H'' g => ?_⟩
    have none : crossed ((xs.filter fun x : Stay => decide (x.1 ∈ Fo)).map rw3) = [] := crossed_none fun a0 ha0 b0 hb0 z => by
      rw [nm_rw] at ha0 hb0
      have z := (sub2 _ sbF a0 ha0 b0 hb0).mp z
      obtain ⟨u, hu, rfl⟩ := List.mem_map.mp ha0
      obtain ⟨w0, hw0, rfl⟩ := List.mem_map.mp hb0
      exact gq _ (of_decide_eq_true (List.mem_filter.mp hu).2) _ (of_decide_eq_true (List.mem_filter.mp hw0).2) z
    rw [none]
    refine ⟨rfl, _, rfl, ?_⟩
    exact h0 _ ((Sh1.Grows.of (sA.trans s')).trans g)
  · rintro σ H2 ⟨o2, o3, o4, o5, o6, o7, o8, o9, rfl, S2⟩
    exact kk _
end
end Qu
set_option Elab.async false
set_option linter.all false
set_option maxRecDepth 100000
set_option maxHeartbeats 2000000
namespace Sh1
open PySem L2 Sho NdefX He Shh
section
variable {K : Shh.Fr}
def opB (K : Shh.Fr) (C : Addr) (op rop : Str) (T : String) : Bool := dunB K C op && (eqO (PySem.W.findIn K (.ref C) rop) (some none) && ((PySem.W.findIn K (.type T) op).isSome && ((PySem.W.findIn K (.type T) rop).isSome && decide (PySem.W.subIn K (.type T) (.ref C) = some false))))
theorem opB_ok {C : Addr} {op rop : Str} {T : String} (c : opB K C op rop T = true) : OpC K C op rop T (ma K C op) := by
  obtain ⟨c1, c⟩ := ba c
  obtain ⟨c2, c⟩ := ba c
  obtain ⟨c3, c⟩ := ba c
  obtain ⟨c4, c5⟩ := ba c
  have d := dunB_ok c1
  exact ⟨d.at_, d.isF, ⟨none, eqO_ok c2, .inl rfl⟩, Option.isSome_iff_exists.mp c3, Option.isSome_iff_exists.mp c4, of_decide_eq_true c5⟩
end
end Sh1
set_option Elab.async false
set_option linter.all false
set_option maxRecDepth 100000
set_option maxHeartbeats 4000000
/-! The head's facts of k07. -/
namespace Qu
open PySem L2 Sho NdefX He Shh Shg Sh1 Shd Gq Ck
abbrev dm (C m qual : Str) (st : Stmt) : Dn := ⟨fun K => ma K (ga K C) m, m, qual, st, fun _ => []⟩
abbrev dp (C m qual : Str) (st : Stmt) : Dn := ⟨fun K => getA K (ga K C) m, m, qual, st, fun _ => []⟩
abbrev dnE (x : Str) (qual : Str) (st : Stmt) : Dn := ⟨fun K => eInit K x, "__init__", qual, st, fun K => [(("__class__" : Str), cellA K (eInit K x))]⟩
theorem sblt {mg : Str → Option Value} (k : ∀ x, x ∈ bltNames → mg x = none) : Sh1.Blt mg := ⟨k _ (by simp), k _ (by simp), k _ (by simp), k _ (by simp), k _ (by simp), k _ (by simp), k _ (by simp), k _ (by simp), k _ (by simp), k _ (by simp), k _ (by simp)⟩
theorem ernO_ok {K : Shh.Fr} {mg : Str → Option Value} {x : Str} (gm : mg x = some (.ref (ga K x))) (c : ernB K x = true) : ErrO K mg x (ga K x) := by
  obtain ⟨c1, c⟩ := ba c
  obtain ⟨c2, c⟩ := ba c
  obtain ⟨c3, c⟩ := ba c
  obtain ⟨c4, c5⟩ := ba c
  exact ⟨c1, gm, c2, of_decide_eq_true c3, of_decide_eq_true c4, of_decide_eq_true c5⟩
theorem all_of {α : Type} (P : α → Prop) : ∀ {l : List α}, (∀ i : Nat, ∀ a, l[i]? = some a → P a) → ∀ x ∈ l, P x := fun h x hx => by
  obtain ⟨i, hi⟩ := List.getElem?_of_mem hx
  exact h i x hi
theorem errC_InvalidStay {K : Shh.Fr} {mg : Str → Option Value} {P : Program} (E : ErrF "/claim/cut.py" K "InvalidStay" "index") (D : FunF K "__init__" "InvalidStay.__init__" sInvInit [(("__class__" : Str), cellA K (eInit K "InvalidStay"))] (eInit K "InvalidStay")) (hf : P.main.file = "/claim/cut.py") (sup : mg "super" = none)
    (h2 : (P.main.scope.names.lookup ("super" : Str)).isSome = false) (gm : mg "InvalidStay" = some (.ref (ga K "InvalidStay"))) : ErrC P K mg "InvalidStay" "index" nfInv (ga K "InvalidStay") :=
  ⟨⟨_, _, _, err_txt E D hf sup ⟨_, rfl, rfl⟩ h2 (by decide +kernel) (by decide +kernel) (by decide +kernel), E.ini, E.ity⟩, E.sup, E.xf, E.no, gm, E.exm⟩
theorem errC_UnknownGuest {K : Shh.Fr} {mg : Str → Option Value} {P : Program} (E : ErrF "/claim/cut.py" K "UnknownGuest" "name") (D : FunF K "__init__" "UnknownGuest.__init__" sUnkInit [(("__class__" : Str), cellA K (eInit K "UnknownGuest"))] (eInit K "UnknownGuest")) (hf : P.main.file = "/claim/cut.py") (sup : mg "super" = none)
    (h2 : (P.main.scope.names.lookup ("super" : Str)).isSome = false) (gm : mg "UnknownGuest" = some (.ref (ga K "UnknownGuest"))) : ErrC P K mg "UnknownGuest" "name" nfUnk (ga K "UnknownGuest") :=
  ⟨⟨_, _, _, err_txt E D hf sup ⟨_, rfl, rfl⟩ h2 (by decide +kernel) (by decide +kernel) (by decide +kernel), E.ini, E.ity⟩, E.sup, E.xf, E.no, gm, E.exm⟩
theorem funS07 {K : Shh.Fr} {x qual : Str} {st : Stmt} {f : Addr} (F : FunF K x qual st [] f) : FunS K x qual st f := by
  obtain ⟨oc, od, doc, pm, an, ct, osl, lk, hcd⟩ := F.ex
  exact ⟨oc, od, doc, pm, an, _, ct, osl, lk, hcd⟩
abbrev glo07 : List Str := "is_name" :: "is_within" :: "is_tick" :: "is_stay" :: "lifted_from" :: "_check_stays" :: "_crossing_names" :: "_goings_by_event" :: "quiet_count" :: "quiet_guests" :: "all_lifting" :: "_law_start" :: "_law_drawn" :: "_law_same" :: "_law_rows" :: "_law_party" :: "_law_played" :: "_law_cross" :: "_law_is_quiet" :: "_law_greatest" :: "InvalidStay" :: "UnknownGuest" :: "Party" :: "bottom_up" :: "law" :: []
abbrev keep07 : List Str := ["is_name", "is_within", "is_tick", "is_stay", "lifted_from", "_check_stays", "_crossing_names", "_goings_by_event", "quiet_count", "quiet_guests", "all_lifting", "_law_start", "_law_drawn", "_law_same", "_law_rows", "_law_party", "_law_played", "_law_cross", "_law_is_quiet", "_law_greatest", "bottom_up", "law"]
def fn07 : List Dn := [Shd.dn "is_name" sIsName, Shd.dn "is_within" sIsWithin, Shd.dn "is_tick" sIsTick, Shd.dn "is_stay" sIsStay, Shd.dn "lifted_from" sLiftedFrom, Shd.dn "_check_stays" sCheck, Shd.dn "_crossing_names" sCrossingNames, Shd.dn "_goings_by_event" sGoingsByEvent, Shd.dn "quiet_count" sQuietCount, Shd.dn "quiet_guests" sQuietGuests, Shd.dn "all_lifting" sAllLifting, Shd.dn "_law_start" sStart, Shd.dn "_law_drawn" sDrawn, Shd.dn "_law_same" sSame, Shd.dn "_law_rows" sRows, Shd.dn "_law_party" sLawParty, Shd.dn "_law_played" sLawPlayed, Shd.dn "_law_cross" sLawCross, Shd.dn "_law_is_quiet" sLawIsQuiet, Shd.dn "_law_greatest" sLawGreatest, dnE "InvalidStay" "InvalidStay.__init__" sInvInit, dnE "UnknownGuest" "UnknownGuest.__init__" sUnkInit, dm "Party" "__init__" "Party.__init__" sPInit, dm "Party" "__add__" "Party.__add__" sPAdd, dm "Party" "__sub__" "Party.__sub__" sPSub, dm "Party" "_stay_of" "Party._stay_of" sPStayOf, dp "Party" "names" "Party.names" sPNames, dp "Party" "stays" "Party.stays" sPStays, Shd.dn "bottom_up" sBottomUp, dm "Party" "crossings" "Party.crossings" sPCross, Shd.dn "law" sLaw]
def fa07 : List (Shh.Fr → Bool) := [fun K => gloB K glo07, fun K => freeB K bltNames, fun K => keepB K keep07, fun K => decide (Shd.tabA K "bottom_up" ≠ tabOf K (codeA K (ma K (ga K "Party") "crossings"))), fun K => (Fa.int "LONGEST_NAME" 8).ok K, fun K => (Fa.int "LAST_TICK" 1000000000).ok K, fun K => errB "/claim/cut.py" K "InvalidStay" "index", fun K => errB "/claim/cut.py" K "UnknownGuest" "name", fun K => partyB K (ga K "Party"), fun K => dunB K (ga K "Party") "__init__", fun K => dunB K (ga K "Party") "__add__", fun K => dunB K (ga K "Party") "__sub__", fun K => (Fa.meth "Party" "_stay_of").ok K, fun K => propB K (ga K "Party") "names", fun K => PySem.W.keepIn K (.ref (getA K (ga K "Party") "names")), fun K => propB K (ga K "Party") "stays", fun K => PySem.W.keepIn K (.ref (getA K (ga K "Party") "stays")), fun K => (Fa.meth "Party" "crossings").ok K, fun K => opB K (ga K "Party") "__sub__" "__rsub__" "str", fun K => freeB K ["reversed"]]
def tf07 : List (Shh.Fr → Addr) := [fun K => ga K "bottom_up", fun K => ma K (ga K "Party") "crossings"]
abbrev T07 (K : Shh.Fr) : List (Addr × Str) := [(Shd.tabA K "bottom_up", qBot), (tabOf K (codeA K (ma K (ga K "Party") "crossings")), qCross)]
abbrev cs07 (K : Shh.Fr) : List (Addr × Addr) := [(codeA K (ga K "bottom_up"), Shd.tabA K "bottom_up"), (codeA K (ma K (ga K "Party") "crossings"), tabOf K (codeA K (ma K (ga K "Party") "crossings")))]
theorem facts07 {P : Program} {w : World} {K : Shh.Fr} {h : Heap} {mg : Str → Option Value} (X : K.In h) (G : h.Ns mainGlobals mg) (c : SaysS fa07 fn07 tf07 h K) (hf : P.main.file = "/claim/cut.py") (hs : (P.main.scope.names.lookup ("super" : Str)).isSome = false) :
    ∃ fd : FuncData, (∀ (s : Shared) (v : Value), BindsTo s fd ⟨[v], []⟩ [("_law_script", v)]) ∧ ∀ base : Heap, (∀ p ∈ cs07 K, LamX.TabB base mg p.1 p.2) → FnOk P w K mg base (L2.CX P w) 13 (ga K "law") fd ["_law_script"] (spLaw07 K (T07 K)) := by
  have B := Shd.blt_ok X G (c.fact 1)
  have B1 : Sh1.Blt mg := sblt fun x hx => freeB_ok X G (c.fact 1) hx
  have g : ∀ x, x ∈ glo07 → mg x = some (.ref (ga K x)) := fun x hx => gloB_ok X G (c.fact 0) hx
  have kp : ∀ x, x ∈ keep07 → PySem.W.keepIn K (.ref (ga K x)) = true := fun x hx => keepB_ok (c.fact 2) hx
  obtain ⟨tg8, g8⟩ := int_ok X G (x := "LONGEST_NAME") (i := 8) (c.fact 4)
  obtain ⟨tg9, g9⟩ := int_ok X G (x := "LAST_TICK") (i := 1000000000) (c.fact 5)
  have ECI : ErrC P K mg "InvalidStay" "index" nfInv (ga K "InvalidStay") := errC_InvalidStay (errB_ok (K := K) (file := "/claim/cut.py") (x := "InvalidStay") (fld := "index") (c.fact 6)) (c.def_ 20 (d := dnE "InvalidStay" "InvalidStay.__init__" sInvInit)) hf B.sup hs (g "InvalidStay" (by simp))
  have ECU : ErrC P K mg "UnknownGuest" "name" nfUnk (ga K "UnknownGuest") := errC_UnknownGuest (errB_ok (K := K) (file := "/claim/cut.py") (x := "UnknownGuest") (fld := "name") (c.fact 7)) (c.def_ 21 (d := dnE "UnknownGuest" "UnknownGuest.__init__" sUnkInit)) hf B.sup hs (g "UnknownGuest" (by simp))
  have PF := partyB_ok (K := K) (g "Party" (by simp)) (c.fact 8)
  have dPI : DunF K (ga K "Party") "__init__" := dunB_ok (c.fact 9)
  have DPI := c.def_ 22 (d := dm "Party" "__init__" "Party.__init__" sPInit)
  have dPA : DunF K (ga K "Party") "__add__" := dunB_ok (c.fact 10)
  have DPA := c.def_ 23 (d := dm "Party" "__add__" "Party.__add__" sPAdd)
  obtain ⟨fdPA, FPA, bPA, _⟩ := FunF.funW DPA dPA.kp
  have bPA := bPA ["self", "other"] (fun _ _ _ _ _ _ us hl => match us, hl with | [_, _], _ => rfl)
  have dPS : DunF K (ga K "Party") "__sub__" := dunB_ok (c.fact 11)
  have DPS := c.def_ 24 (d := dm "Party" "__sub__" "Party.__sub__" sPSub)
  obtain ⟨fdPS, FPS, bPS, _⟩ := FunF.funW DPS dPS.kp
  have bPS := bPS ["self", "name"] (fun _ _ _ _ _ _ us hl => match us, hl with | [_, _], _ => rfl)
  have MSO : Meth K (ga K "Party") "_stay_of" (ma K (ga K "Party") "_stay_of") := meth_ok (c.fact 12)
  obtain ⟨fdSO, FSO, bSO, _⟩ := FunF.funW (c.def_ 25 (d := dm "Party" "_stay_of" "Party._stay_of" sPStayOf)) MSO.kp
  have bSO := bSO ["self", "name"] (fun _ _ _ _ _ _ us hl => match us, hl with | [_, _], _ => rfl)
  have PNM : PropOf K (ga K "Party") "names" (ma K (ga K "Party") "names") (getA K (ga K "Party") "names") := propB_ok (c.fact 13)
  have PNMk : PySem.W.keepIn K (.ref (getA K (ga K "Party") "names")) = true := c.fact 14
  obtain ⟨fdNM, FNM, bNM, _⟩ := FunF.funW (c.def_ 26 (d := dp "Party" "names" "Party.names" sPNames)) PNMk
  have bNM := bNM ["self"] (fun _ _ _ _ _ _ us hl => match us, hl with | [_], _ => rfl)
  have PST : PropOf K (ga K "Party") "stays" (ma K (ga K "Party") "stays") (getA K (ga K "Party") "stays") := propB_ok (c.fact 15)
  have PSTk : PySem.W.keepIn K (.ref (getA K (ga K "Party") "stays")) = true := c.fact 16
  obtain ⟨fdST, FST, bST, _⟩ := FunF.funW (c.def_ 27 (d := dp "Party" "stays" "Party.stays" sPStays)) PSTk
  have bST := bST ["self"] (fun _ _ _ _ _ _ us hl => match us, hl with | [_], _ => rfl)
  have MX : Meth K (ga K "Party") "crossings" (ma K (ga K "Party") "crossings") := meth_ok (c.fact 17)
  have OS := opB_ok (K := K) (C := ga K "Party") (op := "__sub__") (rop := "__rsub__") (T := "str") (c.fact 18)
  have mRev : mg "reversed" = none := freeB_ok X G (c.fact 19) (by simp)
  obtain ⟨fd_0, F_0, b_0, _⟩ := FunF.funW (c.def_ 0 (d := Shd.dn "is_name" sIsName)) (kp "is_name" (by simp))
  have b_0 := b_0 ["word"] (fun _ _ _ _ _ _ us hl => match us, hl with | [_], _ => rfl)
  have m_0 := g "is_name" (by simp)
  have k_0 := kp "is_name" (by simp)
  obtain ⟨fd_1, F_1, b_1, _⟩ := FunF.funW (c.def_ 1 (d := Shd.dn "is_within" sIsWithin)) (kp "is_within" (by simp))
  have b_1 := b_1 ["number", "low", "high"] (fun _ _ _ _ _ _ us hl => match us, hl with | [_, _, _], _ => rfl)
  have m_1 := g "is_within" (by simp)
  have k_1 := kp "is_within" (by simp)
  obtain ⟨fd_2, F_2, b_2, _⟩ := FunF.funW (c.def_ 2 (d := Shd.dn "is_tick" sIsTick)) (kp "is_tick" (by simp))
  have b_2 := b_2 ["number"] (fun _ _ _ _ _ _ us hl => match us, hl with | [_], _ => rfl)
  have m_2 := g "is_tick" (by simp)
  have k_2 := kp "is_tick" (by simp)
  obtain ⟨fd_3, F_3, b_3, _⟩ := FunF.funW (c.def_ 3 (d := Shd.dn "is_stay" sIsStay)) (kp "is_stay" (by simp))
  have b_3 := b_3 ["name", "come", "go"] (fun _ _ _ _ _ _ us hl => match us, hl with | [_, _, _], _ => rfl)
  have m_3 := g "is_stay" (by simp)
  have k_3 := kp "is_stay" (by simp)
  obtain ⟨fd_4, F_4, b_4, _⟩ := FunF.funW (c.def_ 4 (d := Shd.dn "lifted_from" sLiftedFrom)) (kp "lifted_from" (by simp))
  have b_4 := b_4 ["stays", "taker"] (fun _ _ _ _ _ _ us hl => match us, hl with | [_, _], _ => rfl)
  have m_4 := g "lifted_from" (by simp)
  have k_4 := kp "lifted_from" (by simp)
  obtain ⟨fd_5, F_5, b_5, _⟩ := FunF.funW (c.def_ 5 (d := Shd.dn "_check_stays" sCheck)) (kp "_check_stays" (by simp))
  have b_5 := b_5 ["stays", "most"] (fun _ _ _ _ _ _ us hl => match us, hl with | [_, _], _ => rfl)
  have m_5 := g "_check_stays" (by simp)
  have k_5 := kp "_check_stays" (by simp)
  obtain ⟨fd_6, F_6, b_6, _⟩ := FunF.funW (c.def_ 6 (d := Shd.dn "_crossing_names" sCrossingNames)) (kp "_crossing_names" (by simp))
  have b_6 := b_6 ["party"] (fun _ _ _ _ _ _ us hl => match us, hl with | [_], _ => rfl)
  have m_6 := g "_crossing_names" (by simp)
  have k_6 := kp "_crossing_names" (by simp)
  obtain ⟨fd_7, F_7, b_7, _⟩ := FunF.funW (c.def_ 7 (d := Shd.dn "_goings_by_event" sGoingsByEvent)) (kp "_goings_by_event" (by simp))
  have b_7 := b_7 ["stays"] (fun _ _ _ _ _ _ us hl => match us, hl with | [_], _ => rfl)
  have m_7 := g "_goings_by_event" (by simp)
  have k_7 := kp "_goings_by_event" (by simp)
  obtain ⟨fd_8, F_8, b_8, _⟩ := FunF.funW (c.def_ 8 (d := Shd.dn "quiet_count" sQuietCount)) (kp "quiet_count" (by simp))
  have b_8 := b_8 ["stays"] (fun _ _ _ _ _ _ us hl => match us, hl with | [_], _ => rfl)
  have m_8 := g "quiet_count" (by simp)
  have k_8 := kp "quiet_count" (by simp)
  obtain ⟨fd_9, F_9, b_9, _⟩ := FunF.funW (c.def_ 9 (d := Shd.dn "quiet_guests" sQuietGuests)) (kp "quiet_guests" (by simp))
  have b_9 := b_9 ["party"] (fun _ _ _ _ _ _ us hl => match us, hl with | [_], _ => rfl)
  have m_9 := g "quiet_guests" (by simp)
  have k_9 := kp "quiet_guests" (by simp)
  obtain ⟨fd_10, F_10, b_10, _⟩ := FunF.funW (c.def_ 10 (d := Shd.dn "all_lifting" sAllLifting)) (kp "all_lifting" (by simp))
  have b_10 := b_10 ["party"] (fun _ _ _ _ _ _ us hl => match us, hl with | [_], _ => rfl)
  have m_10 := g "all_lifting" (by simp)
  have k_10 := kp "all_lifting" (by simp)
  obtain ⟨fd_11, F_11, b_11, _⟩ := FunF.funW (c.def_ 11 (d := Shd.dn "_law_start" sStart)) (kp "_law_start" (by simp))
  have b_11 := b_11 ["_law_script"] (fun _ _ _ _ _ _ us hl => match us, hl with | [_], _ => rfl)
  have m_11 := g "_law_start" (by simp)
  have k_11 := kp "_law_start" (by simp)
  obtain ⟨fd_12, F_12, b_12, _⟩ := FunF.funW (c.def_ 12 (d := Shd.dn "_law_drawn" sDrawn)) (kp "_law_drawn" (by simp))
  have b_12 := b_12 ["_law_state", "_law_count"] (fun _ _ _ _ _ _ us hl => match us, hl with | [_, _], _ => rfl)
  have m_12 := g "_law_drawn" (by simp)
  have k_12 := kp "_law_drawn" (by simp)
  obtain ⟨fd_13, F_13, b_13, _⟩ := FunF.funW (c.def_ 13 (d := Shd.dn "_law_same" sSame)) (kp "_law_same" (by simp))
  have b_13 := b_13 ["_law_result", "_law_expected"] (fun _ _ _ _ _ _ us hl => match us, hl with | [_, _], _ => rfl)
  have m_13 := g "_law_same" (by simp)
  have k_13 := kp "_law_same" (by simp)
  obtain ⟨fd_14, F_14, b_14, _⟩ := FunF.funW (c.def_ 14 (d := Shd.dn "_law_rows" sRows)) (kp "_law_rows" (by simp))
  have b_14 := b_14 ["_law_state", "_law_most", "_law_high"] (fun _ _ _ _ _ _ us hl => match us, hl with | [_, _, _], _ => rfl)
  have m_14 := g "_law_rows" (by simp)
  have k_14 := kp "_law_rows" (by simp)
  obtain ⟨fd_15, F_15, b_15, _⟩ := FunF.funW (c.def_ 15 (d := Shd.dn "_law_party" sLawParty)) (kp "_law_party" (by simp))
  have b_15 := b_15 ["_law_rows_here"] (fun _ _ _ _ _ _ us hl => match us, hl with | [_], _ => rfl)
  have m_15 := g "_law_party" (by simp)
  have k_15 := kp "_law_party" (by simp)
  obtain ⟨fd_16, F_16, b_16, _⟩ := FunF.funW (c.def_ 16 (d := Shd.dn "_law_played" sLawPlayed)) (kp "_law_played" (by simp))
  have b_16 := b_16 ["_law_rows_here"] (fun _ _ _ _ _ _ us hl => match us, hl with | [_], _ => rfl)
  have m_16 := g "_law_played" (by simp)
  have k_16 := kp "_law_played" (by simp)
  obtain ⟨fd_17, F_17, b_17, _⟩ := FunF.funW (c.def_ 17 (d := Shd.dn "_law_cross" sLawCross)) (kp "_law_cross" (by simp))
  have b_17 := b_17 ["_law_rows_here"] (fun _ _ _ _ _ _ us hl => match us, hl with | [_], _ => rfl)
  have m_17 := g "_law_cross" (by simp)
  have k_17 := kp "_law_cross" (by simp)
  obtain ⟨fd_18, F_18, b_18, _⟩ := FunF.funW (c.def_ 18 (d := Shd.dn "_law_is_quiet" sLawIsQuiet)) (kp "_law_is_quiet" (by simp))
  have b_18 := b_18 ["_law_near", "_law_some"] (fun _ _ _ _ _ _ us hl => match us, hl with | [_, _], _ => rfl)
  have m_18 := g "_law_is_quiet" (by simp)
  have k_18 := kp "_law_is_quiet" (by simp)
  obtain ⟨fd_19, F_19, b_19, _⟩ := FunF.funW (c.def_ 19 (d := Shd.dn "_law_greatest" sLawGreatest)) (kp "_law_greatest" (by simp))
  have b_19 := b_19 ["_law_near", "_law_names"] (fun _ _ _ _ _ _ us hl => match us, hl with | [_, _], _ => rfl)
  have m_19 := g "_law_greatest" (by simp)
  have k_19 := kp "_law_greatest" (by simp)
  have ne01 : Shd.tabA K "bottom_up" ≠ tabOf K (codeA K (ma K (ga K "Party") "crossings")) := of_decide_eq_true (c.fact 3)
  obtain ⟨fdT0, FT0, bT0, _⟩ := FunF.funL9 (c.def_ 28 (d := Shd.dn "bottom_up" sBottomUp))
  have bT0 := bT0 ["stays"] (fun _ _ _ _ _ _ us hl => match us, hl with | [_], _ => rfl)
  have mT0 := g "bottom_up" (by simp)
  have kT0 := kp "bottom_up" (by simp)
  obtain ⟨fdT1, FT1, bT1, _⟩ := FunF.funL9 (c.def_ 29 (d := dm "Party" "crossings" "Party.crossings" sPCross))
  have bT1 := bT1 ["self"] (fun _ _ _ _ _ _ us hl => match us, hl with | [_], _ => rfl)
  obtain ⟨fdL, FL, _, bL⟩ := FunF.funW (c.def_ 30 (d := Shd.dn "law" sLaw)) (kp "law" (by simp))
  refine ⟨fdL, fun s v => bL ["_law_script"] (fun _ _ _ _ _ _ us hl => match us, hl with | [_], _ => rfl) s [v] rfl, fun base hT => ?_⟩
  have TT0 : LamX.TabB base mg (codeA K (ga K "bottom_up")) (Shd.tabA K "bottom_up") := hT (codeA K (ga K "bottom_up"), Shd.tabA K "bottom_up") (by simp)
  have hT0 : (Shd.tabA K "bottom_up", qBot) ∈ T07 K := by simp
  have uT0 : ∀ p ∈ T07 K, p.1 = Shd.tabA K "bottom_up" → p.2 = qBot := fun p hp e => by
    rcases List.mem_cons.mp hp with rfl | hp
    · rfl
    rcases List.mem_cons.mp hp with rfl | hp
    · exact absurd e.symm ne01
    cases hp
  have TT1 : LamX.TabB base mg (codeA K (ma K (ga K "Party") "crossings")) (tabOf K (codeA K (ma K (ga K "Party") "crossings"))) := hT (codeA K (ma K (ga K "Party") "crossings"), tabOf K (codeA K (ma K (ga K "Party") "crossings"))) (by simp)
  have hT1 : (tabOf K (codeA K (ma K (ga K "Party") "crossings")), qCross) ∈ T07 K := by simp
  have uT1 : ∀ p ∈ T07 K, p.1 = tabOf K (codeA K (ma K (ga K "Party") "crossings")) → p.2 = qCross := fun p hp e => by
    rcases List.mem_cons.mp hp with rfl | hp
    · exact absurd e ne01
    rcases List.mem_cons.mp hp with rfl | hp
    · rfl
    cases hp
  have M : Mk K (ga K "Party") (ma K (ga K "Party") "__init__") := dPI.mkr PF.makes PF.kp
  have G_0 : FnOk P w K mg base CX0 1 _ _ _ _ := ok_isName F_0 B1 g8
  have G_1 : FnOk P w K mg base CX0 1 _ _ _ _ := Sh1.ok_isWithin F_1 B1
  have G_2 : FnOk P w K mg base CX0 2 _ _ _ _ := ok_isTick F_2 g9 G_1 m_1 k_1 b_1
  have G_3 : FnOk P w K mg base CX0 3 _ _ _ _ := ok_isStay F_3 G_0 m_0 k_0 b_0 G_2 m_2 k_2 b_2
  have G_5 : FnOk P w K mg base (L2.CX P w) 4 _ _ _ _ := ok_check F_5 B1 ECI G_3 m_3 k_3 b_3
  have GI : FnR P w K mg base (L2.CX P w) 5 _ (spPNew (ga K "Party") (ga K "InvalidStay")) := ok_pinit (funS07 DPI) PF.pc G_5 m_5 k_5 b_5
  have GB : FnOk P w K mg base CX0 5 _ _ _ _ := ok_bottom (T := T07 K) FT0 B TT0 hT0 uT0
  have G_4 : FnOk P w K mg base CX0 6 _ _ _ _ := ok_lifted (T := T07 K) F_4 GB mT0 kT0 bT0
  have GLN : FnOk P w K mg base CX0 6 _ _ _ _ := ok_liftedN (T := T07 K) F_4 GB mT0 kT0 bT0
  have GX : GFn P w K mg base 8 _ _ _ _ := ok_cross (T := T07 K) FT1 B PF.pc TT1 hT1 uT1 GB mT0 kT0 bT0 G_4 m_4 k_4 b_4
  have GXQ : GFnQ P w K mg base 8 _ _ _ _ := ok_crossQ (T := T07 K) FT1 B PF.pc TT1 hT1 uT1 GB mT0 kT0 bT0 GLN m_4 k_4 b_4
  have G_10 : FnOk P w K mg base (L2.CX P w) 12 _ _ _ _ := ok_all (T := T07 K) F_10 B PF.pc GX MX bT1
  have GNM : FnOk P w K mg base CX0 1 _ _ _ _ := ok_pnames FNM B1 PF.pc
  have GST : FnOk P w K mg base CX0 1 _ _ _ _ := ok_pstays FST PF.pc
  have GSO : FnOk P w K mg base (L2.CX P w) 3 _ _ _ _ := ok_stayOf FSO PF.pc ECU
  have GSub : FnOk P w K mg base (L2.CX P w) 7 _ _ _ _ := ok_psub FPS PF.pc GSO MSO bSO M GI
  have G_6 : FnOk P w K mg base CX0 10 _ _ _ _ := ok_near (T := T07 K) F_6 PF.pc GNM PNM bNM GXQ MX bT1
  have G_7 : FnOk P w K mg base CX0 6 _ _ _ _ := ok_goings (T := T07 K) F_7 B GB mT0 kT0 bT0
  have G_8 : FnOk P w K mg base CX0 7 _ _ _ _ := ok_quiet (T := T07 K) F_8 B mRev G_7 m_7 k_7 b_7
  have G_9 : FnOk P w K mg base CX0 11 _ _ _ _ := ok_quietG (T := T07 K) F_9 B PF.pc G_6 m_6 k_6 b_6 G_8 m_8 k_8 b_8 GST PST bST
  have GA : FnOk P w K mg base (L2.CX P w) 7 _ _ _ _ := ok_padd FPA PF.pc M GI
  have G_12 : FnOk P w K mg base CX0 1 _ _ _ _ := ok_drawn F_12 B1
  have G_11 : FnOk P w K mg base CX0 1 _ _ _ _ := ok_start F_11
  have G_13 := fun n => Smm.ok_same (P := P) (w := w) (base := base) F_13 B m_13 b_13 n
  have G_14 : FnOk P w K mg base CX0 2 _ _ _ _ := ok_rows F_14 B1 G_12 m_12 k_12 b_12
  have G_15 : FnOk P w K mg base (L2.CX P w) 8 _ _ _ _ := ok_party F_15 PF.pc M GI PF.self dPA.at_ dPA.isF GA bPA
  have G_16 : FnOk P w K mg base CX0 1 _ _ _ _ := Pq.ok_played F_16 B
  have G_17 : FnOk P w K mg base CX0 2 _ _ _ _ := ok_lawNear F_17 B G_16 m_16 k_16 b_16
  have G_18 : FnOk P w K mg base CX0 1 _ _ _ _ := ok_isQuiet F_18
  have G_19 : FnOk P w K mg base CX0 2 _ _ _ _ := ok_greatest F_19 B G_18 m_18 k_18 b_18
  exact ok_law07 (C := (ga K "Party")) (CU := ga K "UnknownGuest") FL ⟨B, PF.pc, PF.self, ⟨_, _, G_11, m_11, k_11, b_11⟩, ⟨_, _, G_12, m_12, k_12, b_12⟩, ⟨_, _, G_14, m_14, k_14, b_14⟩, ⟨_, _, G_15, m_15, k_15, b_15⟩, ⟨_, _, G_17, m_17, k_17, b_17⟩, ⟨_, _, G_18, m_18, k_18, b_18⟩, ⟨_, _, G_19, m_19, k_19, b_19⟩, ⟨_, _, G_13, m_13, k_13, b_13⟩, ⟨_, _, G_9, m_9, k_9, b_9⟩, ⟨_, _, G_8, m_8, k_8, b_8⟩, ⟨_, _, G_10, m_10, k_10, b_10⟩, ⟨_, _, _, GST, PST, bST⟩, ⟨_, _, GSub, OS, bPS⟩⟩
end Qu
set_option Elab.async false
set_option linter.all false
set_option maxRecDepth 100000
set_option maxHeartbeats 0
namespace Qu
open PySem PySem.Spec PyProof.Rows L2 Sho He Shh Shd
abbrev R07 : PySem.W.OpenRow := PySem.W.OpenLaw.row PySem.Challenge.rw_shoepile_k07_quiet_guests
abbrev hk07 : PySem.W.Hook := hookS 6 fa07 fn07 tf07
def ob07 (s : PySem.W.SharedT) : Shh.AlS := obsS 6 fa07 fn07 tf07 (HandSHeadRun.getT s)
theorem ob07_eq (s : PySem.W.SharedT) : ob07 s = hk07.obs s.abs := obsS_eq (HandSHeadRun.getT_eq s)
def looseA : List Str := ["_wall", "PartyError", "InvalidStay", "UnknownGuest", "LAST_TICK", "LONGEST_NAME", "is_name", "is_within", "is_tick", "is_stay", "bottom_up", "lifted_from", "_crossing_names", "_goings_by_event"]
def looseB : List Str := ["quiet_count", "quiet_guests", "_check_stays", "Party", "all_lifting", "_law_start", "_law_drawn", "_law_same", "_law_rows", "_law_party", "_law_played", "_law_cross", "_law_is_quiet", "_law_greatest"]
def loose07 : List Str := looseA ++ looseB
theorem run07 (w : World) : HandSHeadRun.RunEq R07 (PySem.W.view R07.prog [33]) hk07 ob07 20000 loose07 w := by
  intro os
  kernel_rfl
theorem at07 {w : World} {K : Shh.Fr} {h : Heap} {mg : Str → Option Value} {fa : Addr} (KX : K.In h) (G : h.Ns mainGlobals mg) (c : SaysS fa07 fn07 tf07 h K) (hmg : mg "law" = some (.ref fa)) :
    LamX.LawAtS PySem.Challenge.rw_shoepile_k07_quiet_guests w K (L2.CX PySem.Challenge.rw_shoepile_k07_quiet_guests.prog w) 13 63 "_law_script" mg fa h := by
  obtain ⟨fd, hb, hF⟩ := facts07 (P := PySem.Challenge.rw_shoepile_k07_quiet_guests.prog) (w := w) KX G c rfl (by decide +kernel)
  have e : fa = ga K "law" := by
    have q := hmg.symm.trans (gloB_ok KX G (xs := glo07) (c.fact 0) (x := "law") (by simp))
    injection q with q
    injection q
  subst e
  have t0 : (fun K => ga K "bottom_up") ∈ tf07 := List.mem_cons_self
  have t1 : (fun K => ma K (ga K "Party") "crossings") ∈ tf07 := List.mem_cons_of_mem _ (List.mem_cons_self)
  refine ⟨fd, cs07 K, spLaw07 K (T07 K), ?_, ?_, ?_, hb, fun H a ns hl _ ht hS => ?_, fun base _ _ hT => hF base hT⟩
  · exact fun p hp => by
      rcases List.mem_cons.mp hp with rfl | hp
      · exact c.empty _ t0
      rcases List.mem_cons.mp hp with rfl | hp
      · exact c.empty _ t1
      cases hp
  · exact fun p hp => by
      rcases List.mem_cons.mp hp with rfl | hp
      · exact c.out _ t0
      rcases List.mem_cons.mp hp with rfl | hp
      · exact c.out _ t1
      cases hp
  · exact fun p hp => by
      rcases List.mem_cons.mp hp with rfl | hp
      · exact PySem.W.codeHd_of_K KX (c.hd _ t0)
      rcases List.mem_cons.mp hp with rfl | hp
      · exact PySem.W.codeHd_of_K KX (c.hd _ t1)
      cases hp
  · refine ⟨a, ns, rfl, hS, hl, ?_, fun _ => rfl⟩
    exact fun p hp => by
      rcases List.mem_cons.mp hp with rfl | hp
      · exact LamX.TabS.nil (ht _ List.mem_cons_self)
      rcases List.mem_cons.mp hp with rfl | hp
      · exact LamX.TabS.nil (ht _ (List.mem_cons_of_mem _ List.mem_cons_self))
      cases hp
end Qu
open PySem PySem.W PySem.Calls PyProof.Rows
theorem PySem.Challenge.cw_shoepile_k07_quiet_guests_holds : PySem.Challenge.rw_shoepile_k07_quiet_guests.Holds := by
  w_on; o_law
  refine HandSHeadRun.head_any (r := OpenLaw.row PySem.Challenge.rw_shoepile_k07_quiet_guests) (q := view (OpenLaw.row PySem.Challenge.rw_shoepile_k07_quiet_guests).prog [33]) (H := Qu.hk07) (ob := Qu.ob07) (M := 20000) (loose := Qu.loose07) (d := HandSHeadRun.topDef (OpenLaw.row PySem.Challenge.rw_shoepile_k07_quiet_guests).prog 33) (kwd := []) Qu.ob07_eq
    (by kernel_rfl) (fun s => by kernel_rfl) Qu.run07 (by kernel_rfl) (by kernel_rfl) (by kernel_rfl) (by rfl) (by first | assumption | decide +kernel) (by decide +kernel) ⟨rfl, rfl, rfl, rfl, rfl, by decide +kernel⟩ ?hw ?hc
  case hw => w_witness2
  case hc =>
    refine LamX.walk_ofTsE (l := PySem.Challenge.rw_shoepile_k07_quiet_guests) (n := 63) (k := 13) (x := "_law_script") (CX := fun w => L2.CX PySem.Challenge.rw_shoepile_k07_quiet_guests.prog w) rfl (by decide) (by kernel_rfl) ⟨rfl, by decide, by decide⟩ ?F ?hCX
    case hCX =>
      rintro w H s e s' ⟨a, B, H', cls, d, _, _, _, _, _, _, _, z⟩
      exact z
    case F =>
      intro w mg fa h Y G hmg0
      obtain ⟨K, KX, c⟩ := Y
      have hmg : mg ("law" : PySem.Str) = some (.ref fa) := by
        have e : (HandSHeadRun.topDef (OpenLaw.row PySem.Challenge.rw_shoepile_k07_quiet_guests).prog 33).name = ("law" : PySem.Str) := by kernel_rfl
        rw [← e]
        exact hmg0
      exact ⟨K, KX, Qu.at07 KX G c hmg⟩
