import PyProof.Rows.All
import Wide.All
import OpenK.AllK
import Wide.FinOn
import KE.KStateDown
import HandS.ForExc
import HandS.Defaults
import HandS.Head0
import HandS.Head1
import HandS.Head2
import HandS.HeadHook1
import HandS.HeadHook2
import HandS.HeadHook3
import HandS.HeadHook4
import HandS.HeadNt
import HandS.HeadWalk
import HandS.EndTab
import HandS.Star
import HandS.Property
import HandS.ExcField
import KE.KExcLine
import KE.KSuper
import HandS.ForMost
import HandS.FStr
import HandS.ExcInit
import HandS.ExcOwn
import HandS.Nested
import HandS.MakeKwOnly
import HandS.More
import HandS.Lambda
import HandS.TryMany
import HandS.Walk
import HandS.TupAny
import HandS.IsInst
import HandS.ClsMeth
import HandS.DeepEq
import HandS.Words
import KE.GoesMore
import PyProof.EnumMake
import PyProof.EnumFor
import PyProof.Draws
import HandS.Small
import HandS.Iter
import HandS.DictComp
import HandS.DictTup
import HandS.Dict
import HandS.SortKw
import KE.KSortKeySt
import HandS.Deep
import HandS.Style
import KE.KTupTruth
import OpenK.KOps
import HandS.RaiseMore
import PyProof.GenRules
import HandS.GenBody
import HandS.GenYield
import HandS.GenCall
import HandS.GenList
import HandS.Comp
import HandS.Rev
import HandS.SetFor
import HandS.Strs
import HandS.TupSets
import HandS.Set
import HandS.SortInts
import PyProof.ListStr
import HandS.SetKeys
import HandS.Text
import PyProof.Rows.SortShellAny
import PyProof.SetRoads
import HandS.List
import KE.KRevSl
import KE.KDictDisplayH
import KE.DataMinKey
import PyProof.WalkInts
import HandS.LawCells
import HandS.Conv
import PySem.Challenge.RW_shoepile_k04_two_piles_or_an_odd_ring
set_option Elab.async false
set_option linter.all false
set_option maxRecDepth 100000
set_option maxHeartbeats 4000000
/-! Own errors over ValueError: made with keywords, their __init__ with super(). -/
namespace ShX
open PySem PySem.W PySem.HandSPX
open Builtin Builtin.ObjectAttr
section
variable {M : Model} {prog : Program} {w : World} {A : Around} {E : Value → Shared → Prop} {R : Result → Shared → Prop}
variable {h : Heap} {g : Array GenState} {d : Drawn} {t : Nat} {os : OsState}
variable {nm q : Str} {C N : Addr} {bs bm bmB : List Value} {hdct : Bool} {sn : List Str} {sub : List Value} {ab : Bool} {col : Option Bool} {dd : Option Addr} {k0 k1 k2 k3 k5 : Option Value} {B newId initId : String}

theorem chk_new (F : ExcBaseFacts B newId initId bmB) (hT : ∀ X : String, bm.contains (.type X) = bmB.contains (.type X)) {kw : List (Str × Value)} {Q : Unit → Shared → Prop}
    (hC : h.get? C = some (excClassObj nm q C N bs bm hdct sn sub ab col dd k0 k1 k2 k3 k5 newId)) (hq : Q () ⟨h, g, d, t, os⟩) :
    wpAny M A (checkBuiltinCall newId ⟨[.ref C], kw⟩) Q E ⟨h, g, d, t, os⟩ := by
  have has : (Value.ref C :: bm).contains (.type B) = true := by rw [List.contains_cons, hT, F.hasB, Bool.or_true]
  have star := F.noStar
  simp only [checkBuiltinCall, F.newKind, F.newSplit, F.newRow]
  repeat (first
    | refine wpAny_loadPart_at hC ?_
    | (refine wpAny_isSubtype_exc hC ?_; rw [has])
    | refine wpAny_staticBase_exc hC ?_
    | refine wpAny_madeBy_exc hC ?_
    | simp only [bne_self_eq_false, Bool.false_eq_true, if_false]
    | wp_step)
  exact hq

/-- the new object: its args are none, the keywords go to __init__ alone -/
theorem new_kw (F : ExcBaseFacts B newId initId bmB) (hT : ∀ X : String, bm.contains (.type X) = bmB.contains (.type X)) {kw : List (Str × Value)}
    (hC : h.get? C = some (excClassObj nm q C N bs bm hdct sn sub ab col dd k0 k1 k2 k3 k5 newId))
    (hq : R (.ok (.ret (.ref (h.objs.size + 1)))) ⟨(h.push (kdv_tup [])).push (excO C h.objs.size), g, d, t, os⟩) :
    codeAny (model prog w) A (.builtin newId ⟨[.ref C], kw⟩) R ⟨h, g, d, t, os⟩ := by
  have ends := F.ends
  have has : ∀ Y : String, (Value.ref C :: bm).contains (.type Y) = bmB.contains (.type Y) := fun Y => by rw [List.contains_cons, hT]; rfl
  have yes : (Value.ref C :: bm).contains (.type B) = true := (has _).trans F.hasB
  have no1 : (Value.ref C :: bm).contains (.type "AttributeError") = false := (has _).trans F.noAttr
  have no2 : (Value.ref C :: bm).contains (.type "NameError") = false := (has _).trans F.noName
  refine codeAny_builtinAt F.entry ?_
  unfold Builtin.«BaseException.__new__»
  refine wpAt_bind ?_
  show wpAt _ _ _ (stack >>= _) _ _ _
  refine wpAt_bind (wpAt_stack fun p below => wpAt_of_wpAny ?_)
  wp_walk
  refine wpAt_of_wpAny ?_
  rw [F.owner]
  repeat (first
    | with_reducible refine wpAny_madeHere_exc F.canon hC ?_
    | with_reducible refine wpAny_loadPart_at hC ?_
    | (with_reducible refine wpAny_isSubtype_exc hC ?_; first | rw [yes] | rw [no1] | rw [no2])
    | wp_step)
  show R _ _
  rw [Heap.size_push]
  exact hq

theorem tcall_kw (F : ExcBaseFacts B newId initId bmB) (hT : ∀ X : String, bm.contains (.type X) = bmB.contains (.type X)) {kw : List (Str × Value)} {fI : Addr} {Q : Fin → Shared → Prop}
    (hC : h.get? C = some (excClassObj nm q C N bs bm hdct sn sub ab col dd k0 k1 k2 k3 k5 newId))
    (hi : Looks (model prog w) h (typeLookup (.ref C) "__init__") (some (.ref fI))) (hb : ∀ self, Looks (model prog w) h (bindSpecial (.ref fI) self) (.ref fI, [self]))
    (hq : codeAny (model prog w) A (.call (.ref fI) ⟨[.ref (h.objs.size + 1)], kw⟩)
      (fun r s' => match r with
        | .ok (.ret v) => v = .none ∧ Q (.done (.ret (.ref (h.objs.size + 1)))) s'
        | .ok _ => False
        | .error e => E e s')
      ⟨(h.push (kdv_tup [])).push (excO C h.objs.size), g, d, t, os⟩) :
    wpAny (model prog w) A (Builtin.«type.__call__» ⟨[.ref C], kw⟩) Q E ⟨h, g, d, t, os⟩ := by
  repeat (first | with_reducible refine wpAny_loadPart_at hC ?_ | with_reducible refine wpAny_madeBy_exc hC ?_ | wp_step)
  refine codeAny_call_builtin_code (Code.quiet_builtin _ F.quiet) (chk_new F hT hC ?_)
  refine new_kw F hT hC ?_
  show wpAny _ _ _ _ _ _
  have kp : ∀ b o, h.get? b = some o → ((h.push (kdv_tup [])).push (excO C h.objs.size)).get? b = some o := fun b o e => Heap.get?_push_of_some _ (Heap.get?_push_of_some _ e)
  have cls1 := kp _ _ hC
  have new1 : ((h.push (kdv_tup [])).push (excO C h.objs.size)).get? (h.objs.size + 1) = some (excO C h.objs.size) := by heap_get
  have self1 : (Value.ref C :: bm).contains (.ref C) = true := by simp
  have look1 := hi.keeps kp
  have bind1 := (hb (.ref (h.objs.size + 1))).keeps kp
  unfold isInstance
  repeat (first | with_reducible refine wpAny_loadPart_at new1 ?_ | (with_reducible refine wpAny_isSubtype_exc cls1 ?_; rw [self1]) | wp_step)
  show wpAny _ _ (typeLookup (.ref C) _) _ _ _
  refine look1.at ?_
  refine wpAny_holding (wpAny_bind (bind1.at ?_))
  refine wpAny_bind (wpAny_call (codeAny_mono hq fun r s' z => ?_))
  rcases r with e | (v | _ | _ | _) <;> first | exact z | exact z.elim | skip
  obtain ⟨rfl, z⟩ := z
  first
    | exact wpAny_pure (wpAny_pure z)
    | (wp_walk; exact z)

theorem chk_tcall {kw : List (Str × Value)} {Q : Unit → Shared → Prop} (hC : h.get? C = some (excClassObj nm q C N bs bm hdct sn sub ab col dd k0 k1 k2 k3 k5 newId))
    (hq : Q () ⟨h, g, d, t, os⟩) : wpAny M A (checkBuiltinCall "type.__call__" ⟨[.ref C], kw⟩) Q E ⟨h, g, d, t, os⟩ := by
  have f3 := tc_sub
  have hT : (⟨h, g, d, t, os⟩ : Shared).TypeIs (.ref C) "type" := ⟨_, hC, rfl⟩
  simp only [checkBuiltinCall, tc_kind, tc_split]
  repeat (any_goals (first | assumption | with_reducible refine wpAny_loadPart_at hC ?_ | with_reducible refine wpAny_onRaise ?_ | with_reducible refine wpAny_map ?_ | wp_step))

theorem call_kw (F : ExcBaseFacts B newId initId bmB) (hT : ∀ X : String, bm.contains (.type X) = bmB.contains (.type X)) {kw : List (Str × Value)} {fI : Addr}
    (hC : h.get? C = some (excClassObj nm q C N bs bm hdct sn sub ab col dd k0 k1 k2 k3 k5 newId))
    (hi : Looks (model prog w) h (typeLookup (.ref C) "__init__") (some (.ref fI))) (hb : ∀ self, Looks (model prog w) h (bindSpecial (.ref fI) self) (.ref fI, [self]))
    (hq : codeAny (model prog w) (A.under (.builtin "type.__call__" ⟨[.ref C], kw⟩)) (.call (.ref fI) ⟨[.ref (h.objs.size + 1)], kw⟩) (InitBack (h.objs.size + 1) R)
      ⟨(h.push (kdv_tup [])).push (excO C h.objs.size), g, d, t, os⟩) :
    codeAny (model prog w) A (.call (.ref C) ⟨[], kw⟩) R ⟨h, g, d, t, os⟩ := by
  have f1 := tc_lookup
  have f2 := tc_bind (.ref C)
  have hTy : (⟨h, g, d, t, os⟩ : Shared).TypeIs (.ref C) "type" := ⟨_, hC, rfl⟩
  refine codeAny_of_tree ?_
  show wpAny _ _ (callAny (.ref C) _) _ _ _
  repeat (any_goals (first | assumption | with_reducible refine wpAny_loadPart_at hC ?_ | wp_step))
  refine ⟨rfl, ?_⟩
  refine codeAny_call_builtin_at (Code.quiet_builtin _ (by decide +kernel)) entry_typeCall (chk_tcall hC (tcall_kw F hT hC hi hb ?_))
  refine codeAny_mono hq fun r s' z => ?_
  rcases r with e | (v | _ | _ | _) <;> exact z
end
end ShX

namespace ShX
open PySem PySem.W PySem.Calls PyProof.Rows PySem.HandSPX
section
variable {prog : Program} {w : World} {A : Around} {E : Value → Shared → Prop} {h : Heap} {g : Array GenState} {d : Drawn} {t : Nat} {os : OsState}
variable {nm q : Str} {C N : Addr} {bs bm : List Value} {hdct : Bool} {sn : List Str} {sub : List Value} {ab : Bool} {col : Option Bool} {dd : Option Addr} {k0 k1 k2 k3 k5 : Option Value}
abbrev veI : String := "ValueError.__init__"
/-- ValueError's __init__, bound to the exception at e, called -/
theorem call_mw {u e t0 : Addr} {rest : List Value} {Q : Value → Shared → Prop}
    (hC : h.get? C = some (excClassObj nm q C N bs bm hdct sn sub ab col dd k0 k1 k2 k3 k5 "ValueError.__new__")) (he : h.get? e = some (excO C t0))
    (hu : h.get? u = some (kxs_mw veI e)) (hz : rest.length ≤ sizeLine)
    (hq : ∀ h' t1, (∀ b o, b ≠ e → h.get? b = some o → h'.get? b = some o) → h'.get? e = some (excO C t1) → Q .none ⟨h', g, d, t, os⟩) :
    wpAny (model prog w) A (call (.ref u) rest) Q E ⟨h, g, d, t, os⟩ := by
  refine wpAny_call (codeAny_of_tree ?_)
  show wpAny _ A.in1 (callAny (.ref u) ⟨rest, []⟩) _ _ _
  simp only [callAny]
  refine wpAny_bind (wpAny_load hu ?_)
  have yes : (Value.type "method-wrapper" == Value.type "method" || Value.type "method-wrapper" == Value.type "builtin_function_or_method" || Value.type "method-wrapper" == Value.type "method-wrapper") = true := by decide
  simp only [kxs_mw, yes, if_true]
  refine KFB.if_so (by decide) ?_
  refine wpAny_bind (check_bound_init F.excBase_ValueError.toExcCallFacts hC he rfl ?_)
  refine wpAny_bind (wpAny_pure (wpAny_pure ?_))
  refine ⟨plainId_quiet F.excBase_ValueError.init.plain _, codeAny_builtin F.excBase_ValueError.initEntry ?_⟩
  exact exc_init_tree (cls := .ref C) (t0 := t0) (dv := none) (c2 := .none) (c3 := .none) (b4 := .bool false) he hz fun h' k e' _ => hq h' _ k e'
end
end ShX
set_option Elab.async false
set_option linter.all false
set_option maxRecDepth 100000
set_option maxHeartbeats 4000000

namespace Sho
open PySem PySem.Spec PyProof.Rows L2 NdefX
/-- what the written part says of an own error's __init__ at f that says super() -/
structure SupTxt (P : Program) (K : PySem.W.Frag) (mg : Str → Option Value) (F : NF) (f cc D : Addr) : Prop where
  fn : ∃ (oc : Value) (od : Option Addr) (doc pm : Value) (an : Option Addr) (ct : Value) (osl : Array (Option Value)),
    K.lookup f = some ⟨oc, od, .func (PySem.W.ksFn F.name F.qual F.params F.body F.scope .none .none doc pm an (.ref F.c) ct cc), osl⟩
  cd : PySem.W.codeIn K (.ref F.c) F.qual = true
  cell : ∃ (cl : Value) (cld : Option Addr) (csl : Array (Option Value)), K.lookup cc = some ⟨cl, cld, .cell (some (.ref D)), csl⟩
  cls : F.cl = [(("__class__" : Str), cc)]
  file : ∃ (oc : Value) (od : Option Addr) (vs : Array Value) (sl : Array (Option Value)) (fl : Str) (tf : Tok), K.lookup F.c = some ⟨oc, od, .fields vs, sl⟩ ∧ vs[2]? = some (.str fl tf) ∧ ((P.main.file : Str) == fl) = true
  first : ∃ ar : Arg, (F.params.posonlyargs ++ F.params.args).head? = some ar ∧ ar.arg = ("self" : Str)
  sup : mg "super" = none
  top : (P.main.scope.names.lookup ("super" : Str)).isSome = false
  ks : F.scope.names.lookup ("super" : Str) = some .globalImplicit
  kc : F.scope.names.lookup ("__class__" : Str) = some .free
  kse : F.scope.names.lookup ("self" : Str) = some .local
  isD : PySem.W.isClsIn K D = true
  opq : PySem.W.nsIn K cStatics "thirdparty.any" = some none
/-- the context's class: C's __init__ from D on is ValueError's -/
structure SupCls (K : PySem.W.Frag) (C D : Addr) : Prop where
  o : OexC K C
  sub : PySem.W.mroIn K C (.ref D) = some true
  nxt : PySem.W.ks_superIn K C D "__init__" = some (some (.builtin ShX.veI))
  ve : PySem.W.subIn K (.ref C) (.type "ValueError") = some true
section
variable {X : Cx} {pins : List (Addr × Obj)} {σ : L2.St} {H : Hp} {s : Shared} {F : NF} {f cc D a C : Addr}
theorem cls_at {K : PySem.W.Frag} {h : Heap} {D : Addr} (X : K.In h) (i : PySem.W.isClsIn K D = true) : ∃ (o : Obj) (cd : ClassData), h.get? D = some o ∧ o.data = .cls cd ∧ PySem.W.clsIn K D = some cd := by
  have i2 : (PySem.W.clsIn K D).isSome = true := i
  cases e : PySem.W.clsIn K D with
  | none =>
    rw [e] at i2
    cases i2
  | some cd =>
    have e0 := e
    unfold PySem.W.clsIn at e
    split at e
    · rename_i c d cd' sl ho
      cases e
      exact ⟨_, _, X _ _ ho, rfl, rfl⟩
    · cases e
/-- super().__init__(e), the exception at a being made -/
theorem sup_stmt {pl : Sem Bool} {R : Hp → Prop} {body : List Stmt} {e : Expr} {te : TA} {p0 p1 p2 p3 p4 : Pos} {Qf : PySem.Flow → Shared → Prop} {Ex : Value → Shared → Prop} (T : SupTxt X.prog X.K X.mg F f cc D) (V : SupCls X.K C D)
    (hX : X.env = envF F f X.env.locals) (I : Inv X pins σ H s) (hi : X.N[0]? = some ("self" : Str)) (hv : σ[0]? = some (some (.ref a))) (ha : H a = some (exo a C none))
    (he : PA X [e] te) (hxe : ∀ v s', X.xe v s' → Ex v s') (hq : te σ H fun xs H1 => xs.length ≤ 1000 ∧ H1 a = some (exo a C none) ∧ R H1) (hR : ∀ H1 s', Inv X pins σ H1 s' → R H1 → Qf .next s')
    (hce : eval (.Call (.Attribute (.Call (.Name "super" p0) [] [] p1) "__init__" p2) [e] [] p3) X.env = (do
      let ov ← attributeBase (.Call (.Name "super" p0) [] [] p1) "__init__" X.env (eval (.Call (.Name "super" p0) [] [] p1) X.env)
      standAt p2.atName
      let (fx, first) ← holding [ov] (getMethod ov "__init__" pl)
      callWith p3 fx first (backTo p3 (starEach [e] X.env)) []))
    (hst : starEach [e] X.env = (false, eval e X.env) :: starEach [] X.env) :
    PySem.wpAt (model X.prog X.w) X.A (.func body X.env) (exec (.Expr (.Call (.Attribute (.Call (.Name "super" p0) [] [] p1) "__init__" p2) [e] [] p3) p4) X.env) Qf Ex s := by
  obtain ⟨fc, fod, doc, pm, an, ct, osl, hf⟩ := T.fn
  obtain ⟨cl, cld, csl, hcell⟩ := T.cell
  obtain ⟨oc, od, vs, sl, fl, tf, hcode, hvs, hfile⟩ := T.file
  obtain ⟨ar, hfirst, har⟩ := T.first
  obtain ⟨oD, cdD, hD1, hD2, _⟩ := cls_at I.kIn T.isD
  obtain ⟨t0, hx⟩ := exo_at I.hok ha
  obtain ⟨nm, q, N, bs, bm, sn, sub, ab, col, dd, k0, k1, k2, k3, k5, hC, hbm⟩ := V.o.cls
  have hclC : PySem.W.clsIn X.K C = some { name := nm, bases := bs, mro := .ref C :: bm, ns := N, qualname := q, hasDict := true, slotNames := sn, subclasses := sub, abstract := ab, collection := col, hasDel := false } := by unfold PySem.W.clsIn; rw [hC] <;> rfl
  have IA : PySem.W.InstAt s.heap a ({ cls := .ref C, data := .fields #[.ref t0, .none, .none, .none, .bool false, .none] } : Obj) C none := ⟨hx, rfl, rfl, True.intro⟩
  have kD : X.env.kindOf ("self" : Str) = some .local := by rw [hX]; exact T.kse
  have selfv : ∃ m, s.heap.Ns X.env.locals m ∧ m ("self" : Str) = some (.ref a) := by
    obtain ⟨m, hm, hl⟩ := I.loc
    obtain ⟨u, ru, lk⟩ := hl 0 _ _ hi hv (.inl (by have := kD; rw [hX] at this; rw [hX]; exact this))
    obtain rfl : u = Value.ref a := ru
    rcases lk with ⟨_, e⟩ | ⟨e, _⟩
    · exact ⟨m, hm, e⟩
    · rw [kD] at e
      rcases e with e | e <;> cases e
  obtain ⟨m, hm, hself⟩ := selfv
  obtain ⟨mb, hb1, hb2⟩ := I.mod.blt
  have ek : X.env.scope.kind = .function := I.ok.kind
  have e1 : X.env.kindOf ("super" : Str) = some .globalImplicit := by rw [hX]; exact T.ks
  have e2 : X.env.kindOf ("__class__" : Str) = some .free := by rw [hX]; exact T.kc
  have e3 : X.env.cells.lookup ("__class__" : Str) = some cc := by
    rw [hX]
    show F.cl.lookup _ = _
    rw [T.cls]
    rfl
  refine ks_wpAt_Expr_any ?_ (I.quiet) (by rfl)
  refine ks_wpAt_MethodCall ?_ hce
  refine ks_wpAt_super_base (prog := X.prog) (w := X.w) (f := f) (cc := F.c) e1 e2 (by rfl) (by rw [hX]) (I.kIn _ _ hf) rfl hfirst (by rw [hX]) (I.kIn _ _ hcode) rfl hvs hfile T.top ?_
  refine PySem.W.ks_loadName_global ek e1 (PySem.Calls.loadGlobal_builtin (by rw [I.ok.glob]; exact I.mod.glob.keeps I.bk) T.sup (by rw [I.ok.blt]; exact hb1.keeps I.bk) ((hb2 _ (by decide)).trans (by decide +kernel)) ⟨rfl, ?_⟩)
  refine wpAny_loadName_free ek e2 e3 ⟨_, I.kIn _ _ hcell, rfl⟩ ?_
  rw [har]
  refine wpAny_loadName_local ek kD hm hself ?_
  refine ks_wpAny_isType_cls hD1 hD2 ⟨rfl, ?_⟩
  obtain ⟨hp, g, d, tk, os⟩ := s
  refine ks_wpAny_call_super hD1 hD2 hx rfl (fun c z => by cases z) (PySem.W.looks_mroIn I.kIn V.sub) fun h1 so1 kp1 => ?_
  have I1 : Inv X pins σ H ⟨h1, g, d, tk, os⟩ := I.kept (t' := tk) kp1
  have nx := V.nxt
  unfold PySem.W.ks_superIn at nx
  rw [hclC] at nx
  have hxC : a ≠ C := by
    rintro rfl
    have z := I.kIn _ _ hC
    have z2 : hp.get? a = some (excClassObj nm q a N bs bm true sn sub ab col dd k0 k1 k2 k3 k5 "ValueError.__new__") := z
    rw [z2] at hx
    cases hx
  have hmro : PySem.W.Looks (model X.prog X.w) h1 (mroOf (.ref C)) (.ref C :: bm) := (PySem.W.looks_clsIn I1.kIn hclC).andThen .now
  have hinst : PySem.W.Looks (model X.prog X.w) h1 (isInstance (.ref a) (.type "ValueError")) true :=
    PySem.W.Looks.andThen (PySem.W.InstAt.type (⟨kp1 _ _ hx, rfl, rfl, True.intro⟩ : PySem.W.InstAt h1 a _ C none)) (PySem.W.looks_subIn I1.kIn V.ve)
  refine PySem.W.kxs_getMethod PySem.W.kxs_ValueError so1 (PySem.W.looks_opaque I1.kIn T.opq) hmro rfl I1.kIn nx hinst hxC (by decide) ?_
  generalize hu : h1.objs.size = u
  have kp2 : ∀ b o, h1.get? b = some o → (h1.push (PySem.W.kxs_mw ShX.veI a)).get? b = some o := fun b o z => Heap.get?_push_of_some _ z
  have I2 : Inv X pins σ H ⟨h1.push (PySem.W.kxs_mw ShX.veI a), g, d, tk + 1, os⟩ := I1.kept (t' := tk + 1) kp2
  have gu : (h1.push (PySem.W.kxs_mw ShX.veI a)).get? u = some (PySem.W.kxs_mw ShX.veI a) := by rw [← hu]; exact Heap.get?_push_size _ rfl
  have fu : FpOk X pins H u := I1.fpOk (by rw [← hu]; exact Nat.le_refl _) (I1.hok.fresh (by rw [← hu]; exact Nat.le_refl _))
  have I3 : Inv X ((u, PySem.W.kxs_mw ShX.veI a) :: pins) σ H ⟨h1.push (PySem.W.kxs_mw ShX.veI a), g, d, tk + 1, os⟩ := I2.pins_of fun p hp => by
    rcases List.mem_cons.mp hp with rfl | hp
    · exact ⟨gu, fu.1, fu.2.1, fu.2.2.1, fun v z => by cases z⟩
    · exact I2.pin p (List.mem_append_right _ hp)
  refine wpAny_mono (PySem.W.kxs_callWith (i := ShX.veI) (x := a) (Q := fun _ s' => Qf .next s') (E := X.xe) (by rw [hst]; rfl) ?_) (fun _ _ z => z) hxe
  rw [hst]
  refine PySem.Calls.evalArgs_plain ?_
  have hr := he.run p3 ((u, PySem.W.kxs_mw ShX.veI a) :: pins) _ σ H _ I3 hq
  rw [hst] at hr
  refine thn hr fun us s2 ⟨xs, H2, I4, rv, hl, ha2, q⟩ => ?_
  have gu2 := (I4.pin (u, PySem.W.kxs_mw ShX.veI a) (List.mem_append_right _ List.mem_cons_self)).1
  refine ⟨gu2, ?_⟩
  obtain ⟨t2, hx2⟩ := exo_at I4.hok ha2
  obtain ⟨hp2, g2, d2, tk2, os2⟩ := s2
  refine ShX.call_mw (I4.kIn _ _ hC) hx2 gu2 ?_ fun h' t3 k3 e3 => ?_
  · show us.length ≤ sizeLine
    rw [← rv.length, sizeLine_eq]
    omega
  · have J := I4.write (t' := tk2) (x := a) (e := a) (o := exo a C none) (by rw [ha2]; exact True.intro) (.inl rfl) k3 ⟨_, e3⟩ (exo_ok e3)
    have eu : upd H2 a (exo a C none) = H2 := by
      funext b
      by_cases hb : b = a
      · rw [hb, upd_same, ha2]
      · rw [upd_ne hb]
    rw [eu] at J
    refine hR _ _ (J.pins_of fun p hp => J.pin p (by
      rcases List.mem_append.mp (List.mem_append_right X.pn hp) with z | z
      · exact List.mem_append_left _ z
      · exact List.mem_append_right _ (List.mem_cons_of_mem _ z))) q
end
section
variable {CX : CXT} {P : Program} {w : World} {K : PySem.W.Frag} {mg : Str → Option Value} {base : Heap} {N ps : List Str} {F : NF} {f cc D C a : Addr} {A : Around} {outer : List Env} {s : Shared} {H : Hp} {E : XK} {Q : VK} {us : List Value} {vs : List V} {k : Nat}
/-- the __init__ of an own error that says super() first, run: a is the exception -/
theorem run_sup {pl : Sem Bool} {args : Args} {e : Expr} {te : TA} {tr : TS} {rest : List Stmt} {p0 p1 p2 p3 p4 : Pos} (T : SupTxt P K mg F f cc D) (VC : SupCls K C D) (S : NScope N ps ["__class__"] F.scope) (hr : Room (k + 1) A) (e0 : Env0 P w K mg base A outer s H)
    (hb : ∀ doc pm an ct, BindsTo s (PySem.W.ksFn F.name F.qual F.params F.body F.scope .none .none doc pm an (.ref F.c) ct cc) args (ps.zip us)) (hl : vs.length = ps.length) (r : Vals vs us)
    (h0 : vs[0]? = some (.ref a)) (hN : N[0]? = some ("self" : Str)) (ha : H a = some (exo a C none))
    (hbody : F.body = .Expr (.Call (.Attribute (.Call (.Name "super" p0) [] [] p1) "__init__" p2) [e] [] p3) p4 :: rest)
    (he : PA (ncx CX P w K mg base N F f A outer s H E) [e] te) (hrest : PSs (ncx CX P w K mg base N F f A outer s H E) rest tr)
    (hq : te (startF N vs [none]) H fun xs H1 => xs.length ≤ 1000 ∧ H1 a = some (exo a C none) ∧ tr { nx := fun _ H' => Q .non H', rt := Q } (startF N vs [none]) H1)
    (hce : ∀ L : Addr, eval (.Call (.Attribute (.Call (.Name "super" p0) [] [] p1) "__init__" p2) [e] [] p3) (envF F f L) = (do
      let ov ← attributeBase (.Call (.Name "super" p0) [] [] p1) "__init__" (envF F f L) (eval (.Call (.Name "super" p0) [] [] p1) (envF F f L))
      standAt p2.atName
      let (fx, first) ← holding [ov] (getMethod ov "__init__" pl)
      callWith p3 fx first (backTo p3 (starEach [e] (envF F f L))) []))
    (hst : ∀ L : Addr, starEach [e] (envF F f L) = (false, eval e (envF F f L)) :: starEach [] (envF F f L)) :
    codeAny (model P w) A (.call (.ref f) args) (CR CX outer P w H s Q E) s := by
  obtain ⟨fc, fod, doc, pm, an, ct, osl, hf⟩ := T.fn
  have kin : K.In s.heap := e0.mod.kin.keeps fun b o z => (e0.bs b o z).1
  have lim : s.heap.NoLimit := e0.mod.nolimit.keeps fun b o z => (e0.bs b o z).1
  obtain ⟨cl, cld, csl, hcell⟩ := T.cell
  have hcb : base.get? cc = some ⟨cl, cld, .cell (some (.ref D)), csl⟩ := e0.mod.kin _ _ hcell
  have CA : CellsAt F.cl ["__class__"] [none] s.heap H := by
    rw [T.cls]
    have one : ∀ {y : Str} {c : Addr}, List.lookup y [(("__class__" : Str), cc)] = some c → y = "__class__" ∧ c = cc := fun {y c} z => by
      by_cases hy : y = ("__class__" : Str)
      · subst hy
        rw [List.lookup_cons_self] at z
        exact ⟨rfl, (Option.some.inj z).symm⟩
      · have q : (y == ("__class__" : Str)) = false := by simpa using hy
        rw [List.lookup_cons, q] at z
        cases z
    refine ⟨rfl, fun y c z => ?_, fun x y c z1 z2 => (one z1).1.trans (one z2).1.symm, fun i y z => ?_⟩
    · obtain ⟨_, rfl⟩ := one z
      exact ⟨(e0.bs _ _ hcb).2, _, _, (e0.bs _ _ hcb).1, rfl⟩
    · match i with
      | 0 =>
        simp at z
        subst z
        exact ⟨cc, List.lookup_cons_self, fun v z => by simp at z⟩
      | i + 1 => simp at z
  refine ks_codeAny_call_defAt (fd := PySem.W.ksFn F.name F.qual F.params F.body F.scope .none .none doc pm an (.ref F.c) ct cc) (body := F.body) (binds := ps.zip us) hr.depth (kin _ _ hf) rfl lim (PySem.W.codeRec_of kin T.cd) rfl (hb _ _ _ _)
    S.nocell (fun ⟨n, _⟩ hy => S.par n (List.of_mem_zip hy).1) (fun h₁ hns kp => ?_) S.co S.gen S.kind
  have I : Inv (ncx CX P w K mg base N F f A outer s H E) [] (startF N vs [none]) H { s with heap := h₁, toks := s.toks + (ps.zip us).length } := inv_startN S hr.hd e0 hl r CA hns kp
  have env_eq : callEnv (PySem.W.ksFn F.name F.qual F.params F.body F.scope .none .none doc pm an (.ref F.c) ct cc) s.heap.objs.size f = envF F f s.heap.objs.size := by
    show PySem.W.envX _ _ _ _ _ [(("__class__" : Str), cc)] = PySem.W.envX _ _ _ _ _ F.cl
    rw [T.cls]
  rw [env_eq]
  show PySem.wpAt (model P w) (ncx CX P w K mg base N F f A outer s H E).A (.func F.body (envF F f s.heap.objs.size)) (execs F.body (envF F f s.heap.objs.size)) _ _ _
  rw [hbody]
  refine ks_wpAt_execs_cons ?_
  have hs0 : (startF N vs [none])[0]? = some (some (.ref a)) := by
    unfold startF
    cases vs with
    | nil => simp at h0
    | cons v vs =>
      simp at h0
      subst h0
      rfl
  refine sup_stmt (X := ncx CX P w K mg base N F f A outer s H E) (Ex := (ncx CX P w K mg base N F f A outer s H E).xe) T VC rfl I hN hs0 ha he (fun _ _ z => z) hq (fun H1 s1 I1 q1 => ?_) (hce _) (hst _)
  refine wpAt_of_wpAny (wpAny_mono (hrest.run [] s1 (startF N vs [none]) H1 _ I1 q1) (fun fl s' hs => ?_) fun e s' hs => hs)
  have fin : ∀ {σ' : L2.St} {H' : Hp} {v : V} {u : Value}, Inv (ncx CX P w K mg base N F f A outer s H E) [] σ' H' s' → L2.RelV v u → Q v H' → CE outer P w H s Q u s' :=
    fun {σ' H' v u} J rv q => ⟨v, H', J.os, J.bare, J.base, J.hok, rv, q⟩
  cases fl with
  | ret u =>
    obtain ⟨v, σ', H', J, rv, q⟩ := hs
    exact fin J rv q
  | next =>
    obtain ⟨σ', H', J, q⟩ := hs
    exact fin (v := V.non) (u := Value.none) J rfl q
  | brk =>
    obtain ⟨_, _, _, q⟩ := hs
    exact False.elim q
  | cont =>
    obtain ⟨_, _, _, q⟩ := hs
    exact False.elim q
end
/-- a value that an error's message may tell -/
def Tells (v : V) : Prop := (∃ y : Str, v = .str y ∧ y.length ≤ 100000) ∨ ∃ i : Int, v = .int i ∧ i.natAbs.log2 < 1920
/-- C(f = e) -/
def tMkW (C : Addr) (fld : Str) (te : TA) : L2.St → Hp → XK → Prop := fun σ H Q => te σ H fun xs H1 => ∃ v, xs = [v] ∧ Tells v ∧ ∀ d, H1 d = none → Q (.ref C) (some d) (upd H1 d (.xd [(fld, v)]))
section
variable {X : Cx} {CX : CXT} {C f cc D : Addr} {F : NF} {k : Nat} {fld x : Str} {e msg : Expr} {kws : List Keyword} {te : TA} {p pos p0 p1 p2 p3 p4 r1 r2 r3 r4 : Pos} {pl : Sem Bool}
theorem pmk_kw (T : SupTxt X.prog X.K X.mg F f cc D) (VC : SupCls X.K C D) (XC : XfC X.K C) (hno : PySem.W.findIn X.K (.ref C) fld = some none)
    (iC : PySem.W.findIn X.K (.ref C) "__init__" = some (some (.ref f))) (tI : PySem.W.typeIn X.K (.ref f) = some (.type "function"))
    (S : NScope ["self", fld, "__class__"] ["self", fld] ["__class__"] F.scope) (hr : Room (k + 2) X.A) (hx : Passes CX X (fun _ _ _ => False)) (hg : Gl X x) (hm : X.mg x = some (.ref C))
    (hkw : PK X kws te) (hall : (backToKw pos (keywordEach kws X.env)).all (·.1.isSome) = true) (hks : (backToKw pos (keywordEach kws X.env)).filterMap (·.1) = [fld])
    (hpl : ((backTo pos (starEach [] X.env)).any (·.1) || (backToKw pos (keywordEach kws X.env)).any (·.1.isNone)) = false)
    (hbody : F.body = [.Expr (.Call (.Attribute (.Call (.Name "super" p0) [] [] p1) "__init__" p2) [msg] [] p3) p4, .Assign [.Attribute (.Name "self" r1) fld r2] (.Name fld r3) r4])
    (hb : ∀ (s : Shared) (doc pm : Value) (an : Option Addr) (ct : Value) (xa : Addr) (u : Value), BindsTo s (PySem.W.ksFn F.name F.qual F.params F.body F.scope .none .none doc pm an (.ref F.c) ct cc) ⟨[.ref xa], [(fld, u)]⟩ [(("self" : Str), .ref xa), (fld, u)])
    (hmsg : ∀ (A : Around) (outer : List Env) (s : Shared) (H : Hp) (E : XK) (xa : Addr) (v : V), Tells v → ∃ tm, PA (ncx CX X.prog X.w X.K X.mg X.base ["self", fld, "__class__"] F f A outer s H E) [msg] tm ∧
      ∀ R : List V → Hp → Prop, (∀ y : Str, R [.str y] H) → tm (startF ["self", fld, "__class__"] [.ref xa, v] [none]) H R)
    (hce : ∀ L : Addr, eval (.Call (.Attribute (.Call (.Name "super" p0) [] [] p1) "__init__" p2) [msg] [] p3) (envF F f L) = (do
      let ov ← attributeBase (.Call (.Name "super" p0) [] [] p1) "__init__" (envF F f L) (eval (.Call (.Name "super" p0) [] [] p1) (envF F f L))
      standAt p2.atName
      let (fx, first) ← holding [ov] (getMethod ov "__init__" pl)
      callWith p3 fx first (backTo p3 (starEach [msg] (envF F f L))) []))
    (hst : ∀ L : Addr, starEach [msg] (envF F f L) = (false, eval msg (envF F f L)) :: starEach [] (envF F f L))
    (hsw : ∀ L : Addr, swapsWith (.Name fld r3) (some (.Attribute (.Name "self" r1) fld r2)) r4.line (envF F f L) = pure false)
    (hf1 : (fld == ("__debug__" : Str)) = false := by decide) (hf2 : (fld == ("__classdict__" : Str)) = false := by decide)
    (hdb : (x == ("__debug__" : Str)) = false := by decide) : PMk X (.Call (.Name x p) [] kws pos) (tMkW C fld te) := by
  intro pins s σ H Q I h
  obtain ⟨nm, q, N, bs, bm, sn, sub, ab, col, dd, k0, k1, k2, k3, k5, hC, hbm⟩ := VC.o.cls
  refine wpAny_Call_Name_kw (ld_glob I hg hm ?_ hdb)
  refine PySem.W.callWith_KW0 (h₀ := X.base) I.ok.mod.kin VC.o.kC hall ?_ hpl
  refine thn (hkw.run pos pins s σ H _ I h) fun ws s1 ⟨zs, H1, I1, rz, v, ezs, hv, q1⟩ => ⟨I1.kIn, ?_⟩
  subst ezs
  cases rz with
  | @cons _ u _ _ rv rn =>
  cases rn
  rw [hks]
  obtain ⟨hp, g, dr, tk, os⟩ := s1
  have hsz : hp.objs.size ≤ hp.objs.size + 1 := Nat.le_succ _
  have hn : H1 (hp.objs.size + 1) = none := I1.hok.fresh hsz
  generalize ha : hp.objs.size + 1 = a at hn hsz
  have kk : ∀ b o, hp.get? b = some o → ((hp.push (PySem.W.kdv_tup [])).push (PySem.HandSPX.excO C hp.objs.size)).get? b = some o := fun b o e => Heap.get?_push_of_some _ (Heap.get?_push_of_some _ e)
  have hget : ((hp.push (PySem.W.kdv_tup [])).push (PySem.HandSPX.excO C hp.objs.size)).get? a = some (PySem.HandSPX.excO C hp.objs.size) := by
    rw [← ha]
    heap_get
  generalize hh2 : (hp.push (PySem.W.kdv_tup [])).push (PySem.HandSPX.excO C hp.objs.size) = h2 at kk hget
  have I2 : Inv X pins σ (upd H1 a (exo a C none)) ⟨h2, g, dr, tk, os⟩ := I1.laid (t' := tk) (a := a) (o := exo a C none) (h' := h2) kk hsz (exo_ok hget)
  obtain ⟨tm, hpm, htm⟩ := hmsg (X.A.under (.builtin "type.__call__" ⟨[.ref C], [(fld, u)]⟩)) X.stack ⟨h2, g, dr, tk, os⟩ (upd H1 a (exo a C none)) (fun _ _ _ => False) a v hv
  refine wpAny_call (ShX.call_kw PySem.F.excBase_ValueError (fun Y => PySem.HandSPX.refsVE_contains Y bm hbm) (I1.kIn _ _ hC) (PySem.W.looks_findIn I1.kIn iC) (fun self => PySem.W.bind_fn I1.kIn self tI) ?_)
  rw [ha, hh2]
  have vis0 : Vis F.scope ("self" : Str) := .inl (S.par _ List.mem_cons_self)
  have vis1 : Vis F.scope fld := .inl (S.par _ (List.mem_cons_of_mem _ List.mem_cons_self))
  refine codeAny_mono (run_sup (CX := CX) (k := k) (N := ["self", fld, "__class__"]) (ps := ["self", fld]) (us := [.ref a, u]) (vs := [.ref a, v]) (E := fun _ _ _ => False)
    (Q := fun r H2 => r = .non ∧ ∃ (d : Addr) (fs : List (Str × V)), H2 a = some (exo a C (some d)) ∧ H2 d = some (exd d fs) ∧ H1 d = none ∧ Q (.ref C) (some d) (upd (del H2 a) d (.xd fs)))
    T VC S (hr.make C [] _) (I2.env0.make C [] _) ?_ rfl (.cons rfl (.cons rv .nil)) rfl rfl upd_same hbody hpm
    (pss_one (ps_ost (pe_var (i := 0) rfl vis0) (pe_var (i := 1) rfl vis1 hf1 hf2) (hsw _))) ?_ hce hst) fun r s' hq' => ?_
  · intro doc pm an ct
    exact hb _ doc pm an ct a u
  · refine htm _ fun y => ⟨by simp, upd_same, v, rfl, .ref a, rfl, a, C, rfl, VC.o, hno, .inl ⟨upd_same, fun dx hdx ndx => ?_⟩⟩
    have hdx1 : H1 dx = none := by
      rw [upd_ne ndx] at hdx
      exact hdx
    refine ⟨rfl, dx, [(fld, v)], upd_same, ?_, hdx1, ?_⟩
    · rw [upd_ne ndx, upd_same]
    · have eH : upd (del (upd (upd (upd H1 a (exo a C none)) dx (exd dx [(fld, v)])) a (exo a C (some dx))) a) dx (.xd [(fld, v)]) = upd H1 dx (.xd [(fld, v)]) := by
        funext b
        by_cases h1 : b = dx
        · rw [h1, upd_same, upd_same]
        · rw [upd_ne h1, upd_ne h1]
          by_cases h2 : b = a
          · rw [h2, del_same, hn]
          · rw [del_ne h2, upd_ne h2, upd_ne h1, upd_ne h2]
      rw [eH]
      exact q1 dx hdx1
  · cases r with
    | error er => exact hx pins σ _ _ er s' I2 hq'
    | ok fl =>
      cases fl with
      | ret uu =>
        obtain ⟨vv, H2, os2, bare2, un2, hok2, rv2, ev, d2, fs, ea, ed, hd1, q2⟩ := hq'
        subst ev
        obtain ⟨h3, g2, dr2, t2, os'⟩ := s'
        exact ⟨rv2, mk_end (raises_own VC.o.exC VC.o.tyC) I1 hsz kk un2 hok2 os2 bare2 ea ed hd1 q2⟩
      | next => exact False.elim hq'
      | brk => exact False.elim hq'
      | cont => exact False.elim hq'
end
end Sho
set_option Elab.async false
set_option linter.all false
set_option maxRecDepth 100000
set_option maxHeartbeats 2000000
/-! The head of a law with facts: defs with and without a closure, Bools of the written part, empty tables of code objects left out. -/
namespace Shh
open PySem PySem.Spec PyProof.Rows L2 He Sho
abbrev Fr : Type := PySem.W.Frag
/-! ### a def -/
abbrev FnS : Type := Option (Str × Str × Arguments × FuncBody × Scope)
def fnS (K : Fr) (a : Addr) : FnS := match K.lookup a with
  | some ⟨_, _, .func fd, _⟩ => some (fd.name, fd.qualname, fd.params, fd.body, fd.scope)
  | _ => none
def noneB : Value → Bool
  | .none => true
  | _ => false
theorem noneB_ok {v : Value} (h : noneB v = true) : v = .none := by
  cases v with
  | none => rfl
  | _ => cases h
def fnB (K : Fr) (a : Addr) (q : Str) (cl : List (Str × Addr)) : Bool := match K.lookup a with
  | some ⟨_, _, .func fd, _⟩ => decide (fd.globals = mainGlobals) && (decide (fd.closure = cl) && (decide (fd.builtins = builtinsNs) && (noneB fd.defaults && (noneB fd.kwdefaults && PySem.W.codeIn K fd.code q))))
  | _ => false
def codeA (K : Fr) (a : Addr) : Addr := match K.lookup a with
  | some ⟨_, _, .func fd, _⟩ => (match fd.code with
    | .ref c => c
    | _ => 0)
  | _ => 0
/-- the first cell of a function's closure -/
def cellA (K : Fr) (a : Addr) : Addr := match K.lookup a with
  | some ⟨_, _, .func fd, _⟩ => (match fd.closure with
    | (_, c) :: _ => c
    | _ => 0)
  | _ => 0
structure FunF (K : Fr) (x qual : Str) (st : Stmt) (cl : List (Str × Addr)) (f : Addr) : Prop where
  ex : ∃ (oc : Value) (od : Option Addr) (doc pm : Value) (an : Option Addr) (ct : Value) (osl : Array (Option Value)),
    K.lookup f = some ⟨oc, od, .func (PySem.W.fnX x qual (defArgs st) (defBody st) (defScope st) cl .none .none doc pm an (.ref (codeA K f)) ct), osl⟩ ∧ PySem.W.codeIn K (.ref (codeA K f)) qual = true
/-- one def: where it stands, its name, qualified name, statement, closure -/
structure Dn where
  at_ : Fr → Addr
  name : Str
  qual : Str
  st : Stmt
  cl : Fr → List (Str × Addr) := fun _ => []
def Dn.val (d : Dn) : FnS := some (d.name, d.qual, defArgs d.st, .stmts (defBody d.st), defScope d.st)
def Dn.ok (K : Fr) (d : Dn) : Bool := fnB K (d.at_ K) d.qual (d.cl K)
theorem Dn.funF {K : Fr} {d : Dn} (e : fnS K (d.at_ K) = d.val) (c : d.ok K = true) : FunF K d.name d.qual d.st (d.cl K) (d.at_ K) := by
  unfold Dn.ok fnB at c
  unfold fnS at e
  have ec : ∀ fd oc od osl, K.lookup (d.at_ K) = some ⟨oc, od, .func fd, osl⟩ → ∀ c, fd.code = .ref c → codeA K (d.at_ K) = c := fun fd oc od osl q c h => by
    unfold codeA
    rw [q]
    show (match fd.code with | .ref c => c | _ => 0) = c
    rw [h]
  cases q : K.lookup (d.at_ K) with
  | none =>
    rw [q] at c
    cases c
  | some o =>
    obtain ⟨oc, od, dt, osl⟩ := o
    rw [q] at c e
    cases dt with
    | func fd =>
      have ec' := ec fd oc od osl q
      obtain ⟨n1, n2, n3, n4, n5, n6, n7, n8, n9, n10, n11, n12, n13, n14, n15⟩ := fd
      have e2 : (some (n1, n2, n3, n4, n5) : FnS) = some (d.name, d.qual, defArgs d.st, .stmts (defBody d.st), defScope d.st) := e
      simp only [Option.some.injEq, Prod.mk.injEq] at e2
      obtain ⟨h1, h2, h3, h4, h5⟩ := e2
      obtain ⟨c1, c⟩ := ba c
      obtain ⟨c2, c⟩ := ba c
      obtain ⟨c3, c⟩ := ba c
      obtain ⟨c4, c⟩ := ba c
      obtain ⟨c5, c6⟩ := ba c
      have g1 : n6 = mainGlobals := of_decide_eq_true c1
      have g2 : n7 = d.cl K := of_decide_eq_true c2
      have g3 : n15 = builtinsNs := of_decide_eq_true c3
      have g4 : n8 = .none := noneB_ok c4
      have g5 : n9 = .none := noneB_ok c5
      obtain ⟨cc, hc⟩ := codeIn_ref c6
      have hc' : n13 = .ref cc := hc
      have e3 := ec' cc hc'
      subst h1 h2 h3 h4 h5 g1 g2 g3 g4 g5 hc'
      exact ⟨oc, od, n10, n11, n12, n14, osl, by rw [e3]; exact q, by rw [e3]; exact c6⟩
    | _ => cases c
/-! ### the Hook -/
def okAll (fa : List (Fr → Bool)) (fn : List Dn) (K : Fr) : Bool := (fa.all fun f => f K) && fn.all fun d => d.ok K
def tabsS (g : Addr → Option Obj) (tf : List (Fr → Addr)) (K : Fr) : Bool := tf.all fun p => PySem.W.codeHdIn K (codeA K (p K)) (tabOf K (codeA K (p K))) && (match g (tabOf K (codeA K (p K))) with
  | some o => emptyTab o
  | none => false)
def fragS (n : Nat) (g : Addr → Option Obj) : Fr := frT g (asD g n ++ [cStatics])
abbrev AlS : Type := Bool × List FnS
def obsS (n : Nat) (fa : List (Fr → Bool)) (fn : List Dn) (tf : List (Fr → Addr)) (g : Addr → Option Obj) : AlS := (okAll fa fn (fragS n g) && tabsS g tf (fragS n g), fn.map fun d => fnS (fragS n g) (d.at_ (fragS n g)))
def valS (fn : List Dn) : AlS := (true, fn.map Dn.val)
structure SaysS (fa : List (Fr → Bool)) (fn : List Dn) (tf : List (Fr → Addr)) (h : Heap) (K : Fr) : Prop where
  fa : ∀ f ∈ fa, f K = true
  fn : ∀ d ∈ fn, FunF K d.name d.qual d.st (d.cl K) (d.at_ K)
  hd : ∀ p ∈ tf, PySem.W.codeHdIn K (codeA K (p K)) (tabOf K (codeA K (p K))) = true
  out : ∀ p ∈ tf, K.lookup (tabOf K (codeA K (p K))) = none
  empty : ∀ p ∈ tf, h.get? (tabOf K (codeA K (p K))) = some { cls := .none, data := .fields #[] }
theorem saysS_of {n : Nat} {fa : List (Fr → Bool)} {fn : List Dn} {tf : List (Fr → Addr)} {h : Heap} (e : obsS n fa fn tf h.get? = valS fn) : SaysS fa fn tf h (fragS n h.get?) := by
  have e1 : (okAll fa fn (fragS n h.get?) && tabsS h.get? tf (fragS n h.get?)) = true := congrArg (fun z : AlS => z.1) e
  have e2 : (fn.map fun d => fnS (fragS n h.get?) (d.at_ (fragS n h.get?))) = fn.map Dn.val := congrArg (fun z : AlS => z.2) e
  obtain ⟨h1, h2⟩ := ba e1
  obtain ⟨h3, h4⟩ := ba h1
  have key : ∀ p ∈ tf, PySem.W.codeHdIn (fragS n h.get?) (codeA (fragS n h.get?) (p (fragS n h.get?))) (tabOf (fragS n h.get?) (codeA (fragS n h.get?) (p (fragS n h.get?)))) = true ∧
      ∃ o, h.get? (tabOf (fragS n h.get?) (codeA (fragS n h.get?) (p (fragS n h.get?)))) = some o ∧ emptyTab o = true := fun p hp => by
    obtain ⟨h5, h6⟩ := ba (List.all_eq_true.mp h2 p hp)
    refine ⟨h5, ?_⟩
    cases q : h.get? (tabOf (fragS n h.get?) (codeA (fragS n h.get?) (p (fragS n h.get?)))) with
    | none =>
      rw [q] at h6
      cases h6
    | some o =>
      rw [q] at h6
      exact ⟨o, rfl, h6⟩
  refine ⟨fun f hf => List.all_eq_true.mp h3 f hf, fun d hd => ?_, fun p hp => (key p hp).1, fun p hp => ?_, fun p hp => ?_⟩
  · obtain ⟨i, hi, ei⟩ := List.mem_iff_getElem.mp hd
    have e3 : (fn.map fun d => fnS (fragS n h.get?) (d.at_ (fragS n h.get?)))[i]? = (fn.map Dn.val)[i]? := by rw [e2]
    rw [List.getElem?_map, List.getElem?_map, List.getElem?_eq_getElem hi, ei] at e3
    exact Dn.funF (Option.some.inj e3) (List.all_eq_true.mp h4 d hd)
  · obtain ⟨_, o, q, z⟩ := key p hp
    exact frT_none q z
  · obtain ⟨_, o, q, z⟩ := key p hp
    rw [q, emptyTab_eq z]
def hookS (n : Nat) (fa : List (Fr → Bool)) (fn : List Dn) (tf : List (Fr → Addr)) : PySem.W.Hook where
  α := AlS
  obs := fun s => obsS n fa fn tf s.heap.get?
  val := fun _ => valS fn
  says := fun _ h => ∃ K : PySem.W.Frag, K.In h ∧ SaysS fa fn tf h K
  of := fun _ _ e => ⟨_, frT_in, saysS_of e⟩
  keeps := fun _ _ _ ⟨K, hK, c⟩ k => ⟨K, PySem.W.Frag.In.keeps hK k, ⟨c.fa, c.fn, c.hd, c.out, fun p hp => k _ _ (c.empty p hp)⟩⟩
theorem obsS_eq {n : Nat} {fa : List (Fr → Bool)} {fn : List Dn} {tf : List (Fr → Addr)} {g : Addr → Option Obj} {s : Shared} (h : ∀ a, g a = s.heap.get? a) : obsS n fa fn tf g = (hookS n fa fn tf).obs s := by
  have e : g = s.heap.get? := funext h
  rw [e] <;> rfl
section
variable {fa : List (Fr → Bool)} {fn : List Dn} {tf : List (Fr → Addr)} {h : Heap} {K : Fr}
theorem SaysS.fact (c : SaysS fa fn tf h K) (i : Nat) {f : Fr → Bool} (e : fa[i]? = some f := by rfl) : f K = true := c.fa f (List.mem_of_getElem? e)
theorem SaysS.def_ (c : SaysS fa fn tf h K) (i : Nat) {d : Dn} (e : fn[i]? = some d := by rfl) : FunF K d.name d.qual d.st (d.cl K) (d.at_ K) := c.fn d (List.mem_of_getElem? e)
end
/-! ### names of the module -/
section
variable {K : Fr} {h : Heap} {mg : Str → Option Value}
def gloB (K : Fr) (xs : List Str) : Bool := xs.all fun x => eqO (PySem.W.nsIn K mainGlobals x) (some (some (.ref (ga K x))))
theorem gloB_ok (X : K.In h) (G : h.Ns mainGlobals mg) {xs : List Str} (c : gloB K xs = true) {x : Str} (hx : x ∈ xs) : mg x = some (.ref (ga K x)) := PySem.W.mg_of X G (eqO_ok (List.all_eq_true.mp c x hx))
def freeB (K : Fr) (xs : List Str) : Bool := xs.all fun x => eqO (PySem.W.nsIn K mainGlobals x) (some none)
theorem freeB_ok (X : K.In h) (G : h.Ns mainGlobals mg) {xs : List Str} (c : freeB K xs = true) {x : Str} (hx : x ∈ xs) : mg x = none := PySem.W.mg_none_of X G (eqO_ok (List.all_eq_true.mp c x hx))
def keepB (K : Fr) (xs : List Str) : Bool := xs.all fun x => PySem.W.keepIn K (.ref (ga K x))
theorem keepB_ok {xs : List Str} (c : keepB K xs = true) {x : Str} (hx : x ∈ xs) : PySem.W.keepIn K (.ref (ga K x)) = true := List.all_eq_true.mp c x hx
end
/-! ### an own error whose __init__ says super().__init__(text) and stores a field -/
def oexB (K : Fr) (C : Addr) : Bool := match K.lookup C with
  | some ⟨.type t, _, .cls cd, sl⟩ => decide (t = "type") && (decide (cd.mro.head? = some (.ref C)) && (PySem.HandSPX.refsVE cd.mro.tail && (cd.hasDict && (!cd.hasDel && (match sl.toList with
    | [_, _, _, _, some (.builtin n), _] => decide (n = "ValueError.__new__")
    | _ => false)))))
  | _ => false
theorem oexB_ok {K : Fr} {C : Addr} (h : oexB K C = true) : ∃ nm q N bs bm sn sub ab col dd k0 k1 k2 k3 k5, K.lookup C = some (excClassObj nm q C N bs bm true sn sub ab col dd k0 k1 k2 k3 k5 "ValueError.__new__") ∧ PySem.HandSPX.refsVE bm = true := by
  unfold oexB at h
  split at h
  · rename_i t dd cd sl e
    obtain ⟨h1, h⟩ := ba h
    obtain ⟨h2, h⟩ := ba h
    obtain ⟨h3, h⟩ := ba h
    obtain ⟨h4, h⟩ := ba h
    obtain ⟨h5, h6⟩ := ba h
    split at h6
    · rename_i k0 k1 k2 k3 n k5 hs
      obtain ⟨nm, bs, mro, N, q, hd, sn, sub, ab, col, hdel⟩ := cd
      have a1 : t = "type" := of_decide_eq_true h1
      have a2 : mro.head? = some (.ref C) := of_decide_eq_true h2
      have a4 : hd = true := h4
      have a5 : hdel = false := by
        cases z : hdel with
        | false => rfl
        | true =>
          have h5' : (!hdel) = true := h5
          rw [z] at h5'
          cases h5'
      have a6 : n = "ValueError.__new__" := of_decide_eq_true h6
      have a7 : sl = #[k0, k1, k2, k3, some (.builtin n), k5] := by
        have z : sl.toList.toArray = [k0, k1, k2, k3, some (.builtin n), k5].toArray := by rw [hs]
        simpa using z
      cases mro with
      | nil => cases a2
      | cons m0 bm =>
        have a8 : m0 = .ref C := Option.some.inj a2
        subst a1 a4 a5 a6 a7 a8
        exact ⟨nm, q, N, bs, bm, sn, sub, ab, col, dd, k0, k1, k2, k3, k5, e, h3⟩
    · cases h6
  · cases h
def cellB (K : Fr) (cc C : Addr) : Bool := match K.lookup cc with
  | some ⟨_, _, .cell (some (.ref D)), _⟩ => decide (D = C)
  | _ => false
theorem cellB_ok {K : Fr} {cc C : Addr} (h : cellB K cc C = true) : ∃ (cl : Value) (cld : Option Addr) (csl : Array (Option Value)), K.lookup cc = some ⟨cl, cld, .cell (some (.ref C)), csl⟩ := by
  unfold cellB at h
  split at h
  · rename_i cl cld D csl e
    rw [of_decide_eq_true h] at e
    exact ⟨cl, cld, csl, e⟩
  · cases h
def fileB (K : Fr) (c : Addr) (file : Str) : Bool := match K.lookup c with
  | some ⟨_, _, .fields vs, _⟩ => (match (vs[2]? : Option Value) with
    | some (.str fl _) => file == fl
    | _ => false)
  | _ => false
theorem fileB_ok {K : Fr} {c : Addr} {file : Str} (h : fileB K c file = true) : ∃ (oc : Value) (od : Option Addr) (vs : Array Value) (sl : Array (Option Value)) (fl : Str) (tf : Tok), K.lookup c = some ⟨oc, od, .fields vs, sl⟩ ∧ vs[2]? = some (.str fl tf) ∧ (file == fl) = true := by
  unfold fileB at h
  split at h
  · rename_i oc od vs sl e
    split at h
    · rename_i fl tf e2
      exact ⟨oc, od, vs, sl, fl, tf, e, e2, h⟩
    · cases h
  · cases h
/-- where an error's __init__ stands -/
def eInit (K : Fr) (x : Str) : Addr := ma K (ga K x) "__init__"
def errB (file : Str) (K : Fr) (x fld : Str) : Bool :=
  oexB K (ga K x) && (cellB K (cellA K (eInit K x)) (ga K x) && (fileB K (codeA K (eInit K x)) file && (PySem.W.isClsIn K (ga K x) && (eqO (PySem.W.nsIn K cStatics "thirdparty.any") (some none) &&
  (decide (PySem.W.mroIn K (ga K x) (.ref (ga K x)) = some true) && (eqO (PySem.W.ks_superIn K (ga K x) (ga K x) "__init__") (some (some (.builtin ShX.veI))) && (decide (PySem.W.subIn K (.ref (ga K x)) (.type "ValueError") = some true) &&
  (xfB K (ga K x) && (eqO (PySem.W.findIn K (.ref (ga K x)) fld) (some none) && (decide (PySem.W.exmOne K (.ref (ga K x)) (.ref (ga K x)) = some true) && (eqO (PySem.W.findIn K (.ref (ga K x)) "__init__") (some (some (.ref (eInit K x)))) &&
  (decide (PySem.W.typeIn K (.ref (eInit K x)) = some (.type "function")) && (eqO (PySem.W.findIn K (.ref (ga K x)) "__setattr__") (some (some (.builtin "object.__setattr__"))) && (decide (PySem.W.subIn K (.ref (ga K x)) (.type "BaseException") = some true) &&
  (decide (PySem.W.typeIn K (.ref (ga K x)) = some (.type "type")) && PySem.W.keepIn K (.ref (ga K x)))))))))))))))))
section
variable {K : Fr} {h : Heap} {mg : Str → Option Value} {P : Program}
/-- the pieces of errB -/
structure ErrF (file : Str) (K : Fr) (x fld : Str) : Prop where
  oex : OexC K (ga K x)
  cell : ∃ (cl : Value) (cld : Option Addr) (csl : Array (Option Value)), K.lookup (cellA K (eInit K x)) = some ⟨cl, cld, .cell (some (.ref (ga K x))), csl⟩
  file : ∃ (oc : Value) (od : Option Addr) (vs : Array Value) (sl : Array (Option Value)) (fl : Str) (tf : Tok), K.lookup (codeA K (eInit K x)) = some ⟨oc, od, .fields vs, sl⟩ ∧ vs[2]? = some (.str fl tf) ∧ (file == fl) = true
  isC : PySem.W.isClsIn K (ga K x) = true
  opq : PySem.W.nsIn K cStatics "thirdparty.any" = some none
  sup : SupCls K (ga K x) (ga K x)
  xf : XfC K (ga K x)
  no : PySem.W.findIn K (.ref (ga K x)) fld = some none
  exm : PySem.W.exmOne K (.ref (ga K x)) (.ref (ga K x)) = some true
  ini : PySem.W.findIn K (.ref (ga K x)) "__init__" = some (some (.ref (eInit K x)))
  ity : PySem.W.typeIn K (.ref (eInit K x)) = some (.type "function")
theorem errB_ok {file x fld : Str} (c : errB file K x fld = true) : ErrF file K x fld := by
  obtain ⟨c1, c⟩ := ba c
  obtain ⟨c2, c⟩ := ba c
  obtain ⟨c3, c⟩ := ba c
  obtain ⟨c4, c⟩ := ba c
  obtain ⟨c5, c⟩ := ba c
  obtain ⟨c6, c⟩ := ba c
  obtain ⟨c7, c⟩ := ba c
  obtain ⟨c8, c⟩ := ba c
  obtain ⟨c9, c⟩ := ba c
  obtain ⟨c10, c⟩ := ba c
  obtain ⟨c11, c⟩ := ba c
  obtain ⟨c12, c⟩ := ba c
  obtain ⟨c13, c⟩ := ba c
  obtain ⟨c14, c⟩ := ba c
  obtain ⟨c15, c⟩ := ba c
  obtain ⟨c16, c17⟩ := ba c
  have O : OexC K (ga K x) := ⟨oexB_ok c1, eqO_ok c14, of_decide_eq_true c15, of_decide_eq_true c16, c17⟩
  exact ⟨O, cellB_ok c2, fileB_ok c3, c4, eqO_ok c5, ⟨O, of_decide_eq_true c6, eqO_ok c7, of_decide_eq_true c8⟩, xfB_ok c9, eqO_ok c10, of_decide_eq_true c11, eqO_ok c12, of_decide_eq_true c13⟩
/-- the text of its __init__ -/
theorem err_txt {file x fld qual : Str} {st : Stmt} (E : ErrF file K x fld) (D : FunF K "__init__" qual st [(("__class__" : Str), cellA K (eInit K x))] (eInit K x)) (hf : P.main.file = file) (sup : mg "super" = none)
    (h1 : ∃ ar : Arg, ((defArgs st).posonlyargs ++ (defArgs st).args).head? = some ar ∧ ar.arg = ("self" : Str)) (h2 : (P.main.scope.names.lookup ("super" : Str)).isSome = false)
    (h3 : (defScope st).names.lookup ("super" : Str) = some .globalImplicit) (h4 : (defScope st).names.lookup ("__class__" : Str) = some .free) (h5 : (defScope st).names.lookup ("self" : Str) = some .local) :
    SupTxt P K mg ⟨"__init__", qual, defArgs st, defBody st, defScope st, [(("__class__" : Str), cellA K (eInit K x))], codeA K (eInit K x)⟩ (eInit K x) (cellA K (eInit K x)) (ga K x) := by
  obtain ⟨oc, od, doc, pm, an, ct, osl, lk, hcd⟩ := D.ex
  exact ⟨⟨oc, od, doc, pm, an, ct, osl, lk⟩, hcd, E.cell, rfl, by rw [hf]; exact E.file, h1, sup, h2, h3, h4, h5, E.isC, E.opq⟩
end
/-! ### an own error without a field, a property, an operator -/
def ernB (K : Fr) (x : Str) : Bool := PySem.W.excIn K (ga K x) veBase "ValueError.__new__" && (PySem.W.keepIn K (.ref (ga K x)) && (decide (PySem.W.subIn K (.ref (ga K x)) (.type "BaseException") = some true) && (decide (PySem.W.typeIn K (.ref (ga K x)) = some (.type "type")) &&
  decide (PySem.W.exmOne K (.ref (ga K x)) (.ref (ga K x)) = some true))))
/-- the getter of a property -/
def getA (K : Fr) (C : Addr) (m : Str) : Addr := He5.wf K C "property" m
def propB (K : Fr) (C : Addr) (m : Str) : Bool := eqO (PySem.W.findIn K (.ref C) m) (some (some (.ref (ma K C m)))) && (eqO (PySem.W.specialIn K (.ref (ma K C m)) "__get__") (some (some (.builtin "property.__get__"))) && (decide (PySem.W.takesIn K (.ref (ma K C m)) = some true) &&
  (match PySem.W.recIn K (ma K C m) "property" with
    | some (.ref _ :: _) => true
    | _ => false)))
theorem propB_ok {K : Fr} {C : Addr} {m : Str} (c : propB K C m = true) : PropOf K C m (ma K C m) (getA K C m) := by
  obtain ⟨c1, c⟩ := ba c
  obtain ⟨c2, c⟩ := ba c
  obtain ⟨c3, c4⟩ := ba c
  refine ⟨eqO_ok c1, eqO_ok c2, of_decide_eq_true c3, ?_⟩
  unfold getA He5.wf
  split at c4
  · rename_i f r e
    exact ⟨r, by rw [e]⟩
  · cases c4
/-- a def of the class under a name that Python itself looks up -/
def dunB (K : Fr) (C : Addr) (m : Str) : Bool := eqO (PySem.W.findIn K (.ref C) m) (some (some (.ref (ma K C m)))) && (PySem.W.isFn K (.ref (ma K C m)) && (PySem.W.fnIn K (ma K C m) && PySem.W.keepIn K (.ref (ma K C m))))
structure DunF (K : Fr) (C : Addr) (m : Str) : Prop where
  at_ : PySem.W.findIn K (.ref C) m = some (some (.ref (ma K C m)))
  isF : PySem.W.isFn K (.ref (ma K C m)) = true
  fn : PySem.W.fnIn K (ma K C m) = true
  kp : PySem.W.keepIn K (.ref (ma K C m)) = true
theorem dunB_ok {K : Fr} {C : Addr} {m : Str} (c : dunB K C m = true) : DunF K C m := by
  obtain ⟨c1, c⟩ := ba c
  obtain ⟨c2, c⟩ := ba c
  obtain ⟨c3, c4⟩ := ba c
  exact ⟨eqO_ok c1, c2, c3, c4⟩
theorem DunF.meth {K : Fr} {C : Addr} {m : Str} (d : DunF K C m) : Meth K C m (ma K C m) := ⟨d.at_, d.isF, d.kp⟩
theorem DunF.mkr {K : Fr} {C : Addr} (d : DunF K C "__init__") (m : PySem.W.makesIn K C = true) (k : PySem.W.keepIn K (.ref C) = true) : Mk K C (ma K C "__init__") := ⟨m, d.at_, d.isF, k⟩
theorem DunF.callO {K : Fr} {C : Addr} (d : DunF K C "__call__") : StX.CallO K C (ma K C "__call__") := ⟨d.at_, d.isF, d.fn⟩
/-! ### functions without a closure -/
section
variable {K : Fr} {x qual : Str} {st : Stmt} {f : Addr}
/-- its object -/
theorem FunF.funW (F : FunF K x qual st [] f) (kp : PySem.W.keepIn K (.ref f) = true) : ∃ fd, L2.Fun K x qual st f fd ∧ (∀ ps : List Str, (∀ (kV doc pm : Value) (an : Option Addr) (cdv ct : Value) (us : List Value), us.length = ps.length → bindArgs (PySem.W.fnOf x qual (defArgs st) (defBody st) (defScope st) .none kV doc pm an cdv ct) ⟨us, []⟩ = pure (ps.zip us)) → Binds K fd ps []) ∧
    ∀ ps : List Str, (∀ (kV doc pm : Value) (an : Option Addr) (cdv ct : Value) (us : List Value), us.length = ps.length → bindArgs (PySem.W.fnOf x qual (defArgs st) (defBody st) (defScope st) .none kV doc pm an cdv ct) ⟨us, []⟩ = pure (ps.zip us)) → ∀ (s : Shared) (us : List Value), us.length = ps.length → BindsTo s fd ⟨us, []⟩ (ps.zip us) := by
  obtain ⟨oc, od, doc, pm, an, ct, osl, lk, hcd⟩ := F.ex
  exact ⟨_, ⟨⟨oc, od, .none, doc, pm, an, _, ct, osl, rfl, lk, hcd⟩, kp⟩, fun ps h => .all (h .none doc pm an _ ct), fun ps h s us hl => .of_eq (h .none doc pm an _ ct us hl)⟩
end
end Shh
set_option Elab.async false
set_option linter.all false
set_option maxRecDepth 100000
set_option maxHeartbeats 2000000
/-! Lambdas as objects that are known: made (with a default or without), called. -/
namespace Sho
open PySem PySem.Spec PyProof.Rows L2 LamX NdefX

/-- a lambda's words: those of a def without a body, its expression, its defaults -/
structure LF where
  F : NF
  e : Expr
  dV : Value
abbrev LF.fd (Z : LF) (pm ctv : Value) : FuncData :=
  { PySem.W.kla_fn Z.F.name Z.F.qual Z.F.params Z.e Z.F.scope Z.F.cl pm (.ref Z.F.c) ctv with defaults := Z.dV }
/-- the object at f is that lambda -/
def LamO (f : Addr) (Z : LF) : HO :=
  .ext fun g => ∃ pm ctv : Value, g.get? f = some (({ cls := .type "function", data := .func (Z.fd pm ctv) }) : Obj)
theorem lamO_ne {f : Addr} {Z : LF} (qs : Array Value) : LamO f Z ≠ .tbl qs := fun h => nomatch h
theorem lamO_at {P : Program} {w : World} {H : Hp} {h : Heap} {f : Addr} {Z : LF} (ok : HOk P w H h) (hf : H f = some (LamO f Z)) :
    ∃ pm ctv : Value, h.get? f = some (({ cls := .type "function", data := .func (Z.fd pm ctv) }) : Obj) := by
  obtain ⟨x, _, _⟩ := ok f _ hf
  exact x
/-- nothing that was known is forgotten, but for the tables -/
structure Grows (T : List (Addr × Str)) (H H1 : Hp) : Prop where
  ext : ExtN H H1
  tab : Tabs T H → Tabs T H1
theorem Grows.rfl' {T : List (Addr × Str)} (H : Hp) : Grows T H H := ⟨ExtN.refl H, id⟩
theorem Grows.trans {T : List (Addr × Str)} {H H1 H2 : Hp} (a : Grows T H H1) (b : Grows T H1 H2) : Grows T H H2 := ⟨a.ext.trans b.ext, fun t => b.tab (a.tab t)⟩
theorem Grows.upd {T : List (Addr × Str)} {H : Hp} {p : Addr} {o : HO} (hp : H p = none) : Grows T H (L2.upd H p o) := by
  have e : ∀ b u, H b = some u → L2.upd H p o b = some u := fun b u q => (upd_ne (ne_of_none q hp)).trans q
  exact ⟨ExtN.of e, fun t => Tabs.ext t e⟩
/-- the words of a lambda that is made in X -/
abbrev mkLF (X : Cx) (params : Arguments) (body : Expr) (scope : Scope) (c' : Addr) (dV : Value) : LF :=
  ⟨⟨"<lambda>", X.env.qual ++ "<lambda>", params, [], scope, cloFrom X.env.cells scope.names [], c'⟩, body, dV⟩
section
variable {M : Model} {A : Around} {E : Value → Shared → Prop} {s : Shared}
/-- the making's end, the code object by a premise -/
theorem tail_d {name qual : Str} {params : Arguments} {body : Expr} {scope : Scope} {env : Env} {dV : Value} {pos : Pos} {fl : Nat} {clos : List (Str × Addr)} {mg : Str → Option Value} {Pl : Addr} {Q : Value → Shared → Prop}
    (hcl : closureFor scope env = pure clos) (hge : env.globals = mainGlobals)
    (h : ∀ h1 ctv, (∀ b o, s.heap.get? b = some o → h1.get? b = some o) → s.heap.objs.size ≤ h1.objs.size →
      wpAny M A (functionCode env pos fl name qual params scope (.expr body)) (fun cv s2 => s2.heap.Ns mainGlobals mg ∧ s2.heap.BuiltinsAt mg Pl ∧
        Q (.ref s2.heap.objs.size) { s2 with heap := s2.heap.push { cls := .type "function", data := .func { PySem.W.kla_fn name qual params body scope clos ((mg "__name__").getD .none) cv ctv with defaults := dV } } }) E { s with heap := h1 }) :
    wpAny M A (makeTail name qual params (.expr body) scope env dV .none none pos fl) Q E s := by
  unfold makeTail
  rw [hcl]
  refine wpAny_bind (wpAny_pure ?_)
  cases clos with
  | nil =>
    simp only [List.isEmpty_nil, if_true]
    refine wpAny_bind (wpAny_pure (wpAny_bind (wpAny_mono (h s.heap .none (fun _ _ e => e) (Nat.le_refl _)) (fun cv s2 x => ?_) fun _ _ x => x)))
    obtain ⟨g2, ⟨bm, ob, b1, b2, _, _, b5, b6, b7, b8⟩, q⟩ := x
    rw [hge]
    exact wpAny_bind (wpAny_builtinsFor g2 b1 b2 b5 b6 b7 b8 (wpAny_bind (wpAny_nsGet g2 (wpAny_bind (wpAny_pure (wpAny_newObj_type q (by size_fits)))))))
  | cons c r =>
    simp only [List.isEmpty_cons, Bool.false_eq_true, if_false]
    refine wpAny_bind (wpAny_newTextTuple (wpAny_bind (wpAny_mono (h _ (.ref s.heap.objs.size) (fun _ _ e => Heap.get?_push_of_some _ e) (by rw [Heap.size_push]; omega)) (fun cv s2 x => ?_) fun _ _ x => x)))
    obtain ⟨g2, ⟨bm, ob, b1, b2, _, _, b5, b6, b7, b8⟩, q⟩ := x
    rw [hge]
    exact wpAny_bind (wpAny_builtinsFor g2 b1 b2 b5 b6 b7 b8 (wpAny_bind (wpAny_nsGet g2 (wpAny_bind (wpAny_pure (wpAny_newObj_type q (by size_fits)))))))
end
section
variable {X : Cx} {pins : List (Addr × Obj)} {σ : L2.St} {H : Hp} {s : Shared}
theorem lamO_new {Z : LF} {tk : Nat} {pm ctv : Value} (I : Inv X pins σ H s) :
    Inv X pins σ (upd H s.heap.objs.size (LamO s.heap.objs.size Z))
      { s with heap := s.heap.push (({ cls := .type "function", data := .func (Z.fd pm ctv) }) : Obj), toks := tk } := by
  refine I.laid (fun b u e => Heap.get?_push_of_some _ e) (Nat.le_refl _) ?_
  have here : (s.heap.push (({ cls := .type "function", data := .func (Z.fd pm ctv) }) : Obj)).get? s.heap.objs.size = some (({ cls := .type "function", data := .func (Z.fd pm ctv) }) : Obj) :=
    Heap.get?_push_size _ rfl
  exact ⟨⟨pm, ctv, here⟩, ⟨_, here⟩, fun g1 g2 ⟨p, t, z⟩ st => ⟨p, t, st _ z⟩⟩

theorem lam_made {T : List (Addr × Str)} {c P : Addr} {params : Arguments} {body : Expr} {scope : Scope} {pos : Pos} {dV : Value} {E : Value → Shared → Prop} {Q : Value → Shared → Prop}
    (I : Inv X pins σ H s) (TB : TabB X.base X.mg c P) (hcode : X.env.code = .ref c)
    (hm : (P, X.env.qual ++ "<lambda>") ∈ T) (hu : ∀ p ∈ T, p.1 = P → p.2 = X.env.qual ++ "<lambda>") (hT : Tabs T H)
    (hcl : ∀ y ∈ scope.names, y.2 = .free → ∃ c, X.env.cells.lookup y.1 = some c)
    (h : ∀ (f c' : Addr) (H1 : Hp) (s' : Shared), Inv X pins σ H1 s' → Grows T H H1 → H f = none →
      H1 f = some (LamO f (mkLF X params body scope c' dV)) → H1 c' = some (CodeO c' (X.env.qual ++ "<lambda>")) → Q (.ref f) s') :
    wpAny (model X.prog X.w) X.A (makeTail "<lambda>" (X.env.qual ++ "<lambda>") params (.expr body) scope X.env dV .none none pos pos.line) Q E s := by
  obtain ⟨qs, hP, tri, among⟩ := (show TabS H P (X.env.qual ++ "<lambda>") from hT _ hm)
  refine tail_d (mg := X.mg) (Pl := P) (closure_ok hcl) I.ok.glob fun h1 ctv k1 z1 => ?_
  have I1 : Inv X pins σ H { s with heap := h1 } := I.kept (t' := s.toks) k1
  have hgP : h1.get? P = some { cls := .none, data := .fields qs } := I1.hok P _ hP
  have hbP := TB.bm.keeps I1.bk
  have CH := TB.code.keeps I1.bk
  cases hit : codeAmong pos qs.toList with
  | some cv =>
    obtain ⟨c', rfl, kc⟩ := among pos cv hit
    refine wpAny_functionCode_hit hcode (CH.code hgP tri) hit ⟨I1.mod.glob.keeps I1.bk, hbP, ?_⟩
    have nF : H h1.objs.size = none := I1.hok.fresh (Nat.le_refl _)
    exact h h1.objs.size c' _ _ (lamO_new (Z := mkLF X params body scope c' dV) (pm := (X.mg "__name__").getD .none) (ctv := ctv) (tk := s.toks) I1) (Grows.upd nF) nF upd_same
      ((upd_ne (ne_of_none kc nF)).trans kc)
  | none =>
    refine wpAny_functionCodeX hcode (CH.code hgP tri) (CH.tab hgP) hit fun c' h' tk hx hge hlt _ hrec htb _ => ?_
    have gl := (I1.mod.glob.keeps I1.bk).extBut hx TB.gP
    have bl : h'.BuiltinsAt X.mg P := by
      obtain ⟨bm, ob, b1, b2, b3, b4, b5, b6⟩ := hbP
      exact ⟨bm, ob, b1, b2, b3, b4, hx _ _ b4 b5, b6⟩
    refine ⟨gl, bl, ?_⟩
    obtain ⟨c2, oc, vs, t, e2, hoc, hd, hv⟩ := hrec
    cases e2
    have nC : H c' = none := I1.hok.fresh hge
    have J := inv_table (q := X.env.qual ++ "<lambda>") (t' := tk) (more := #[rawInt pos.line, rawInt pos.col, .ref c']) (h' := h') I1 hP (fun b o hb e => hx b o hb e) htb.2 hge ⟨oc, vs, t, hoc, hd, hv⟩
    generalize hH2 : L2.upd (L2.upd H P (.tbl (qs ++ #[rawInt pos.line, rawInt pos.col, .ref c']))) c' (CodeO c' (X.env.qual ++ "<lambda>")) = H2 at J
    have kC : H2 c' = some (CodeO c' (X.env.qual ++ "<lambda>")) := by rw [← hH2]; exact upd_same
    have ext : ExtN H H2 := fun b o e n => by
      have nP : b ≠ P := by
        rintro rfl
        exact n qs (Option.some.inj (e.symm.trans hP))
      rw [← hH2, upd_ne (ne_of_none e nC), upd_ne nP]
      exact e
    have eL : (qs ++ #[rawInt pos.line, rawInt pos.col, .ref c']).toList = qs.toList ++ [rawInt pos.line, rawInt pos.col, .ref c'] := by simp
    have tabs2 : Tabs T H2 := by
      intro p hp
      by_cases hb : p.1 = P
      · rw [hu p hp hb, hb]
        refine ⟨qs ++ #[rawInt pos.line, rawInt pos.col, .ref c'], ?_, ?_, ?_⟩
        · rw [← hH2, upd_ne (ne_of_none hP nC), upd_same]
        · rw [eL]
          exact PySem.TriplesOk_snoc _ _ _ _ tri
        · intro p' cv hcv
          rw [eL] at hcv
          rcases among_app _ tri hcv with z | z
          · obtain ⟨c0, f1, f2⟩ := among p' cv z
            exact ⟨c0, f1, ext _ _ f2 codeO_ne⟩
          · exact ⟨c', z, kC⟩
      · obtain ⟨qs', q1, q2, q3⟩ := hT p hp
        refine ⟨qs', ?_, q2, ?_⟩
        · rw [← hH2, upd_ne (ne_of_none q1 nC), upd_ne hb]
          exact q1
        · intro p' cv hcv
          obtain ⟨c0, f1, f2⟩ := q3 p' cv hcv
          exact ⟨c0, f1, ext _ _ f2 codeO_ne⟩
    have nF : H2 h'.objs.size = none := J.hok.fresh (Nat.le_refl _)
    have g2 : Grows T H2 (L2.upd H2 h'.objs.size (LamO h'.objs.size (mkLF X params body scope c' dV))) := Grows.upd nF
    exact h h'.objs.size c' _ _ (lamO_new (Z := mkLF X params body scope c' dV) (pm := (X.mg "__name__").getD .none) (ctv := ctv) (tk := tk) J) (Grows.trans ⟨ext, fun _ => tabs2⟩ g2)
      (I1.hok.fresh (Nat.le_trans hge (Nat.le_of_lt hlt))) upd_same (g2.ext _ _ kC codeO_ne)
end

/-! ### calls -/
section
variable {CX : CXT} {P : Program} {w : World} {K : PySem.W.Frag} {mg : Str → Option Value} {base : Heap} {N ps fr : List Str} {Z : LF} {f : Addr} {k : Nat}
/-- the body's context, at its entry -/
abbrev lcx (CX : CXT) (P : Program) (w : World) (K : PySem.W.Frag) (mg : Str → Option Value) (base : Heap) (N : List Str) (Z : LF) (f : Addr) (A : Around) (outer : List Env) (s : Shared) (H : Hp) (E : XK) : Cx :=
  ncx CX P w K mg base N Z.F f A outer s H E
theorem lam_call {A : Around} {outer : List Env} {s : Shared} {H : Hp} {args : Args} {us : List Value} {vs : List V} {ws : List (Option V)} {Q : VK} {E : XK} {t : TE} {pm ctv : Value}
    (S : NScope N ps fr Z.F.scope) (hr : Room (k + 1) A) (e0 : Env0 P w K mg base A outer s H)
    (ho : s.heap.get? f = some (({ cls := .type "function", data := .func (Z.fd pm ctv) }) : Obj)) (hcr : s.heap.CodeRec (.ref Z.F.c) Z.F.qual)
    (hb : BindsTo s (Z.fd pm ctv) args (ps.zip us)) (hl : vs.length = ps.length) (C : CellsAt Z.F.cl fr ws s.heap H) (r : Vals vs us)
    (hbody : Room k (A.deeper (envF Z.F f s.heap.objs.size)) → PE (lcx CX P w K mg base N Z f A outer s H E) Z.e t) (hq : t (startF N vs ws) H Q) :
    codeAny (model P w) A (.call (.ref f) args) (CR CX outer P w H s Q E) s := by
  have nolim : s.heap.NoLimit := e0.mod.nolimit.keeps fun b o e => (e0.bs b o e).1
  refine PySem.W.kla_callFunE hr.depth ho rfl S.co S.gen rfl hcr ?_
  refine hb _ _ _ _ ?_
  refine wpAny_newFunctionEnv S.nocell (fun ⟨n, _⟩ hy => S.par n (List.of_mem_zip hy).1) (fun h₁ hns hsb => ⟨nolim.fresh _ hsb, ?_⟩) S.kind
  show codeAny _ _ (.expr Z.e (envF Z.F f s.heap.objs.size)) _ _
  have kp : ∀ b o, s.heap.get? b = some o → h₁.get? b = some o :=
    fun b o e => hsb.extBut b o (Nat.ne_of_lt (Heap.lt_size e)) (Heap.get?_push_of_some _ e)
  have J : Inv (lcx CX P w K mg base N Z f A outer s H E) [] (startF N vs ws) H { s with heap := h₁, toks := s.toks + (ps.zip us).length } :=
    inv_startN S hr.hd e0 hl r C hns kp
  refine PySem.W.kla_codeExpr (wpAny_mono ((hbody (hr.deeper _)).run [] _ _ H Q J hq) (fun v s' hh => ?_) fun e s' hh => hh)
  obtain ⟨v', H', J', rv, q⟩ := hh
  exact ⟨v', H', J'.os, J'.bare, J'.base, J'.hok, rv, q⟩
/-- what the heap knows of a lambda at f -/
structure LamAt (H : Hp) (f : Addr) (Z : LF) : Prop where
  o : H f = some (LamO f Z)
  c : H Z.F.c = some (CodeO Z.F.c Z.F.qual)
  d : ∀ T : Addr, Z.dV = .ref T → ∃ xs, H T = some (.tup xs) ∧ xs = [.int 0]
theorem LamAt.ext {H H1 : Hp} (a : LamAt H f Z) (e : ExtN H H1) : LamAt H1 f Z :=
  ⟨e _ _ a.o lamO_ne, e _ _ a.c codeO_ne, fun T h => (a.d T h).elim fun xs q => ⟨xs, e _ _ q.1 (fun ps z => nomatch z), q.2⟩⟩
abbrev SpL := List (Option V) → Hp → VK → XK → Prop
/-- f may be called without arguments; cl, fr: its captured cells; sp: by what they hold -/
def Act (P : Program) (w : World) (K : PySem.W.Frag) (mg : Str → Option Value) (base : Heap) (CX : CXT) (k : Nat) (cl : List (Str × Addr)) (fr : List Str) (sp : SpL) (f : Addr) (H : Hp) : Prop :=
  ∃ Z : LF, Z.F.cl = cl ∧ LamAt H f Z ∧ ∀ (A : Around) (outer : List Env) (s : Shared) (H' : Hp) (ws : List (Option V)) (Q : VK) (E : XK), Room k A → Env0 P w K mg base A outer s H' → LamAt H' f Z →
    CellsAt cl fr ws s.heap H' → sp ws H' Q E → codeAny (model P w) A (.call (.ref f) ⟨[], []⟩) (CR CX outer P w H' s Q E) s
theorem Act.ext {cl : List (Str × Addr)} {sp : SpL} {H H1 : Hp} (a : Act P w K mg base CX k cl fr sp f H) (e : ExtN H H1) : Act P w K mg base CX k cl fr sp f H1 := by
  obtain ⟨Z, h1, h2, h3⟩ := a
  exact ⟨Z, h1, h2.ext e, h3⟩
theorem Act.mono {cl : List (Str × Addr)} {sp sp' : SpL} {H : Hp} {k' : Nat} (a : Act P w K mg base CX k cl fr sp f H) (h : k ≤ k') (i : ∀ ws H Q E, sp' ws H Q E → sp ws H Q E) : Act P w K mg base CX k' cl fr sp' f H := by
  obtain ⟨Z, h1, h2, h3⟩ := a
  exact ⟨Z, h1, h2, fun A outer s H' ws Q E hr e0 l c q => h3 A outer s H' ws Q E (hr.mono h) e0 l c (i _ _ _ _ q)⟩
/-- a lambda without parameters -/
theorem act0 {sp : SpL} {H : Hp} (l : LamAt H f Z) (S : NScope N [] fr Z.F.scope) (hb : ∀ pm ctv : Value, bindArgs (Z.fd pm ctv) ⟨[], []⟩ = pure [])
    (hbody : ∀ (A : Around) (outer : List Env) (s : Shared) (H : Hp) (ws : List (Option V)) (Q : VK) (E : XK), Room k (A.deeper (envF Z.F f s.heap.objs.size)) → ws.length = fr.length → sp ws H Q E →
      ∃ t, PE (lcx CX P w K mg base N Z f A outer s H E) Z.e t ∧ t (startF N [] ws) H Q) : Act P w K mg base CX (k + 1) Z.F.cl fr sp f H := by
  refine ⟨Z, rfl, l, fun A outer s H' ws Q E hr e0 l' C h => ?_⟩
  obtain ⟨pm, ctv, ho⟩ := lamO_at e0.hok l'.o
  obtain ⟨t, ht, hq⟩ := hbody A outer s H' ws Q E (hr.deeper _) C.len h
  exact lam_call (ps := []) (us := []) S hr e0 ho (codeO_at e0.hok l'.c) (.of_eq (hb pm ctv)) rfl C .nil (fun _ => ht) hq
/-- .. of one parameter, whose default is 0 -/
theorem act1 {x : Str} {T : Addr} {sp : SpL} {H : Hp} (l : LamAt H f Z) (hT : Z.dV = .ref T) (S : NScope N [x] fr Z.F.scope)
    (hb : ∀ (pm ctv u : Value), ∃ kk, bindArgs (Z.fd pm ctv) ⟨[], []⟩ = seqItems? Z.dV >>= kk ∧ kk (some #[u]) = pure [(x, u)])
    (hbody : ∀ (A : Around) (outer : List Env) (s : Shared) (H : Hp) (ws : List (Option V)) (Q : VK) (E : XK), Room k (A.deeper (envF Z.F f s.heap.objs.size)) → ws.length = fr.length → sp ws H Q E →
      ∃ t, PE (lcx CX P w K mg base N Z f A outer s H E) Z.e t ∧ t (startF N [.int 0] ws) H Q) : Act P w K mg base CX (k + 1) Z.F.cl fr sp f H := by
  refine ⟨Z, rfl, l, fun A outer s H' ws Q E hr e0 l' C h => ?_⟩
  obtain ⟨pm, ctv, ho⟩ := lamO_at e0.hok l'.o
  obtain ⟨xs, hx, rfl⟩ := l'.d T hT
  obtain ⟨_, its, rv, ht1⟩ := e0.hok T _ hx
  cases rv with
  | @cons _ u _ _ ru rn =>
  cases rn
  obtain ⟨t, ht, hq⟩ := hbody A outer s H' ws Q E (hr.deeper _) C.len h
  obtain ⟨kk, b1, b2⟩ := hb pm ctv u
  obtain ⟨oT, g1, _, n, g3⟩ := ht1
  refine lam_call (ps := [x]) (us := [u]) S hr e0 ho (codeO_at e0.hok l'.c) ?_ rfl C (.cons ru .nil) (fun _ => ht) hq
  exact BindsTo.of_defaults (fd := Z.fd pm ctv) (k := kk) hT g1 g3 b1 b2
end

/-! ### the rules: a lambda as a value -/
section
variable {X : Cx} {T : List (Addr × Str)} {c P : Addr} {params : Arguments} {body : Expr} {scope : Scope} {pos : Pos}
/-- the new lambda stands at f; mk: its words by its code object and its defaults -/
def tLamO (T : List (Addr × Str)) (mk : Addr → Value → LF) : TE := fun σ H Q => Tabs T H ∧ ∀ (f c' : Addr) (H1 : Hp), Grows T H H1 → H f = none → LamAt H1 f (mk c' .none) → Q (.ref f) H1
def tLamD (T : List (Addr × Str)) (mk : Addr → Value → LF) : TE := fun σ H Q => Tabs T H ∧ ∀ (f c' t : Addr) (H1 : Hp), Grows T H H1 → H f = none → LamAt H1 f (mk c' (.ref t)) → Q (.ref f) H1
theorem pe_lam (TB : TabB X.base X.mg c P) (hcode : X.env.code = .ref c)
    (hm : (P, X.env.qual ++ "<lambda>") ∈ T) (hu : ∀ p ∈ T, p.1 = P → p.2 = X.env.qual ++ "<lambda>")
    (hfree : ∀ y ∈ scope.names, y.2 = .free → X.env.scope.names.lookup y.1 = some .cell ∨ X.env.scope.names.lookup y.1 = some .free) (hdef : defaultsOf params X.env = ([], []) := by exact rfl) :
    PE X (.Lambda params body scope pos) (tLamO T (mkLF X params body scope)) := by
  refine ⟨fun pins s σ H Q I ⟨hT, h⟩ => PySem.W.kla_eval hdef ?_⟩
  rw [makeFunction_eq]
  simp only [List.zip_nil_right, List.filterMap_nil, List.isEmpty_nil, if_true, pure_bind]
  refine lam_made I TB hcode hm hu hT (fun y hy e => I.ok.has _ (hfree y hy e)) fun f c' H1 s' I1 g n1 e1 e2 => ?_
  exact ⟨.ref f, H1, I1, rfl, h f c' H1 g n1 ⟨e1, e2, fun t z => nomatch z⟩⟩
/-- a default that is an int: 0 -/
theorem pe_lamD {d : Expr} (TB : TabB X.base X.mg c P) (hcode : X.env.code = .ref c)
    (hm : (P, X.env.qual ++ "<lambda>") ∈ T) (hu : ∀ p ∈ T, p.1 = P → p.2 = X.env.qual ++ "<lambda>")
    (hfree : ∀ y ∈ scope.names, y.2 = .free → X.env.scope.names.lookup y.1 = some .cell ∨ X.env.scope.names.lookup y.1 = some .free)
    (hd : PE X d (tC (.int 0))) (hdef : defaultsOf params X.env = ([eval d X.env], []) := by exact rfl) :
    PE X (.Lambda params body scope pos) (tLamD T (mkLF X params body scope)) := by
  refine ⟨fun pins s σ H Q I ⟨hT, h⟩ => ?_⟩
  rw [arm_eval_Lambda, hdef]
  show wpAny _ X.A (do
    let dv ← evalAll [eval d X.env]
    let kdv ← holding dv (evalAllOpt [])
    makeFunction "<lambda>" (X.env.qual ++ "<lambda>") params (.expr body) scope X.env dv kdv [] pos pos.line) _ _ s
  refine wpAny_bind ?_
  show wpAny _ X.A (eval d X.env >>= fun v => _) _ _ s
  refine wpAny_bind (thn (hd.run pins s σ H (fun v H1 => v = .int 0 ∧ H1 = H) I ⟨rfl, rfl⟩) fun v s1 x => ?_)
  obtain ⟨v0, H1, I1, rv, rfl, rfl⟩ := x
  refine wpAny_bind (wpAny_holding (wpAny_pure (wpAny_pure ?_)))
  refine wpAny_bind (wpAny_holding (wpAny_pure ?_))
  rw [makeFunction_eq]
  simp only [List.zip_nil_right, List.filterMap_nil, List.isEmpty_nil, List.isEmpty_cons, Bool.false_eq_true, if_true, if_false, pure_bind]
  refine wpAny_bind (wpAny_newTextTuple ?_)
  have nT : H1 s1.heap.objs.size = none := I1.hok.fresh (Nat.le_refl _)
  have I2 : Inv X pins σ (upd H1 s1.heap.objs.size (.tup [.int 0])) { s1 with heap := s1.heap.push { cls := .type "tuple", data := .seq [v].toArray } } :=
    I1.laid (t' := s1.toks) (fun b o e => Heap.get?_push_of_some _ e) (Nat.le_refl _) ⟨by decide, [v], .cons rv .nil, _, Heap.get?_push_size _ rfl, rfl, 0, rfl⟩
  have G2 : Grows T H1 (upd H1 s1.heap.objs.size (.tup [.int 0])) := Grows.upd nT
  refine lam_made I2 TB hcode hm hu (G2.tab hT) (fun y hy e => I2.ok.has _ (hfree y hy e)) fun f c' H3 s' I3 g n1 e1 e2 => ?_
  have tT : H3 s1.heap.objs.size = some (.tup [.int 0]) := g.ext _ _ upd_same fun ps z => nomatch z
  have nf : H1 f = none := by
    by_cases z : f = s1.heap.objs.size
    · rw [z]
      exact nT
    · rw [upd_ne z] at n1
      exact n1
  exact ⟨.ref f, H3, I3, rfl, h f c' s1.heap.objs.size H3 (G2.trans g) nf ⟨e1, e2, fun t z => by cases z; exact ⟨_, tT, rfl⟩⟩⟩
end
end Sho
set_option Elab.async false
set_option linter.all false
set_option maxRecDepth 100000
set_option maxHeartbeats 2000000
/-! A try whose clauses may each bind the exception or not. -/
namespace Sho
open PySem PySem.Spec PyProof.Rows L2
/-- a clause: the class, the slot of its name (if it has one), its suite's reading -/
structure Clause where
  c : Value
  i : Option Nat
  ts : Addr → Value → Option Addr → TS
def setO (σ : L2.St) : Option Nat → Option V → L2.St
  | none, _ => σ
  | some i, v => σ.set i v
/-- a suite's ends: the clause's name is gone -/
def endsO (D : Ends) (i : Option Nat) : Ends :=
  { nx := fun σ H => D.nx (setO σ i none) H, rt := D.rt, bk := fun σ H => D.bk (setO σ i none) H, ct := fun σ H => D.ct (setO σ i none) H }
def wClauses (K : PySem.W.Frag) (Wout : WX) (D : Ends) : List Clause → WX
  | [] => Wout
  | C :: r => fun cls d σ H => ∃ b, PySem.W.exmOne K cls C.c = some b ∧
    (b = true → ∀ a, H a = none → C.ts a cls d (endsO D C.i) (setO σ C.i (some (.ref a))) H) ∧ (b = false → wClauses K Wout D r cls d σ H)
def Bound (X : Cx) : Option Str → Option Nat → Prop
  | none, none => True
  | some n, some i => X.N[i]? = some n ∧ X.env.kindOf n = some .local
  | _, _ => False
inductive ClausesOk (X : Cx) : List ExceptHandler → List Clause → Prop
  | nil : ClausesOk X [] []
  | cons {x : Str} {n : Option Str} {C : Clause} {b₀ : Stmt} {suite : List Stmt} {np hp : Pos} {hds : List ExceptHandler} {l : List Clause} (hc : Names X x C.c) (hn : Bound X n C.i)
      (body : ∀ (a : Addr) (oe : Obj) (cls : Value) (d : Option Addr) (pn : List (Addr × Obj)), Zc cls d oe → (∃ vs, oe.data = .fields vs) → PSs (X.suite a ((a, oe) :: pn)) (b₀ :: suite) (C.ts a cls d))
      (rest : ClausesOk X hds l) : ClausesOk X (.ExceptHandler (some (.Name x np)) n (b₀ :: suite) hp :: hds) (C :: l)
/-- an exception that X's frame has caught, in the state s -/
structure Caught (X : Cx) (pins : List (Addr × Obj)) (σ : L2.St) (H : Hp) (B : Heap) (a : Addr) (cls : Value) (d : Option Addr) (s : Shared) : Prop where
  fly : HandSPX.FlyingZ B (X.env :: X.outer) a (Zc cls d) s.heap
  back : ∀ h, HandSPX.FlyingZ B (X.env :: X.outer) a (Zc cls d) h → s.heap.UpToSlots h → Inv X pins σ H { s with heap := h }
  on : ∀ h (W : WX), HandSPX.HeldZ B (X.env :: X.outer) a (Zc cls d) X.env.locals h → s.heap.UpToSlots h → W cls d σ H → XE X W (.ref a) { s with heap := h }
  free : H a = none
section
variable {X : Cx} {pins : List (Addr × Obj)} {σ : L2.St} {H : Hp} {B : Heap} {a : Addr} {cls : Value} {d : Option Addr} {s : Shared}
theorem Caught.inv (c : Caught X pins σ H B a cls d s) : Inv X pins σ H s := c.back s.heap c.fly (.refl _)
theorem Caught.apart (c : Caught X pins σ H B a cls d s) (hf : X.env.frame = some X.env.locals) : a ≠ X.env.locals ∧ a ∉ X.fs := by
  obtain ⟨oe, vs, he, _, hd⟩ := c.fly.there
  have out : a ∉ frs (X.env :: X.outer) := fun hm => by
    obtain ⟨_, o, e, nf⟩ := c.fly.2.2.1.mem hm
    rw [he] at e
    cases e
    exact nf _ hd
  refine ⟨fun z => out (List.mem_filterMap.mpr ⟨X.env, .head _, hf.trans (congrArg some z.symm)⟩), fun hm => ?_⟩
  obtain ⟨e, he2, q⟩ := List.mem_filterMap.mp hm
  exact out (List.mem_filterMap.mpr ⟨e, .tail _ he2, q⟩)
theorem caught_of {xe : Value → Shared → Prop} {W : WX} {u : Value} {Q : Shared → Prop} {E : Value → Shared → Prop} (hs : X.stack = X.env :: X.outer) (hf : X.env.frame = some X.env.locals) (ok : X.Ok)
    (x : XE (X.tr (X.pn ++ pins) xe) W u s)
    (h : ∀ a B σ H cls d h3, u = .ref a → Caught X pins σ H B a cls d { s with heap := h3 } → W cls d σ H → Q { s with heap := h3 }) :
    wpAny (model X.prog X.w) X.A (noteFrame u X.env) (fun _ s2 => wpAny (model X.prog X.w) X.A (setFlight u none) (fun _ s3 => Q s3) E s2) E s := by
  obtain ⟨a, B, s0, pins', σ1, H1, cls, d, rfl, J1, ground, up, sky, na, os, ag, w⟩ := x
  have J : Inv X pins σ1 H1 s0 := J1.ofTry ok
  have sky2 : Sky B (X.env :: X.outer) a (Zc cls d) X.env.locals s.heap := hs ▸ sky
  refine Sky.land Zc.steady (ok.frames.trans (congrArg some hs)) hf sky2 fun h3 fly up3 => ?_
  refine h a B σ1 H1 cls d h3 rfl ⟨fly, fun g fg ug => J.landed ground fg.1 (up.trans (up3.trans ug)) os ag, fun g W2 hg ug w2 => ?_, na⟩ w
  exact ⟨a, B, s0, pins, σ1, H1, cls, d, rfl, J, ground, up.trans (up3.trans ug), .inr (.inr (by rw [hs]; exact hg)), na, os, ag, w2⟩

theorem clauses_run {Wout : WX} {D : Ends} (hs : X.stack = X.env :: X.outer) (hf : X.env.frame = some X.env.locals) (hN : X.N.Nodup) (tk : Takes X Wout) (c : Caught X pins σ H B a cls d s)
    {hds : List ExceptHandler} {l : List Clause} (hk : ClausesOk X hds l) : wClauses X.K Wout D l cls d σ H →
    wpAny (model X.prog X.w) X.A (handleBy (.ref a) X.env hds) (SP X pins D) X.xe s := by
  have ok := c.inv.ok
  induction hk with
  | nil =>
    intro w
    refine wpAny_handleBy_nil ?_
    obtain ⟨_, _, _, oe, vs, T, oT, ts', he, hz, hd, h1, _⟩ := id c.fly
    unfold PySem.passOn
    refine wpAny_bind (wpAny_field he hd h1 ?_)
    rw [if_neg (show ¬ ((Value.ref T == Value.none) = true) by simp)]
    have up : wpAny (model X.prog X.w) X.A (setFlight (.ref a) X.env.frame) (fun _ s4 => wpAny (model X.prog X.w) X.A (throw (.ref a) : Sem PySem.Flow) (SP X pins D) X.xe s4) X.xe s := by
      rw [hf]
      exact HandSPX.setFlight_upZ c.fly fun g hg ug => wpAny_throw (tk _ _ (c.on g Wout hg ug w))
    first
      | exact wpAny_bind (wpAny_pure (wpAny_bind up))
      | exact wpAny_bind up
  | @cons x n C b₀ suite np hp hds2 l2 hc hn body rest ih =>
    intro w
    obtain ⟨b, hb, yes, no⟩ := w
    obtain ⟨oe, vs, he, hz, hd⟩ := c.fly.there
    obtain ⟨nL, nF⟩ := c.apart hf
    have I := c.inv
    have IS := I.suite he hd c.free nL nF
    refine wpAny_handleBy_cons (codeAny_handlers_test ?_) (by intro q; cases q)
    have lt : PySem.W.Looks (model X.prog X.w) s.heap (typeOf (.ref a)) cls := fun A Q E s k q => wpAny_typeOf_ref (k _ _ he) (by rw [hz.1]; exact q)
    have lm := PySem.W.exm_one (M := model X.prog X.w) I.kIn lt hb
    have named : ∀ {Q : Value → Shared → Prop} {E : Value → Shared → Prop}, Q C.c s → wpAny (model X.prog X.w) (X.A.mark (some (.ref a))) (eval (.Name x np) X.env) Q E s := fun {Q E} q => by
      obtain ⟨g1, g2, g3⟩ := hc
      rcases g3 with g3 | ⟨g3, g4, g5⟩
      · exact ld_glob (X := X.suite a ((a, oe) :: (X.pn ++ pins))) IS g1 g3 q g2
      · exact ld_blt (X := X.suite a ((a, oe) :: (X.pn ++ pins))) IS g1 g3 g4 q g5 g2
    refine named (lm.here ?_)
    cases b with
    | false => exact ih (no rfl)
    | true =>
      have go : ∀ g, HandSPX.FlyingZ B (X.env :: X.outer) a (Zc cls d) g → s.heap.UpToSlots g → ∃ oe4 vs4, Zc cls d oe4 ∧ oe4.data = .fields vs4 ∧ Inv (X.suite a ((a, oe4) :: (X.pn ++ pins))) [] σ H { s with heap := g } := fun g fg ug => by
        obtain ⟨oe4, vs4, he4, hz4, hd4⟩ := fg.there
        exact ⟨oe4, vs4, hz4, hd4, (c.back g fg ug).suite he4 hd4 c.free nL nF⟩
      cases n with
      | none =>
        match hi : C.i with
        | some i =>
          rw [hi] at hn
          exact hn.elim
        | none =>
          rw [hi] at yes
          refine codeAny_handlers_suite ?_
          refine HandSPX.lands_againZ c.fly fun g fg ug => ?_
          obtain ⟨oe4, vs4, hz4, hd4, I4⟩ := go g fg ug
          refine wpAny_mono ((body a oe4 cls d (X.pn ++ pins) hz4 ⟨_, hd4⟩).run [] _ _ H _ I4 (yes rfl a c.free)) (fun f s6 r => ?_) fun _ _ z => False.elim z
          cases f with
          | ret u =>
            obtain ⟨v6, σ6, H6, I6, r6, q6⟩ := r
            exact ⟨v6, σ6, H6, I6.unsuite ok, r6, q6⟩
          | next => obtain ⟨σ6, H6, I6, q6⟩ := r; exact ⟨σ6, H6, I6.unsuite ok, q6⟩
          | brk => obtain ⟨σ6, H6, I6, q6⟩ := r; exact ⟨σ6, H6, I6.unsuite ok, q6⟩
          | cont => obtain ⟨σ6, H6, I6, q6⟩ := r; exact ⟨σ6, H6, I6.unsuite ok, q6⟩
      | some n =>
        match hi : C.i with
        | none =>
          rw [hi] at hn
          exact hn.elim
        | some i =>
          rw [hi] at hn yes
          obtain ⟨hni, hln⟩ := hn
          refine codeAny_handlers_suite_as ?_
          refine HandSPX.lands_againZ c.fly fun g fg ug => ?_
          obtain ⟨oe4, vs4, hz4, hd4, I4⟩ := go g fg ug
          refine store_ok (X := X.suite a ((a, oe4) :: (X.pn ++ pins))) (v := .ref a) I4 hN hni (.inl hln) rfl (fun s5 I5 => ?_) (.inr hln)
          refine wpAny_mono ((body a oe4 cls d (X.pn ++ pins) hz4 ⟨_, hd4⟩).run [] s5 _ H _ I5 (yes rfl a c.free)) (fun f s6 r => ?_) fun _ _ z => False.elim z
          have gone : ∀ {σ6 : L2.St} {H6 : Hp} {Q : Shared → Prop}, Inv (X.suite a ((a, oe4) :: (X.pn ++ pins))) [] σ6 H6 s6 → (∀ s7, Inv X pins (σ6.set i none) H6 s7 → Q s7) →
              wpAny (model X.prog X.w) X.A (do bindName X.env n .none; unbindBehindTheSuite X.env n hp) (fun _ s7 => Q s7) X.xe s6 := fun {σ6 H6 Q} I6 k => gone_ok (I6.unsuite ok) hN hni hln k
          cases f with
          | ret u =>
            obtain ⟨v6, σ6, H6, I6, r6, q6⟩ := r
            exact gone I6 fun s7 I7 => ⟨v6, _, H6, I7, r6, q6⟩
          | next => obtain ⟨σ6, H6, I6, q6⟩ := r; exact gone I6 fun s7 I7 => ⟨_, H6, I7, q6⟩
          | brk => obtain ⟨σ6, H6, I6, q6⟩ := r; exact gone I6 fun s7 I7 => ⟨_, H6, I7, q6⟩
          | cont => obtain ⟨σ6, H6, I6, q6⟩ := r; exact gone I6 fun s7 I7 => ⟨_, H6, I7, q6⟩
end
section
variable {X : Cx} {body : List Stmt} {h₀ : ExceptHandler} {hds : List ExceptHandler} {l : List Clause} {pos : Pos} {tb : WX → TS} {Wout : WX}
/-- try: body / except A as e: .. / except B: .. -/
theorem ps_try (hs : X.stack = X.env :: X.outer) (hf : X.env.frame = some X.env.locals) (hN : X.N.Nodup) (tk : Takes X Wout)
    (hb : ∀ (W : WX) (pn : List (Addr × Obj)) (xe : Value → Shared → Prop), Takes (X.tr pn xe) W → PassesOwn (model X.prog X.w) X.A X.env xe → PSs (X.tr pn xe) body (tb W))
    (hk : ClausesOk X (h₀ :: hds) l) : PS X (.Try body (h₀ :: hds) [] [] pos) (fun D σ H => tb (wClauses X.K Wout D l) D σ H) := by
  refine ⟨fun pins s σ H D I h => wpAny_Try_except ?_⟩
  have ok := I.ok
  refine wpAny_mono ((hb (wClauses X.K Wout D l) (X.pn ++ pins) (fun e s₁ => wpAny (model X.prog X.w) X.A (noteFrame e X.env)
    (fun _ s₂ => wpAny (model X.prog X.w) X.A (setFlight e none) (fun _ s₃ => wpAny (model X.prog X.w) X.A (handleBy e X.env (h₀ :: hds)) (SP X pins D) X.xe s₃) X.xe s₂) X.xe s₁)
    (fun u s' x => ?_) PassesOwn.looking).run [] s σ H D (I.toTry _) h) (fun f s1 r => ?_) fun _ _ z => z
  · refine caught_of hs hf ok x fun a B σ1 H1 cls d h3 e c w => ?_
    subst e
    exact clauses_run hs hf hN tk c hk w
  · cases f with
    | ret u =>
      obtain ⟨v6, σ6, H6, I6, r6, q6⟩ := r
      exact ⟨v6, σ6, H6, I6.ofTry ok, r6, q6⟩
    | next => obtain ⟨σ6, H6, I6, q6⟩ := r; exact wpAny_execs_nil ⟨σ6, H6, I6.ofTry ok, q6⟩
    | brk => obtain ⟨σ6, H6, I6, q6⟩ := r; exact ⟨σ6, H6, I6.ofTry ok, q6⟩
    | cont => obtain ⟨σ6, H6, I6, q6⟩ := r; exact ⟨σ6, H6, I6.ofTry ok, q6⟩
end
end Sho
set_option Elab.async false
set_option linter.all false
set_option maxRecDepth 100000
set_option maxHeartbeats 2000000
/-! A list comprehension whose element may rest on what the block's start knows of the heap itself. -/
namespace Sho
open PySem PySem.Spec PyProof.Rows L2
section
variable {X : Cx} {scope : Scope} {fp : List Addr} {own : List (Str × Nat)}
/-- the block's environment, made at s -/
abbrev blkEnv (X : Cx) (scope : Scope) (s : Shared) : Env := compEnvC scope (cellsFrom (s.heap.objs.size + 1) scope.names (cloFrom X.env.cells scope.names [])) s.heap.objs.size X.env
abbrev blkS (scope : Scope) (s : Shared) : Shared := { s with heap := pushCells (s.heap.push { cls := .type "dict", data := .dict #[] }) scope.names }
/-- out of the block: its state is one of the def's -/
theorem blk_out {pins : List (Addr × Obj)} {σ σ' : L2.St} {H H' : Hp} {s s' : Shared} (I : Inv X pins σ H s) (hfp : ∀ b ∈ fp, FpOk X pins H b)
    (J : Inv (X.blk s H scope (blkEnv X scope s) fp) [] σ' H' s') : Inv X pins σ H' s' ∧ ∃ m, s'.heap.Ns s.heap.objs.size m ∧ FpOk X pins H' s.heap.objs.size := by
  obtain ⟨m, hm, _⟩ := J.loc
  refine ⟨I.call' (ch := fp) J.os J.base J.hok J.bare fun b hb => ?_, m, hm, I.fpOk (Nat.le_refl _) J.free⟩
  obtain ⟨_, z1, z2, z3, z4, z5⟩ := hfp b hb
  exact ⟨z3, z1, z4, z5⟩
/-- a tracked list that grows -/
theorem grow {pins : List (Addr × Obj)} {σ : L2.St} {H : Hp} {s : Shared} (I : Inv X pins σ H s) :
    Inv X pins σ (upd H s.heap.objs.size (.lst [])) { s with heap := s.heap.push { cls := .type "list", data := .seq ([] : List Value).toArray } } :=
  I.laid (t' := s.toks) (fun b o e => Heap.get?_push_of_some _ e) (Nat.le_refl _) ⟨Nat.zero_le _, [], 0, .nil, Heap.get?_push_size _ rfl⟩

/-- the block's loop, by the readings of its target, tests and element -/
theorem lc_loop {B : Cx} {R : Result → Shared → Prop} {elt tg iter : Expr} {ifs : List Expr} {pos : Pos} {g : TG} {tt : TT} {te : TE} {J : It} {it D : Addr} {tn : Nat → Heap → Prop} {W : Nat → Nat → Hp → Prop} {σ : L2.St} {vs : List Nat}
    (hc : B.calm = true) (hxe : B.xe = fun _ _ => False) (T : Turn B.prog B.w B.K tg J fp it tn) (pg : PG B tg g) (pt : PTs B ifs tt) (pe : PE B elt te)
    (fpok : ∀ (pins : List (Addr × Obj)) (τ : L2.St) (H : Hp) (s : Shared), Inv B [] τ H s → (∀ b ∈ fp, H b = none) → ∀ b ∈ fp, FpOk B [] H b)
    (turn : ∀ (i m : Nat) (H : Hp), W i m H → (J.stop i H ∧ ∀ s, Inv B [] σ H s → R (.ok .next) s) ∨
      (J.go i H ∧ ∃ Nx : Hp → Prop, (∀ H', Nx H' → ∃ m', m' < m ∧ W (i + 1) m' H') ∧ ∀ x H', J.yld i H x H' → g x σ H' fun σ2 H2 => wipe σ2 vs = σ ∧ tt σ2 H2 fun b H3 =>
        if b = true then te σ2 H3 fun y H4 => ∃ acc, H4 D = some (.lst acc) ∧ acc.length < sizeLine ∧ Nx (upd H4 D (.lst (acc ++ [y]))) else Nx H3))
    {m : Nat} {H : Hp} {s : Shared} (I : Inv B [] σ H s) (st : tn 0 s.heap) (hn : ∀ b ∈ fp, H b = none) (w : W 0 m H) :
    codeAny (model B.prog B.w) B.A (.compLoop (.ListComp elt [⟨tg, iter, ifs, 0⟩] scope pos) 0 (.ref it) (.ref D) B.env) R s := by
  refine compLoop_any (fun n s' => ∃ i H', Inv B [] σ H' s' ∧ tn i s'.heap ∧ (∀ b ∈ fp, H' b = none) ∧ W i n H') ?_ m ⟨0, H, I, st, hn, w⟩
  rintro n s5 ⟨i, H5, I5, st5, n5, w5⟩
  rcases turn i n H5 w5 with ⟨stop, fin⟩ | ⟨go, Nx, less, step⟩
  · refine thnF (T.done B rfl rfl rfl hc i [] s5 σ H5 (fun _ _ => False) I5 (fpok [] _ _ _ I5 n5) st5 stop) fun r s6 x => ?_
    obtain ⟨rfl, I6⟩ := x
    exact fin _ I6
  · refine thnF (T.item B rfl rfl rfl hc i [] s5 σ H5 (fun _ _ => False) I5 (fpok [] _ _ _ I5 n5) st5 go) fun r s6 x => ?_
    obtain ⟨u, rfl, x⟩ := x
    refine thnF x fun _ s7 y => ?_
    obtain ⟨v, H7, I7, rv, yl, st7, n7⟩ := y
    have P7 := I7.pinned (fpok [] _ _ _ I7 n7) (T.obj _ _ st7)
    have pg1 := pg.run _ s7 σ H7 v u _ P7 rv (step v H7 yl)
    rw [hxe] at pg1
    refine thnF pg1 fun _ s8 x8 => ?_
    obtain ⟨σ8, H8, I8, back, q8⟩ := x8
    have pt1 := pt.run _ s8 σ8 H8 _ I8 q8
    rw [hxe] at pt1
    refine thnF pt1 fun b s9 x9 => ?_
    obtain ⟨H9, I9, q9⟩ := x9
    have next : ∀ (H' : Hp) (s' : Shared), Inv B ([] ++ pinsAt fp s7.heap) σ8 H' s' → Nx H' → ∃ m, m < n ∧ ∃ i H', Inv B [] σ H' s' ∧ tn i s'.heap ∧ (∀ b ∈ fp, H' b = none) ∧ W i m H' := fun H' s' I' nx => by
      obtain ⟨m', lt, w'⟩ := less H' nx
      have stay : ∀ b ∈ fp, ∀ o, s7.heap.get? b = some o → s'.heap.get? b = some o ∧ H' b = none := fun b hb o e => by
        have z := I'.pin (b, o) (List.mem_append_right _ (List.mem_append_right _ (mem_pinsAt hb e)))
        exact ⟨z.1, z.2.1⟩
      have lens : σ.length = σ8.length := by rw [← back, wipe_length]
      refine ⟨m', lt, i + 1, H', (I'.unpinned (pins := [])).weak lens (fun j v e => ?_), T.keep _ _ _ st7 fun b hb o e => (stay b hb o e).1, fun b hb => ?_, w'⟩
      · rw [← back] at e
        exact (wipe_some e).1
      · obtain ⟨o, e, _⟩ := T.obj _ _ st7 b hb
        exact (stay b hb o e).2
    cases b with
    | false =>
      rw [if_neg Bool.false_ne_true] at q9
      rw [if_neg Bool.false_ne_true]
      exact next _ _ I9 q9
    | true =>
      rw [if_pos rfl] at q9
      rw [if_pos rfl]
      have pe1 := pe.run _ s9 σ8 H9 _ I9 q9
      rw [hxe] at pe1
      refine thnF pe1 fun z s10 x10 => ?_
      obtain ⟨yv, H10, I10, r10, acc, hD, hz, nx⟩ := x10
      exact app_ok (X := B) I10 hD hz r10 fun s11 I11 => next _ _ I11 nx
/-- P: what the start of the block knows, of the slots and of the state; te: the element's reading, by the slots -/
theorem pe_lcS {P : L2.St → Shared → Hp → Prop} {elt tg iter : Expr} {ifs : List Expr} {pos : Pos} {wi : TI} {g : TG} {tt : TT} {te : L2.St → TE} (hc : X.calm = true) (hN : X.N.Nodup) (hi : PI X tg iter wi) (ok : BlkOk X.N X.env.scope scope own)
    (hP : ∀ (pins : List (Addr × Obj)) (σ : L2.St) (H : Hp) (s : Shared), Inv X pins σ H s → P σ s H)
    (hg : ∀ (s : Shared) (H : Hp) (C : Addr) (cl : List (Str × Addr)) (fp : List Addr), PG (X.blk s H scope (compEnvC scope cl C X.env) fp) tg g)
    (ht : ∀ (s : Shared) (H : Hp) (C : Addr) (cl : List (Str × Addr)) (fp : List Addr), PTs (X.blk s H scope (compEnvC scope cl C X.env) fp) ifs tt)
    (he : ∀ (σ : L2.St) (s : Shared) (H : Hp) (C : Addr) (cl : List (Str × Addr)) (fp : List Addr), P σ s H → (∀ b ∈ fp, ∃ o, s.heap.get? b = some o ∧ ∀ v, o.data ≠ .cell v) → PE (X.blk s H scope (compEnvC scope cl C X.env) fp) elt (te σ)) (hs : ∀ x, foldedSetIterable iter X.env x = pure x := by intro _; rfl) :
    PE X (.ListComp elt [⟨tg, iter, ifs, 0⟩] scope pos) (fun σ H Q => tLc wi g tt (te σ) (own.map (·.2)) σ H Q) := by
  refine ⟨fun pins s σ H Q I h => ?_⟩
  rw [eval_ListComp]
  have clo : ∀ y ∈ scope.names, y.2 = .free → ∃ c, X.env.cells.lookup y.1 = some c := fun y hy e => (ok.free y hy e).elim (fun k => I.ok.has _ (.inl k)) fun k => I.ok.has _ (.inr k)
  refine wpAny_comprehension_free (use := none) rfl hs (closure_ok clo) ok.kind (fun y hy e => (ok.uniq y hy).trans (congrArg some e))
    (thn (hi.run pins s σ H _ I h) fun xv s1 hx => thn hx fun itv s2 h2 => ?_)
  obtain ⟨it, fp, tn, J, H2, rfl, I2, T, st2, f2, q⟩ := h2
  refine wpAny_newObj_type (newEnv_comp ?_) (show 0 ≤ sizeLine by decide)
  have hDn : H2 s2.heap.objs.size = none := I2.hok.fresh (Nat.le_refl _)
  obtain ⟨W, ⟨m0, w0⟩, turn⟩ := q _ hDn
  have I3 := grow I2
  have old : ∀ b ∈ fp, b < s2.heap.objs.size := fun b hb => (T.obj _ _ st2 b hb).elim fun o e => Heap.lt_size e.1
  generalize hD : s2.heap.objs.size = D at *
  generalize hs3 : ({ s2 with heap := s2.heap.push { cls := .type "list", data := .seq ([] : List Value).toArray } } : Shared) = s3 at *
  have k3 : ∀ b o, s2.heap.get? b = some o → s3.heap.get? b = some o := fun b o e => by
    rw [← hs3]
    exact Heap.get?_push_of_some _ e
  have z3 : s3.heap.objs.size = D + 1 := by
    rw [← hs3, ← hD]
    exact Heap.size_push ..
  have st3 : tn 0 s3.heap := T.keep _ _ _ st2 fun b _ o e => k3 b o e
  have f3 : ∀ b ∈ fp, FpOk X pins (upd H2 D (.lst [])) b ∧ b < s3.heap.objs.size := fun b hb =>
    ⟨⟨(upd_ne (Nat.ne_of_lt (old b hb))).trans (f2 b hb).1, (f2 b hb).2⟩, by rw [z3]; exact Nat.lt_succ_of_lt (old b hb)⟩
  generalize hH3 : upd H2 D (.lst []) = H3 at *
  have know := hP pins σ H3 s3 I3
  have I4 := block_start I3 ok hN f3
  have pe := he σ s3 H3 s3.heap.objs.size (cellsFrom (s3.heap.objs.size + 1) scope.names (cloFrom X.env.cells scope.names [])) fp know (T.obj _ _ st3)
  have pg := hg s3 H3 s3.heap.objs.size (cellsFrom (s3.heap.objs.size + 1) scope.names (cloFrom X.env.cells scope.names [])) fp
  have pt := ht s3 H3 s3.heap.objs.size (cellsFrom (s3.heap.objs.size + 1) scope.names (cloFrom X.env.cells scope.names [])) fp
  show codeAny _ _ (.compStart (.ListComp elt [⟨tg, iter, ifs, 0⟩] scope pos) 0 (.ref it) (.ref D) (blkEnv X scope s3)) (compPost (model X.prog X.w) X.A X.xe none _ (.ref D) s3.heap.objs.size) (blkS scope s3)
  have st4 : tn 0 (blkS scope s3).heap := T.keep _ _ _ st3 fun b _ o e => pushCells_keeps _ _ _ _ (Heap.get?_push_of_some _ e)
  have nfp : ∀ b ∈ fp, H3 b = none := fun b hb => (f3 b hb).1.1
  have loop : codeAny (model X.prog X.w) X.A (.compLoop (.ListComp elt [⟨tg, iter, ifs, 0⟩] scope pos) 0 (.ref it) (.ref D) (blkEnv X scope s3))
      (compPost (model X.prog X.w) X.A X.xe none (EP X pins σ Q) (.ref D) s3.heap.objs.size) (blkS scope s3) := by
    refine lc_loop (B := X.blk s3 H3 scope (blkEnv X scope s3) fp) (σ := wipe σ (own.map (·.2))) (vs := own.map (·.2)) (W := W) hc rfl T pg pt pe (fun _ τ H' s' J' n' b hb => ?_) (fun i m H' w' => ?_) I4 st4 nfp w0
    · refine ⟨n' b hb, (J'.ok.exf b hb).1, J'.ok.exfs b hb, .inl hb, fun x c e => (J'.ok.exf b hb).2 x c e, fun p hp => ?_⟩
      exact absurd (show p ∈ ([] : List (Addr × Obj)) ++ [] from hp) (by simp)
    · rcases turn i m H' w' with ⟨a, b⟩ | ⟨a, Nx, b, c⟩
      · refine .inl ⟨a, fun s' J' => ?_⟩
        obtain ⟨I6, m6, ns6, f6⟩ := blk_out I3 (fun b hb => (f3 b hb).1) J'
        obtain ⟨f0, f1, f2, f3', f4, f5⟩ := f6
        exact ⟨m6, ns6, fun h'' sb => ⟨.ref D, H', I6.turned (t' := s'.toks) (fun b o hb e => (sb.2 b hb).trans e) f0 f1 f3' f4 f5, rfl, b⟩⟩
      · exact .inr ⟨a, Nx, b, c⟩
  exact codeAny_compStart_list loop (T.self X.A 0 _ _ _ st4 loop)
end

/-! ### what a comprehension gathers -/
section
/-- the values of the first n turns -/
def gather (f : Nat → Option V) (n : Nat) : List V := (List.range n).filterMap f
theorem gather_zero (f : Nat → Option V) : gather f 0 = [] := rfl
theorem gather_some {f : Nat → Option V} {n : Nat} {y : V} (h : f n = some y) : gather f (n + 1) = gather f n ++ [y] := by
  unfold gather
  rw [List.range_succ, List.filterMap_append]
  simp [h]
theorem gather_none {f : Nat → Option V} {n : Nat} (h : f n = none) : gather f (n + 1) = gather f n := by
  unfold gather
  rw [List.range_succ, List.filterMap_append]
  simp [h]
theorem gather_len (f : Nat → Option V) (n : Nat) : (gather f n).length ≤ n := by
  unfold gather
  exact Nat.le_trans (List.length_filterMap_le ..) (by simp)
/-- over a list: the items kept, each made anew -/
theorem gather_take {α : Type} (xs : List α) (p : α → Option V) : ∀ n, n ≤ xs.length → gather (fun i => (xs[i]?).bind p) n = (xs.take n).filterMap p
  | 0, _ => rfl
  | n + 1, h => by
    have ih := gather_take xs p n (by omega)
    have hn : xs[n]? = some (xs[n]'(by omega)) := List.getElem?_eq_getElem (by omega)
    rw [List.take_add_one, hn, List.filterMap_append, ← ih]
    cases e : p (xs[n]'(by omega)) with
    | none =>
      rw [gather_none (by rw [hn]; exact e)]
      simp [e]
    | some y =>
      rw [gather_some (y := y) (by rw [hn]; exact e)]
      simp [e]
theorem gather_list {α : Type} (xs : List α) (p : α → Option V) : gather (fun i => (xs[i]?).bind p) xs.length = xs.filterMap p := by
  rw [gather_take xs p _ (Nat.le_refl _), List.take_length]
theorem gather_map {α : Type} (xs : List α) (f : α → V) : gather (fun i => (xs[i]?).map f) xs.length = xs.map f := by
  have e : (fun i : Nat => (xs[i]?).map f) = fun i : Nat => (xs[i]?).bind fun x => some (f x) := by
    funext i
    cases xs[i]? <;> rfl
  rw [e, gather_list]
  simp
theorem gather_fn (f : Nat → V) (n : Nat) : gather (fun i => some (f i)) n = (List.range n).map f := by
  unfold gather
  simp
/-- a comprehension whose turns leave what is known: f i, what the i-th turn gives -/
theorem lc_gather {J : It} {n : Nat} {G : Hp → Prop} {Y : Nat → Hp → V → Hp → Prop} (w : Walk J n G Y) {g : TG} {tt : TT} {te : TE} {vs : List Nat} {σ : L2.St} {H1 : Hp} {D : Addr} {Qd : Hp → Prop} (f : Nat → Option V) (hD : H1 D = none) (hz : n ≤ sizeLine)
    (hG : ∀ H, Same H1 H → G H)
    (hs : ∀ i x H H', i < n → Same H1 H → Y i H x H' → ∀ R : Option V → Hp → Prop, (∀ H4, Same H H4 → R (f i) H4) →
      g x (wipe σ vs) H' fun σ2 H2 => wipe σ2 vs = wipe σ vs ∧ tt σ2 H2 fun b H3 => if b = true then te σ2 H3 fun y H4 => R (some y) H4 else R none H3)
    (hd : ∀ H, Same H1 H → H D = some (.lst (gather f n)) → Qd H) :
    ∃ W : Nat → Nat → Hp → Prop, (∃ m, W 0 m (upd H1 D (.lst []))) ∧ ∀ i m H, W i m H →
      (J.stop i H ∧ Qd H) ∨ (J.go i H ∧ ∃ Nx : Hp → Prop, (∀ H', Nx H' → ∃ m', m' < m ∧ W (i + 1) m' H') ∧ ∀ x H', J.yld i H x H' → g x (wipe σ vs) H' fun σ2 H2 => wipe σ2 vs = wipe σ vs ∧ tt σ2 H2 fun b H3 =>
        if b = true then te σ2 H3 fun y H4 => ∃ acc, H4 D = some (.lst acc) ∧ acc.length < sizeLine ∧ Nx (upd H4 D (.lst (acc ++ [y]))) else Nx H3) := by
  have s0 : ∀ o, Same H1 (upd H1 D o) := fun o b u e => by rw [upd_ne (ne_of_none e hD)]; exact e
  refine lc_it w (fun i H => Same H1 H ∧ H D = some (.lst (gather f i))) ⟨s0 _, upd_same⟩ (fun i H _ p => hG H p.1) (fun i x H H' hi p y => ?_) fun H p => hd H p.1 p.2
  obtain ⟨p1, p2⟩ := p
  refine hs i x H H' hi p1 y (fun oy H4 => match oy with
    | some y => ∃ acc, H4 D = some (.lst acc) ∧ acc.length < sizeLine ∧ Same H1 (upd H4 D (.lst (acc ++ [y]))) ∧ upd H4 D (.lst (acc ++ [y])) D = some (.lst (gather f (i + 1)))
    | none => Same H1 H4 ∧ H4 D = some (.lst (gather f (i + 1)))) fun H4 q => ?_
  have p4 := p1.trans q
  cases e : f i with
  | none => exact ⟨p4, by rw [gather_none e]; exact q _ _ p2⟩
  | some y =>
    refine ⟨gather f i, q _ _ p2, Nat.lt_of_le_of_lt (gather_len f i) (Nat.lt_of_lt_of_le hi hz), fun b u z => ?_, by rw [upd_same, gather_some e]⟩
    rw [upd_ne (ne_of_none z hD)]
    exact p4 b u z
/-- .. without tests -/
theorem lc_map {J : It} {n : Nat} {G : Hp → Prop} {Y : Nat → Hp → V → Hp → Prop} (w : Walk J n G Y) {g : TG} {te : TE} {vs : List Nat} {σ : L2.St} {H1 : Hp} {D : Addr} {Qd : Hp → Prop} (f : Nat → Option V) (hD : H1 D = none) (hz : n ≤ sizeLine)
    (hG : ∀ H, Same H1 H → G H)
    (hs : ∀ i x H H', i < n → Same H1 H → Y i H x H' → ∀ R : V → Hp → Prop, (∀ y H4, Same H H4 → f i = some y → R y H4) →
      g x (wipe σ vs) H' fun σ2 H2 => wipe σ2 vs = wipe σ vs ∧ te σ2 H2 R) (hf : ∀ i, i < n → ∃ y, f i = some y)
    (hd : ∀ H, Same H1 H → H D = some (.lst (gather f n)) → Qd H) :
    ∃ W : Nat → Nat → Hp → Prop, (∃ m, W 0 m (upd H1 D (.lst []))) ∧ ∀ i m H, W i m H →
      (J.stop i H ∧ Qd H) ∨ (J.go i H ∧ ∃ Nx : Hp → Prop, (∀ H', Nx H' → ∃ m', m' < m ∧ W (i + 1) m' H') ∧ ∀ x H', J.yld i H x H' → g x (wipe σ vs) H' fun σ2 H2 => wipe σ2 vs = wipe σ vs ∧ tYes σ2 H2 fun b H3 =>
        if b = true then te σ2 H3 fun y H4 => ∃ acc, H4 D = some (.lst acc) ∧ acc.length < sizeLine ∧ Nx (upd H4 D (.lst (acc ++ [y]))) else Nx H3) := by
  refine lc_gather w f hD hz hG (fun i x H H' hi s y R k => ?_) hd
  have z := hs i x H H' hi s y (fun y H4 => R (some y) H4) fun y H4 q e => by
    have := k H4 q
    rw [e] at this
    exact this
  exact z
/-- .. whose turns make new things: Rl i y H, what holds of the i-th -/
theorem lc_rel {J : It} {n : Nat} {G : Hp → Prop} {Y : Nat → Hp → V → Hp → Prop} (w : Walk J n G Y) {g : TG} {te : TE} {vs : List Nat} {σ : L2.St} {H1 : Hp} {D : Addr} {Qd : Hp → Prop} (Rl : Nat → V → Hp → Prop) (hD : H1 D = none) (hz : n ≤ sizeLine)
    (hG : ∀ H, Same H1 H → G H) (stable : ∀ i y H H', (∀ b xs, H b = some (.tup xs) → H' b = some (.tup xs)) → Rl i y H → Rl i y H')
    (hs : ∀ i x H H', i < n → Same H1 H → Y i H x H' → ∀ R : V → Hp → Prop, (∀ y H4, Same H H4 → Rl i y H4 → R y H4) →
      g x (wipe σ vs) H' fun σ2 H2 => wipe σ2 vs = wipe σ vs ∧ te σ2 H2 R)
    (hd : ∀ H ys, Same H1 H → H D = some (.lst ys) → ys.length = n → (∀ i y, ys[i]? = some y → Rl i y H) → Qd H) :
    ∃ W : Nat → Nat → Hp → Prop, (∃ m, W 0 m (upd H1 D (.lst []))) ∧ ∀ i m H, W i m H →
      (J.stop i H ∧ Qd H) ∨ (J.go i H ∧ ∃ Nx : Hp → Prop, (∀ H', Nx H' → ∃ m', m' < m ∧ W (i + 1) m' H') ∧ ∀ x H', J.yld i H x H' → g x (wipe σ vs) H' fun σ2 H2 => wipe σ2 vs = wipe σ vs ∧ tYes σ2 H2 fun b H3 =>
        if b = true then te σ2 H3 fun y H4 => ∃ acc, H4 D = some (.lst acc) ∧ acc.length < sizeLine ∧ Nx (upd H4 D (.lst (acc ++ [y]))) else Nx H3) := by
  have s0 : ∀ o, Same H1 (upd H1 D o) := fun o b u e => by rw [upd_ne (ne_of_none e hD)]; exact e
  refine lc_it w (fun i H => Same H1 H ∧ ∃ ys, H D = some (.lst ys) ∧ ys.length = i ∧ ∀ j y, ys[j]? = some y → Rl j y H) ⟨s0 _, [], upd_same, rfl, fun j y e => by simp at e⟩ (fun i H _ p => hG H p.1) (fun i x H H' hi p y => ?_) fun H p => ?_
  · obtain ⟨p1, ys, p2, p3, p4⟩ := p
    have z := hs i x H H' hi p1 y (fun y H4 => ∃ acc, H4 D = some (.lst acc) ∧ acc.length < sizeLine ∧ Same H1 (upd H4 D (.lst (acc ++ [y]))) ∧
      ∃ ys, upd H4 D (.lst (acc ++ [y])) D = some (.lst ys) ∧ ys.length = i + 1 ∧ ∀ j y', ys[j]? = some y' → Rl j y' (upd H4 D (.lst (acc ++ [y])))) fun y H4 q r => by
        have e4 := q _ _ p2
        have tups : ∀ o b xs, H4 b = some (.tup xs) → upd H4 D o b = some (.tup xs) := fun o b xs e => by
          by_cases hb : b = D
          · rw [hb, e4] at e
            cases e
          · rw [upd_ne hb]
            exact e
        refine ⟨ys, e4, by rw [p3]; exact Nat.lt_of_lt_of_le hi hz, fun b u e => by rw [upd_ne (ne_of_none e hD)]; exact (p1.trans q) b u e, ys ++ [y], upd_same, by simp [p3], fun j y' e => ?_⟩
        by_cases hj : j < ys.length
        · rw [List.getElem?_append_left hj] at e
          exact stable j y' H4 _ (tups _) (stable j y' H H4 (fun b xs e => q _ _ e) (p4 j y' e))
        · rw [List.getElem?_append_right (by omega)] at e
          have ej : j = ys.length := by
            have := (List.getElem?_eq_some_iff.mp e).1
            simp at this
            omega
          subst ej
          simp at e
          subst e
          rw [p3]
          exact stable _ _ H4 _ (tups _) r
    exact z
  · obtain ⟨p1, ys, p2, p3, p4⟩ := p
    exact hd H ys p1 p2 p3 p4
end
end Sho
set_option Elab.async false
set_option linter.all false
set_option maxRecDepth 100000
set_option maxHeartbeats 2000000
/-! A callable that is handed on, called without arguments. -/
namespace Sho
open PySem PySem.Spec PyProof.Rows L2 LamX NdefX
section
variable {X : Cx} {pins : List (Addr × Obj)} {σ : L2.St} {H : Hp} {s : Shared} {cl : List (Str × Addr)} {fr : List Str} {ws : List (Option V)}
theorem cells_un {fs ex : List Addr} {H0 : Hp} {h0 h : Heap} (C : CellsAt cl fr ws h0 H0) (U : Un fs ex H0 H h0 h) (hex : ∀ y c, cl.lookup y = some c → c ∉ ex) : CellsAt cl fr ws h H := by
  have one : ∀ {y : Str} {c : Addr} {v : Option Value}, cl.lookup y = some c → h0.IsCell c v → h.IsCell c v := fun {y c v} e ⟨o, ho, hd⟩ => by
    by_cases hm : c ∈ fs
    · obtain ⟨sl, q⟩ := U.slot c o ho (C.all y c e).1 hm (hex y c e)
      exact ⟨_, q, hd⟩
    · exact ⟨o, U.keep c o ho (C.all y c e).1 hm (hex y c e), hd⟩
  refine ⟨C.len, fun y c e => ?_, C.inj, fun i y hi => ?_⟩
  · obtain ⟨n, v, o, ho, hd⟩ := C.all y c e
    exact ⟨U.free c o ho n (hex y c e), v, one e ⟨o, ho, hd⟩⟩
  · obtain ⟨c, e, k⟩ := C.has i y hi
    refine ⟨c, e, fun v hv => ?_⟩
    obtain ⟨u, r, z⟩ := k v hv
    exact ⟨u, r, one e z⟩
/-- cells of the entry's time stand as they stood -/
theorem cells_kept (I : Inv X pins σ H s) (C : CellsAt cl fr ws X.s_0.heap X.H_0) (hex : ∀ y c, cl.lookup y = some c → c ∉ X.ex) : CellsAt cl fr ws s.heap H := cells_un C I.base hex

/-- x(): x's slot holds a callable -/
def tAct (P : Program) (w : World) (K : PySem.W.Frag) (mg : Str → Option Value) (base : Heap) (CX : CXT) (k : Nat) (i : Nat) (cl : List (Str × Addr)) (fr : List Str) (ws : List (Option V)) (E : L2.St → XK) : TE := fun σ H Q =>
  ∃ f sp, σ[i]? = some (some (.ref f)) ∧ Act P w K mg base CX k cl fr sp f H ∧ sp ws H Q (E σ)
theorem pe_act {CX : CXT} {k i : Nat} {E : L2.St → XK} {x : Str} {p pos : Pos} (hr : Room k X.A) (C : CellsAt cl fr ws X.s_0.heap X.H_0) (hex : ∀ y c, cl.lookup y = some c → c ∉ X.ex) (hx : ∀ σ, PassesAt CX X σ (E σ))
    (hN : X.N[i]? = some x) (hv : Vis X.env.scope x) (hd : (x == ("__debug__" : Str)) = false := by decide) (hcd : (x == ("__classdict__" : Str)) = false := by decide) :
    PE X (.Call (.Name x p) [] [] pos) (tAct X.prog X.w X.K X.mg X.base CX k i cl fr ws E) := by
  refine ⟨fun pins s σ H Q I ⟨f, sp, hs, ⟨Z, ecl, hl, run⟩, h⟩ => ?_⟩
  refine wpAny_Call_Name_kw (thn ((pe_var (pos := p) (i := i) hN hv hd hcd).run pins s σ H (fun v H1 => v = .ref f ∧ H1 = H) I ⟨.ref f, hs, rfl, rfl⟩) fun u s1 y => ?_)
  obtain ⟨v, H1, I1, rv, rfl, rfl⟩ := y
  obtain rfl : u = Value.ref f := rv
  obtain ⟨pm, ctv, ho⟩ := lamO_at I1.hok hl.o
  refine PySem.W.callWith_F0 ⟨_, _, _, _, ho⟩ ?_
  refine wpAny_call (codeAny_mono (run X.A X.stack s1 H1 ws Q (E σ) hr I1.env0 hl (cells_kept I1 C hex) h) fun r s' hq => ?_)
  cases r with
  | error e => exact hx σ pins H1 s1 e s' I1 hq
  | ok fl =>
    cases fl with
    | ret u => exact I1.after hq
    | next => exact hq.elim
    | brk => exact hq.elim
    | cont => exact hq.elim

/-- g(e): a def of the module, its promise told of the very state; know: what the state at the call shows -/
theorem pe_callAt {CX : CXT} {E : XK} {know : L2.St → Shared → Hp → Prop} {sp : L2.St → V → Hp → VK → Prop} {g : Addr} {x : Str} {e : Expr} {ta : TA} {p pos : Pos} (hg : Gl X x) (hm : X.mg x = some (.ref g)) (hk : PySem.W.keepIn X.K (.ref g) = true)
    (hx : Passes CX X E) (hP : ∀ (pins : List (Addr × Obj)) (σ : L2.St) (H : Hp) (s : Shared), Inv X pins σ H s → know σ s H) (ha : PA X [e] ta)
    (run : ∀ (σ : L2.St) (s : Shared) (H : Hp) (u : Value) (v : V) (Q : VK), Env0 X.prog X.w X.K X.mg X.base X.A X.stack s H → know σ s H → RelV v u → sp σ v H Q →
      codeAny (model X.prog X.w) X.A (.call (.ref g) ⟨[u], []⟩) (CR CX X.stack X.prog X.w H s Q E) s)
    (hdb : (x == ("__debug__" : Str)) = false := by decide) (hst : starEach [e] X.env = (false, eval e X.env) :: starEach [] X.env := by rfl) :
    PE X (.Call (.Name x p) [e] [] pos) (fun σ H Q => ta σ H fun vs H1 => ∃ v, vs = [v] ∧ sp σ v H1 Q) := by
  refine ⟨fun pins s σ H Q I h => ?_⟩
  refine wpAny_Call_Name_kw (ld_glob I hg hm ?_ hdb)
  refine PySem.W.callWith_K (h₀ := X.base) I.ok.mod.kin hk (thn (ha.run pos pins s σ H _ I h) fun us s1 y => ?_) hst rfl
  · obtain ⟨vs, H1, I1, rv, v, rfl, q⟩ := y
    cases rv with
    | @cons _ u _ _ ru rn =>
    cases rn
    refine ⟨I1.kIn, wpAny_call (codeAny_mono (run σ s1 H1 u v Q I1.env0 (hP pins σ H1 s1 I1) ru q) fun r s' hq => ?_)⟩
    cases r with
    | error er => exact hx pins σ H1 s1 er s' I1 hq
    | ok fl =>
      cases fl with
      | ret w2 => exact I1.after hq
      | next => exact hq.elim
      | brk => exact hq.elim
      | cont => exact hq.elim
end
end Sho
set_option Elab.async false
set_option linter.all false
set_option maxRecDepth 100000
set_option maxHeartbeats 2000000
/-! Operators of own classes by a promise; instances made with a star. -/
namespace Sho
open PySem PySem.Spec PyProof.Rows L2 StX

section
variable {P : Program} {w : World} {K : PySem.W.Frag} {mg : Str → Option Value} {base : Heap} {CX : CXT} {k : Nat} {f : Addr} {fd : FuncData} {ps : List Str} {sp : Sp}
/-- a def's promise by its values alone -/
theorem fnr_of (F : FnOk P w K mg base CX k f fd ps sp) (hb : Binds K fd ps []) : FnR P w K mg base CX k f sp := by
  intro A outer s H us vs Q E hr e0 r h
  have hl := F.len _ _ _ _ h
  have hk : K.In s.heap := e0.mod.kin.keeps fun b o e => (e0.bs b o e).1
  have b := hb s us hk (by rw [List.append_nil, ← r.length]; exact hl)
  rw [List.append_nil] at b
  exact F.run A outer s H ⟨us, []⟩ us vs Q E hr e0 b r h
end

section
variable {X : Cx} {CX : CXT} {k : Nat} {f C : Addr} {sp : Sp} {E : XK}
theorem run_r {pins : List (Addr × Obj)} {σ : L2.St} {H : Hp} {s : Shared} {Q : VK} {us : List Value} {vs : List V} (F : FnR X.prog X.w X.K X.mg X.base CX k f sp) (hr : Room k X.A) (hx : Passes CX X E)
    (I : Inv X pins σ H s) (r : Vals vs us) (h : sp vs H Q E) : wpAny (model X.prog X.w) X.A (call (.ref f) us) (EP X pins σ Q) X.xe s := by
  refine wpAny_call (codeAny_mono (F X.A X.stack s H us vs Q E hr I.env0 r h) fun r s' hq => ?_)
  cases r with
  | error e => exact hx pins σ H s e s' I hq
  | ok fl =>
    cases fl with
    | ret u => exact I.after hq
    | next => exact False.elim hq
    | brk => exact False.elim hq
    | cont => exact False.elim hq

theorem back_of {pins : List (Addr × Obj)} {σ : L2.St} {Q : VK} {u : Value} {s' : Shared} (h : EP X pins σ Q u s') : PySem.W.CmpBack (EP X pins σ Q) u s' := by
  obtain ⟨v, H', I, r, q⟩ := h
  cases u with
  | notImplemented => exact nomatch (show absV Value.notImplemented = some v from RelV.abs r)
  | _ => exact ⟨v, H', I, r, q⟩

/-- an own instance, the instance's own place in the heap -/
def InsAt (H : Hp) (a C : Addr) : Prop := ∃ dx fs, H a = some (.ins C dx fs)

/-- a op b, both of the class at C, C's own method -/
def rOwn2 (C : Addr) (sp : Sp) (E : XK) : R2 := fun x y H Q => ∃ a b, x = .ref a ∧ y = .ref b ∧ InsAt H a C ∧ InsAt H b C ∧ sp [.ref a, .ref b] H Q E
theorem op_own2 {op : Operator} (F : FnR X.prog X.w X.K X.mg X.base CX k f sp) (hr : Room k X.A) (hx : Passes CX X E) (hc : PySem.W.selfFirst X.K C = true)
    (hs : PySem.W.findIn X.K (.ref C) (PySem.dunder op.info.2) = some (some (.ref f))) (hf : PySem.W.isFn X.K (.ref f) = true) : OpR X (binaryOp op) (rOwn2 C sp E) := by
  rintro pins s σ H x y u v Q I rx ry ⟨a, b, rfl, rfl, ⟨dx, fs, ha⟩, ⟨dy, gs, hb⟩, h⟩
  cases rx
  cases ry
  obtain ⟨mA, J, _⟩ := ins_get I.hok ha
  obtain ⟨mB, J', _⟩ := ins_get I.hok hb
  obtain ⟨od, J, _⟩ := J.look
  obtain ⟨od', J', _⟩ := J'.look
  obtain ⟨m, hF⟩ := I.fr
  exact PySem.W.binop_K hF I.ok.mod.kin J J'.type hc hs hf (thn (run_r (vs := [.ref a, .ref b]) F hr hx I (.cons rfl (.cons rfl .nil)) h) fun u s' q => back_of q)

/-- a op b, a of the class at C, b of the built-in type T -/
def rOwnT (C : Addr) (sp : Sp) (E : XK) (isT : V → Prop) : R2 := fun x y H Q => ∃ a, x = .ref a ∧ isT y ∧ InsAt H a C ∧ sp [.ref a, y] H Q E
theorem op_ownT {op : Operator} {T : String} {isT : V → Prop} {fo ro rc : Option Value} (F : FnR X.prog X.w X.K X.mg X.base CX k f sp) (hr : Room k X.A) (hx : Passes CX X E) (hc : PySem.W.selfFirst X.K C = true)
    (hT : ∀ y v, isT y → RelV y v → typeOf v = pure (.type T))
    (hs : PySem.W.findIn X.K (.ref C) (PySem.dunder op.info.2) = some (some (.ref f))) (hf : PySem.W.isFn X.K (.ref f) = true)
    (hr2 : PySem.W.findIn X.K (.ref C) (dunderR op.info.2) = some rc) (hp : rc = none ∨ ∃ g : Addr, rc = some (.ref g))
    (h1 : PySem.W.findIn X.K (.type T) (PySem.dunder op.info.2) = some fo) (h2 : PySem.W.findIn X.K (.type T) (dunderR op.info.2) = some ro) (hsub : PySem.W.subIn X.K (.type T) (.ref C) = some false) :
    OpR X (binaryOp op) (rOwnT C sp E isT) := by
  rintro pins s σ H x y u v Q I rx ry ⟨a, rfl, ht, ⟨dx, fs, ha⟩, h⟩
  cases rx
  obtain ⟨mA, J, _⟩ := ins_get I.hok ha
  obtain ⟨od, J, _⟩ := J.look
  obtain ⟨m, hF⟩ := I.fr
  exact PySem.W.ksp_binT hF I.ok.mod.kin J (hT _ _ ht ry) hc hs hf hr2 hp h1 h2 hsub (thn (run_r (vs := [.ref a, y]) F hr hx I (.cons rfl (.cons ry .nil)) h) fun u s' q => back_of q)
def isInt : V → Prop := fun y => ∃ i, y = .int i
def isStr : V → Prop := fun y => ∃ i, y = .str i
theorem ty_int : ∀ y v, isInt y → RelV y v → typeOf v = pure (.type "int") := by
  rintro y v ⟨i, rfl⟩ ⟨t, rfl⟩
  rfl
theorem ty_str : ∀ y v, isStr y → RelV y v → typeOf v = pure (.type "str") := by
  rintro y v ⟨i, rfl⟩ ⟨t, rfl⟩
  rfl

/-- x in a, not in: a's own __contains__, which hands back a bool -/
def rOwnIn (C : Addr) (neg : Bool) (sp : Sp) (E : XK) : R2 := fun x y H Q => ∃ a, y = .ref a ∧ InsAt H a C ∧ sp [.ref a, x] H (fun r H' => ∃ c, r = .bl c ∧ Q (.bl (if neg then !c else c)) H') E
theorem op_ownIn (F : FnR X.prog X.w X.K X.mg X.base CX k f sp) (hr : Room k X.A) (hx : Passes CX X E)
    (hs : PySem.W.findIn X.K (.ref C) "__contains__" = some (some (.ref f))) (hf : PySem.W.isFn X.K (.ref f) = true) : OpR X (compareOp .In) (rOwnIn C false sp E) := by
  rintro pins s σ H x y u v Q I rx ry ⟨a, rfl, ⟨dx, fs, ha⟩, h⟩
  cases ry
  obtain ⟨mA, J, _⟩ := ins_get I.hok ha
  obtain ⟨od, J, _⟩ := J.look
  obtain ⟨m, hF⟩ := I.fr
  refine PySem.W.in_K hF I.ok.mod.kin J hs hf (thn (run_r (vs := [.ref a, x]) F hr hx I (.cons rfl (.cons rx .nil)) h) fun r s' q => ?_)
  obtain ⟨v2, H2, I2, r2, c, rfl, q2⟩ := q
  cases r2
  exact wpAny_truthy_bool ⟨.bl _, H2, I2, rfl, q2⟩
theorem op_ownNotIn (F : FnR X.prog X.w X.K X.mg X.base CX k f sp) (hr : Room k X.A) (hx : Passes CX X E)
    (hs : PySem.W.findIn X.K (.ref C) "__contains__" = some (some (.ref f))) (hf : PySem.W.isFn X.K (.ref f) = true) : OpR X (compareOp .NotIn) (rOwnIn C true sp E) := by
  rintro pins s σ H x y u v Q I rx ry ⟨a, rfl, ⟨dx, fs, ha⟩, h⟩
  cases ry
  obtain ⟨mA, J, _⟩ := ins_get I.hok ha
  obtain ⟨od, J, _⟩ := J.look
  obtain ⟨m, hF⟩ := I.fr
  refine PySem.W.notIn_K hF I.ok.mod.kin J hs hf (thn (run_r (vs := [.ref a, x]) F hr hx I (.cons rfl (.cons rx .nil)) h) fun r s' q => ?_)
  obtain ⟨v2, H2, I2, r2, c, rfl, q2⟩ := q
  cases r2
  exact wpAny_truthy_bool ⟨.bl _, H2, I2, rfl, q2⟩

/-- a[i]: a's own __getitem__ -/
def rOwnIx (C : Addr) (sp : Sp) (E : XK) : R2 := fun x y H Q => ∃ a, x = .ref a ∧ InsAt H a C ∧ sp [.ref a, y] H Q E
/-- C(*y), y a list or a tuple -/
def tMakeS (K : PySem.W.Frag) (C : Addr) (sp : Sp) (E : XK) (te : TE) : TE := fun σ H Q => te σ H fun y H1 => ∃ a xs, y = V.ref a ∧ (SqT K H1 a xs ∨ SqL K H1 a xs) ∧ ∀ x dx, H1 x = Option.none → H1 dx = Option.none → dx ≠ x →
  sp (V.ref x :: xs) (upd (upd H1 dx (.own x)) x (.ins C dx [])) (fun v H2 => v = .non ∧ Q (.ref x) H2) E
theorem pe_makeS {x : Str} {e : Expr} {te : TE} {p sp_ pos : Pos} (M : Mk X.K C f) (F : FnR X.prog X.w X.K X.mg X.base CX k f sp) (hr : Room (k + 1) X.A) (hg : Gl X x) (hm : X.mg x = some (.ref C)) (hx : Passes CX X E) (he : PE X e te) (hd : (x == ("__debug__" : Str)) = false := by decide)
    (hst : starEach [.Starred e sp_] X.env = [(true, eval e X.env)] := by rfl) : PE X (.Call (.Name x p) [.Starred e sp_] [] pos) (tMakeS X.K C sp E te) := by
  refine ⟨fun pins s σ H Q I h => ?_⟩
  refine wpAny_Call_Name_kw (ld_glob I hg hm ?_ hd)
  refine PySem.W.callWith_S (h₀ := X.base) I.ok.mod.kin M.kp (thn (he.run pins s σ H _ I h) fun v s1 ⟨y, H1, I1, ry, a, xs, ey, hxs, q⟩ => ?_) hst
  subst ey
  obtain rfl : v = Value.ref a := ry
  exact star_any I1 hxs fun us s2 I2 rv => ⟨I2.kIn, run_makeR M F hr hx I2 rv q⟩
/-- C() -/
theorem pe_makeR0 {x : Str} {p pos : Pos} (M : Mk X.K C f) (F : FnR X.prog X.w X.K X.mg X.base CX k f sp) (hr : Room (k + 1) X.A) (hg : Gl X x) (hm : X.mg x = some (.ref C)) (hx : Passes CX X E) (hdb : (x == ("__debug__" : Str)) = false := by decide) :
    PE X (.Call (.Name x p) [] [] pos) (tMakeR C sp E tNil) := by
  refine ⟨fun pins s σ H Q I h => ?_⟩
  refine wpAny_Call_Name_kw (ld_glob I hg hm ?_ hdb)
  exact PySem.W.callWith_K0 I.kIn M.kp (run_makeR (us := []) M F hr hx I .nil h)
end
end Sho
set_option Elab.async false
set_option linter.all false
namespace Sh1
open PySem L2
abbrev pw : Program := PySem.Challenge.pw_shoepile_k04_two_piles_or_an_odd_ring
def top (i : Nat) : Stmt := PySem.Challenge.pw_shoepile_k04_two_piles_or_an_odd_ring.main.body.getD i (.Pass ⟨0, 0, 0, 0⟩)
abbrev sWall : Stmt := top 0
abbrev cPartyError : Stmt := top 2
abbrev cInvalidStay : Stmt := top 3
abbrev sInvInit : Stmt := inClass (top 3) 0
abbrev cUnknownGuest : Stmt := top 4
abbrev sUnkInit : Stmt := inClass (top 4) 0
abbrev cInvalidRing : Stmt := top 5
abbrev sRingInit : Stmt := inClass (top 5) 0
abbrev sIsName : Stmt := top 9
abbrev sIsWithin : Stmt := top 10
abbrev sIsTick : Stmt := top 11
abbrev sIsStay : Stmt := top 12
abbrev sBottomUp : Stmt := top 13
abbrev sLiftedFrom : Stmt := top 14
abbrev sCrossingNames : Stmt := top 16
abbrev sPilesFrom : Stmt := top 17
abbrev sTwoPiles : Stmt := top 18
abbrev sOddWalk : Stmt := top 19
abbrev sOddRing : Stmt := top 20
abbrev sJudgeRing : Stmt := top 21
abbrev sCheck : Stmt := top 23
abbrev cParty : Stmt := top 24
abbrev sPInit : Stmt := inClass (top 24) 1
abbrev sPEvening : Stmt := inClass (top 24) 2
abbrev sPStays : Stmt := inClass (top 24) 3
abbrev sPNames : Stmt := inClass (top 24) 4
abbrev sPStayOf : Stmt := inClass (top 24) 5
abbrev sPLen : Stmt := inClass (top 24) 6
abbrev sPBool : Stmt := inClass (top 24) 7
abbrev sPIn : Stmt := inClass (top 24) 8
abbrev sPIx : Stmt := inClass (top 24) 9
abbrev sPIter : Stmt := inClass (top 24) 10
abbrev sPEq : Stmt := inClass (top 24) 11
abbrev sPSub : Stmt := inClass (top 24) 12
abbrev sPAdd : Stmt := inClass (top 24) 13
abbrev sPShift : Stmt := inClass (top 24) 14
abbrev sPCall : Stmt := inClass (top 24) 15
abbrev sPCross : Stmt := inClass (top 24) 16
abbrev sPPile : Stmt := inClass (top 24) 17
abbrev sStart : Stmt := top 26
abbrev sDrawn : Stmt := top 27
abbrev sSame : Stmt := top 28
abbrev sRows : Stmt := top 29
abbrev sLawParty : Stmt := top 30
abbrev sLawPlayed : Stmt := top 31
abbrev sLawCross : Stmt := top 32
abbrev sLawParts : Stmt := top 33
abbrev sLawLeastOdd : Stmt := top 34
abbrev sLaw : Stmt := top 35
abbrev nDue : PySem.Str := "_law_due"
end Sh1
set_option Elab.async false
set_option linter.all false
set_option maxRecDepth 100000
set_option maxHeartbeats 2000000
namespace Sh1
open PySem L2 Sho
abbrev Stay := Str × Int × Int
def StayV (H : Hp) (v : V) (x : Stay) : Prop := ∃ t, v = .ref t ∧ H t = some (.tup [.str x.1, .int x.2.1, .int x.2.2])
/-- the builtins that the text calls -/
structure Blt (mg : Str → Option Value) : Prop where
  len : mg "len" = none
  all : mg "all" = none
  isi : mg "isinstance" = none
  bool : mg "bool" = none
  tuple : mg "tuple" = none
  list : mg "list" = none
  range : mg "range" = none
  enum : mg "enumerate" = none
  int : mg "int" = none
  sup : mg "super" = none
  sorted : mg "sorted" = none
section
variable {P : Program} {w : World} {K : PySem.W.Frag} {mg : Str → Option Value} {base : Heap}
/-! ### is_name -/
def letter (c : Nat) : Bool := !decide (c < 97) && !decide (122 < c)
def okName (z : Str) : Bool := decide ((1 : Int) ≤ z.length) && (decide ((z.length : Int) ≤ 8) && z.cps.toList.all letter)
theorem one_lt (c d : Nat) : ([c] < [d]) ↔ c < d := by
  rw [List.cons_lt_cons_iff]
  simp
theorem cps_a : (Str.ofString "a").cps.toList = [97] := by decide +kernel
theorem cps_z : (Str.ofString "z").cps.toList = [122] := by decide +kernel
def spIsName : Sp := fun vs H Q _ => ∃ z : Str, vs = [.str z] ∧ z.length ≤ sizeLine ∧ ∀ H', Same H H' → Q (.bl (okName z)) H'
theorem scIsName : FnScope ["word", "letter"] ["word"] (defScope sIsName) := ⟨rfl, rfl, rfl, by decide +kernel, rfl, by decide +kernel, by decide +kernel⟩
theorem ok_isName {f : Addr} {fd : FuncData} {t8 : Tok} (F : Fun K "is_name" "is_name" sIsName f fd) (B : Blt mg) (g8 : mg "LONGEST_NAME" = some (.int 8 t8)) : FnOk P w K mg base CX0 1 f fd ["word"] spIsName := by
  refine F.ok scIsName (fun vs H Q E h => ?_) (fun cdv A outer s H vs Q E hr h => ?_)
  · obtain ⟨z, rfl, _⟩ := h
    rfl
  · obtain ⟨z, rfl, hz, k⟩ := h
    refine ⟨_, pss_one (ps_ret (pe_and (pe_chain op_le op_le pe_int (pe_callB call_len_str (by rfl) B.len PySem.boot_len (pa_cons (pv 0) pa_nil)) (pe_glob (v := .int 8) rfl g8 ⟨_, rfl⟩)) (pe_one
      (pe_callB (cr_all rfl) (by rfl) B.all (by decide +kernel) (pa_cons (pe_lc (own := [("letter", 1)]) (g := gName 1) (tt := tYes) rfl scIsName.nd (pi_str (pv 0)) (blkOk_by (own := [("letter", 1)]) (N := ["word", "letter"]) (sc := defScope sIsName) (by decide +kernel))
        (fun _ _ _ _ _ => pg_name (i := 1) scIsName.nd rfl (Or.inl rfl)) (fun _ _ _ _ _ => pts_nil)
        (fun _ _ _ _ _ => pe_chain op_le_str op_le_str pe_str (pv 1) pe_str)) pa_nil))))), ?_⟩
    refine ⟨_, rfl, z, rfl, hz, _, _, rfl, rfl, _, rfl, ?_⟩
    refine ite2 (fun h1 => ?_) (fun h1 => ?_)
    · refine ⟨_, _, rfl, rfl, _, rfl, ?_⟩
      refine ite2 (fun h2 => ?_) (fun h2 => ?_)
      · refine ⟨_, rfl, z, rfl, fun D hD => ?_⟩
        refine lc_map (walk_str (z := z)) (fun i => (z.cps.toList[i]?).map fun c => .bl (letter c)) hD hz (fun _ _ => trivial) (fun i x H1 H' hi s1 y R k1 => ?_) (fun i hi => ⟨_, by rw [List.getElem?_eq_getElem (by simpa using hi)]; rfl⟩) fun H1 s1 e1 => ?_
        · obtain ⟨rfl, c, hc, rfl⟩ := y
          refine ⟨rfl, _, rfl, _, _, rfl, rfl, _, rfl, ?_⟩
          have fi : Option.map (fun c => V.bl (letter c)) z.cps.toList[i]? = some (.bl (letter c)) := by
            rw [Array.getElem?_toList, hc]
            rfl
          have e1 : decide (({ cps := #[c] } : Str).cps.toList < (Str.ofString "a").cps.toList) = decide (c < 97) := by
            rw [cps_a]
            exact decide_eq_decide.mpr (one_lt c 97)
          have e2 : decide ((Str.ofString "z").cps.toList < ({ cps := #[c] } : Str).cps.toList) = decide (122 < c) := by
            rw [cps_z]
            exact decide_eq_decide.mpr (one_lt 122 c)
          rw [e1]
          by_cases h3 : c < 97
          · rw [decide_eq_true h3]
            refine iteF (k1 _ _ (Same.refl _) ?_)
            rw [fi]
            simp [letter, h3]
          · rw [decide_eq_false h3]
            refine iteT ⟨_, _, rfl, rfl, ?_⟩
            rw [e2]
            refine k1 _ _ (Same.refl _) ?_
            rw [fi]
            simp [letter, h3]
        · refine ⟨D, z.cps.toList.map letter, rfl, ?_, ?_⟩
          · have e2 : gather (fun i => (z.cps.toList[i]?).map fun c => V.bl (letter c)) z.cps.size = (z.cps.toList.map letter).map V.bl := by
              have := gather_map z.cps.toList fun c => V.bl (letter c)
              rw [Array.length_toList] at this
              rw [this, List.map_map]
              rfl
            rw [← e2]
            exact SqL.of e1
          · have e3 : okName z = (z.cps.toList.map letter).all id := by
              unfold okName
              have h1' : (1 : Int) ≤ z.length := of_decide_eq_true h1
              have h2' : (z.length : Int) ≤ 8 := of_decide_eq_true h2
              rw [decide_eq_true h1', decide_eq_true h2', List.all_map]
              rfl
            rw [← e3]
            exact k _ s1
      · have e3 : okName z = false := by
          unfold okName
          have h2' : ¬ (z.length : Int) ≤ 8 := fun q => h2 (decide_eq_true q)
          rw [decide_eq_false h2']
          simp
        have := k H (Same.refl H)
        rw [e3] at this
        exact this
    · have e3 : okName z = false := by
        unfold okName
        have h1' : ¬ (1 : Int) ≤ z.length := fun q => h1 (decide_eq_true q)
        rw [decide_eq_false h1']
        rfl
      have := k H (Same.refl H)
      rw [e3] at this
      exact ⟨_, rfl, iteF this⟩
end
end Sh1
set_option Elab.async false
set_option linter.all false
set_option maxRecDepth 100000
set_option maxHeartbeats 2000000
namespace Sh1
open PySem L2 Sho
section
variable {P : Program} {w : World} {K : PySem.W.Frag} {mg : Str → Option Value} {base : Heap}
/-! ### is_tick, is_stay -/
def okTick (n : Int) : Bool := decide (0 ≤ n) && decide (n ≤ 1000000000)
def spIsWithin : Sp := fun vs H Q _ => ∃ n a b : Int, vs = [.int n, .int a, .int b] ∧ Q (.bl (decide (a ≤ n) && decide (n ≤ b))) H
theorem scIsWithin : FnScope ["number", "low", "high"] ["number", "low", "high"] (defScope sIsWithin) := ⟨rfl, rfl, rfl, by decide +kernel, rfl, by decide +kernel, by decide +kernel⟩
theorem ok_isWithin {f : Addr} {fd : FuncData} (F : Fun K "is_within" "is_within" sIsWithin f fd) (B : Blt mg) : FnOk P w K mg base CX0 1 f fd ["number", "low", "high"] spIsWithin := by
  refine F.ok scIsWithin (fun vs H Q E h => ?_) (fun cdv A outer s H vs Q E hr h => ?_)
  · obtain ⟨n, a, b, rfl, _⟩ := h
    rfl
  · obtain ⟨n, a, b, rfl, k⟩ := h
    refine ⟨_, pss_one (ps_ret (pe_and (pe_not (pe_callB call_isi (by rfl) B.isi (by decide +kernel) (pa_cons (pv 0) (pa_cons (pe_bltn (v := .ty "bool") (by rfl) B.bool (by decide +kernel) rfl) pa_nil))))
      (pe_one (pe_chain op_le op_le (pv 1) (pv 0) (pv 2))))), ?_⟩
    refine ⟨_, rfl, .int n, .ty "bool", .type "int", .type "bool", false, rfl, .ty _, .base (.int n), kit_ty (by decide +kernel), _, rfl, _, rfl, iteT ⟨_, rfl, _, rfl, _, _, rfl, rfl, _, rfl, ?_⟩⟩
    refine ite2 (fun h1 => ?_) (fun h1 => ?_)
    · refine ⟨_, rfl, _, _, rfl, rfl, ?_⟩
      rw [h1] at k
      exact k
    · rw [Bool.eq_false_iff.mpr h1] at k
      exact k
def spIsTick : Sp := fun vs H Q _ => ∃ n : Int, vs = [.int n] ∧ Q (.bl (okTick n)) H
theorem scIsTick : FnScope ["number"] ["number"] (defScope sIsTick) := ⟨rfl, rfl, rfl, by decide +kernel, rfl, by decide +kernel, by decide +kernel⟩
theorem ok_isTick {f fW : Addr} {fd fdW : FuncData} {t8 : Tok} (F : Fun K "is_tick" "is_tick" sIsTick f fd) (g9 : mg "LAST_TICK" = some (.int 1000000000 t8))
    (GW : FnOk P w K mg base CX0 1 fW fdW ["number", "low", "high"] spIsWithin) (mW : mg "is_within" = some (.ref fW)) (kW : PySem.W.keepIn K (.ref fW) = true) (bW : Binds K fdW ["number", "low", "high"] []) : FnOk P w K mg base CX0 2 f fd ["number"] spIsTick := by
  refine F.ok scIsTick (fun vs H Q E h => ?_) (fun cdv A outer s H vs Q E hr h => ?_)
  · obtain ⟨n, rfl, _⟩ := h
    rfl
  · obtain ⟨n, rfl, k⟩ := h
    refine ⟨_, pss_one (ps_ret (pe_call GW hr rfl mW kW bW .nil pass0 (pa_cons (pv 0) (pa_cons pe_int (pa_cons (pe_glob (v := .int 1000000000) rfl g9 ⟨_, rfl⟩) pa_nil))))), ?_⟩
    exact ⟨_, rfl, n, 0, 1000000000, rfl, k⟩
def okStay (z : Str) (a b : Int) : Bool := okName z && (okTick a && (okTick b && decide (a < b)))
def spIsStay : Sp := fun vs H Q _ => ∃ (z : Str) (a b : Int), vs = [.str z, .int a, .int b] ∧ z.length ≤ sizeLine ∧ ∀ H', Same H H' → Q (.bl (okStay z a b)) H'
theorem scIsStay : FnScope ["name", "come", "go"] ["name", "come", "go"] (defScope sIsStay) := ⟨rfl, rfl, rfl, by decide +kernel, rfl, by decide +kernel, by decide +kernel⟩
theorem ok_isStay {f fN fT : Addr} {fd fdN fdT : FuncData} (F : Fun K "is_stay" "is_stay" sIsStay f fd) (GN : FnOk P w K mg base CX0 1 fN fdN ["word"] spIsName) (mN : mg "is_name" = some (.ref fN)) (kN : PySem.W.keepIn K (.ref fN) = true) (bN : Binds K fdN ["word"] [])
    (GT : FnOk P w K mg base CX0 2 fT fdT ["number"] spIsTick) (mT : mg "is_tick" = some (.ref fT)) (kT : PySem.W.keepIn K (.ref fT) = true) (bT : Binds K fdT ["number"] []) : FnOk P w K mg base CX0 3 f fd ["name", "come", "go"] spIsStay := by
  refine F.ok scIsStay (fun vs H Q E h => ?_) (fun cdv A outer s H vs Q E hr h => ?_)
  · obtain ⟨z, a, b, rfl, _⟩ := h
    rfl
  · obtain ⟨z, a, b, rfl, hz, k⟩ := h
    refine ⟨_, pss_one (ps_ret (pe_and (pe_call GN (hr.mono (by decide)) rfl mN kN bN .nil pass0 (pa_cons (pv 0) pa_nil)) (pe_and (pe_call GT hr rfl mT kT bT .nil pass0 (pa_cons (pv 1) pa_nil))
      (pe_and (pe_call GT hr rfl mT kT bT .nil pass0 (pa_cons (pv 2) pa_nil)) (pe_one (pe_cmpR op_lt (pv 1) (pv 2) (nomark _))))))), ?_⟩
    have fin : ∀ (c : Bool) (H' : Hp), Same H H' → c = okStay z a b → Q (.bl c) H' := fun c H' s e => by
      rw [e]
      exact k _ s
    refine ⟨_, rfl, z, rfl, hz, fun H1 s1 => ⟨_, rfl, ?_⟩⟩
    refine ite2 (fun h1 => ⟨_, rfl, a, rfl, _, rfl, ?_⟩) (fun h1 => fin _ _ s1 (by unfold okStay; rw [Bool.eq_false_iff.mpr h1]; rfl))
    refine ite2 (fun h2 => ⟨_, rfl, b, rfl, _, rfl, ?_⟩) (fun h2 => fin _ _ s1 (by unfold okStay; rw [Bool.eq_false_iff.mpr h2]; simp))
    refine ite2 (fun h3 => ⟨_, rfl, _, rfl, _, _, rfl, rfl, ?_⟩) (fun h3 => fin _ _ s1 (by unfold okStay; rw [Bool.eq_false_iff.mpr h3]; simp))
    exact fin _ _ s1 (by unfold okStay; rw [h1, h2, h3]; rfl)
end
end Sh1
set_option Elab.async false
set_option linter.all false
set_option maxRecDepth 100000
set_option maxHeartbeats 2000000
namespace Sh1
open PySem L2 Sho NdefX
abbrev nfInv (cc cda : Addr) : NF := ⟨"__init__", "InvalidStay.__init__", defArgs sInvInit, defBody sInvInit, defScope sInvInit, [("__class__", cc)], cda⟩
/-- an own error that stores one field -/
structure ErrC (P : Program) (K : PySem.W.Frag) (mg : Str → Option Value) (x fld : Str) (F : Addr → Addr → NF) (C : Addr) : Prop where
  txt : ∃ f cc cda, SupTxt P K mg (F cc cda) f cc C ∧ PySem.W.findIn K (.ref C) "__init__" = some (some (.ref f)) ∧ PySem.W.typeIn K (.ref f) = some (.type "function")
  cls : SupCls K C C
  xf : XfC K C
  no : PySem.W.findIn K (.ref C) fld = some none
  gm : mg x = some (.ref C)
  exm : PySem.W.exmOne K (.ref C) (.ref C) = some true
section
variable {X : Cx} {CX : CXT} {C : Addr} {k : Nat} {kws : List Keyword} {te : TA} {p pos : Pos}
theorem tells_len {v : V} (h : Tells v) : (∃ y : Str, v = .str y ∧ y.length ≤ 100000) ∨ ∃ i : Int, v = .int i ∧ i.natAbs.log2 < 1920 ∧ (Str.ofString (toString i)).length ≤ 100000 := by
  rcases h with ⟨y, rfl, hy⟩ | ⟨i, rfl, hi⟩
  · exact .inl ⟨y, rfl, hy⟩
  · exact .inr ⟨i, rfl, hi, Nat.le_trans (PyProof.Rows.int_text_len_1921 hi) (by decide)⟩
theorem small_cat {a b : Str} {n m : Nat} (ha : a.length ≤ n) (hb : b.length ≤ m) : (a ++ b).length ≤ n + m := by
  rw [PySem.Str.length_append]
  omega
theorem pmk_inv (EC : ErrC X.prog X.K X.mg "InvalidStay" "index" nfInv C) (hr : Room (k + 2) X.A) (hx : Passes CX X (fun _ _ _ => False)) (hg : Gl X "InvalidStay")
    (hkw : PK X kws te) (hall : (backToKw pos (keywordEach kws X.env)).all (·.1.isSome) = true) (hks : (backToKw pos (keywordEach kws X.env)).filterMap (·.1) = [("index" : Str)])
    (hpl : ((backTo pos (starEach [] X.env)).any (·.1) || (backToKw pos (keywordEach kws X.env)).any (·.1.isNone)) = false) : PMk X (.Call (.Name "InvalidStay" p) [] kws pos) (tMkW C "index" te) := by
  obtain ⟨f, cc, cda, T, iC, tI⟩ := EC.txt
  have S : NScope ["self", "index", "__class__"] ["self", "index"] ["__class__"] (defScope sInvInit) := nscope_by (by decide +kernel)
  refine pmk_kw (F := nfInv cc cda) (fld := "index") (k := k) T EC.cls EC.xf EC.no iC tI S hr hx hg EC.gm hkw hall hks hpl rfl (fun s doc pm an ct xa u => .of_eq rfl) (fun A outer s H E xa v hv => ?_) (fun L => rfl) (fun L => rfl) (fun L => rfl)
  refine ⟨_, pa_cons (pe_joined (.cons pe_str (.cons (pe_fmt (pv 1)) (.cons pe_str .nil)))) pa_nil, fun R hR => ?_⟩
  have e0 : (Str.empty ++ Str.ofString "stay ").length ≤ 10 := by decide +kernel
  have e2 : (Str.ofString " is not allowed").length ≤ 20 := by decide +kernel
  refine ⟨_, rfl, Nat.le_trans e0 (by decide), v, rfl, ?_⟩
  rcases tells_len hv with ⟨y, rfl, hy⟩ | ⟨i, rfl, hi, hl⟩
  · have l1 := small_cat e0 hy
    have l2 := small_cat l1 e2
    exact .inl ⟨y, rfl, Nat.le_trans hy (by decide), y, rfl, Nat.le_trans l1 (by decide), _, rfl, Nat.le_trans l2 (by decide), hR _⟩
  · have l1 := small_cat e0 hl
    have l2 := small_cat l1 e2
    exact .inr ⟨i, rfl, hi, _, rfl, Nat.le_trans l1 (by decide), _, rfl, Nat.le_trans l2 (by decide), hR _⟩
end
end Sh1
set_option Elab.async false
set_option linter.all false
set_option maxRecDepth 100000
set_option maxHeartbeats 2000000
namespace Sh1
open PySem L2 Sho NdefX
abbrev nfUnk (cc cda : Addr) : NF := ⟨"__init__", "UnknownGuest.__init__", defArgs sUnkInit, defBody sUnkInit, defScope sUnkInit, [("__class__", cc)], cda⟩
section
variable {X : Cx} {CX : CXT} {C : Addr} {k : Nat} {kws : List Keyword} {te : TA} {p pos : Pos}
theorem pmk_unk (EC : ErrC X.prog X.K X.mg "UnknownGuest" "name" nfUnk C) (hr : Room (k + 2) X.A) (hx : Passes CX X (fun _ _ _ => False)) (hg : Gl X "UnknownGuest")
    (hkw : PK X kws te) (hall : (backToKw pos (keywordEach kws X.env)).all (·.1.isSome) = true) (hks : (backToKw pos (keywordEach kws X.env)).filterMap (·.1) = [("name" : Str)])
    (hpl : ((backTo pos (starEach [] X.env)).any (·.1) || (backToKw pos (keywordEach kws X.env)).any (·.1.isNone)) = false) : PMk X (.Call (.Name "UnknownGuest" p) [] kws pos) (tMkW C "name" te) := by
  obtain ⟨f, cc, cda, T, iC, tI⟩ := EC.txt
  have S : NScope ["self", "name", "__class__"] ["self", "name"] ["__class__"] (defScope sUnkInit) := nscope_by (by decide +kernel)
  refine pmk_kw (F := nfUnk cc cda) (fld := "name") (k := k) T EC.cls EC.xf EC.no iC tI S hr hx hg EC.gm hkw hall hks hpl rfl (fun s doc pm an ct xa u => .of_eq rfl) (fun A outer s H E xa v hv => ?_) (fun L => rfl) (fun L => rfl) (fun L => rfl)
  refine ⟨_, pa_cons (pe_joined (.cons pe_str (.cons (pe_fmt (pv 1)) .nil))) pa_nil, fun R hR => ?_⟩
  have e0 : (Str.empty ++ Str.ofString "there is no guest ").length ≤ 30 := by decide +kernel
  refine ⟨_, rfl, Nat.le_trans e0 (by decide), v, rfl, ?_⟩
  rcases tells_len hv with ⟨y, rfl, hy⟩ | ⟨i, rfl, hi, hl⟩
  · have l1 := small_cat e0 hy
    exact .inl ⟨y, rfl, Nat.le_trans hy (by decide), y, rfl, Nat.le_trans l1 (by decide), hR _⟩
  · have l1 := small_cat e0 hl
    exact .inr ⟨i, rfl, hi, _, rfl, Nat.le_trans l1 (by decide), hR _⟩
end
end Sh1
set_option Elab.async false
set_option linter.all false
set_option maxRecDepth 100000
set_option maxHeartbeats 2000000
/-! enumerate of a tuple. -/
namespace ShE
open PySem
open Sem (wp)
open AutoSeq1 (wpAny_loadPart')
/-- the enumerate of the tuple o at t -/
theorem meets_enumT (t : Addr) (o : Obj) (items : Array Value) (hc : o.cls = .type "tuple") (n : Nat) (hd : o.data = .seq items n) :
    Meets (Builtin.«enumerate.__new__» ⟨[.type "enumerate", .ref t], []⟩) (fun _ R s => s.heap.get? t = some o ∧
      R (.ok (.ret (.ref (s.heap.push { cls := .type "tuple_iterator", data := .fields #[.ref t, .int 0 0] }).objs.size)))
        { s with heap := (s.heap.push { cls := .type "tuple_iterator", data := .fields #[.ref t, .int 0 0] }).push { cls := .type "enumerate", data := .fields #[.none, .bool false, .ref s.heap.objs.size, rawInt 0, .none, .none] } }) :=
  .of_wp fun prog w A R s h => by
    obtain ⟨hp, g, d, tk, os⟩ := s
    obtain ⟨ht, h⟩ := h
    obtain ⟨oc, od, odt, osl⟩ := o
    replace hc : oc = .type "tuple" := hc
    replace hd : odt = .seq items n := hd
    subst hc hd
    have sub := sub_enumerate
    have isT : Heap.IsTuple (Shared.heap ⟨hp, g, d, tk, os⟩) t items := ⟨_, ht, rfl, n, rfl⟩
    wp_walk using wpAny_loadPart' ht
    refine wpAny_stack_any fun st => wpAny_pure ?_
    split
    · rename_i c _ _ _ _ _
      cases (c == Value.type "enumerate")
      all_goals
        wp_walk using wpAny_loadPart' ht, wpAny_pyIter_tuple isT
        exact ⟨_, rfl, h⟩
    · wp_walk using wpAny_loadPart' ht, wpAny_pyIter_tuple isT
      exact ⟨_, rfl, h⟩
section
variable {prog : Program} {w : World} {A : Around} {E : Value → Shared → Prop} {s : Shared}
theorem call_enumT {t : Addr} {items : Array Value} {Q : Value → Shared → Prop} (hT : s.heap.IsTuple t items)
    (h : ∀ h', IsEnum h' (s.heap.objs.size + 1) s.heap.objs.size 0 .none → h'.IsTupleIter s.heap.objs.size t 0 → h'.objs.size = s.heap.objs.size + 2 →
      (∀ b o, s.heap.get? b = some o → h'.get? b = some o) → Q (.ref (s.heap.objs.size + 1)) { s with heap := h' }) :
    wpAny (model prog w) A (call (.type "enumerate") [.ref t]) Q E s := by
  obtain ⟨o, ho, hc, n, hd⟩ := hT
  refine callType_new F.called_enumerate (by decide) (F.typeCall_enumerate_1 _) (F.newCall_enumerate_1 _) (fun obj => F.args_object_init_2 obj _) F.entry_enumerate_new
    (meets_enumT t o items hc n hd) ⟨ho, ?_⟩
  generalize hI : s.heap.push { cls := .type "tuple_iterator", data := .fields #[.ref t, .int 0 0] } = h1
  have z1 : h1.objs.size = s.heap.objs.size + 1 := by
    rw [← hI]
    exact Heap.size_push ..
  have it1 : h1.get? s.heap.objs.size = some { cls := .type "tuple_iterator", data := .fields #[.ref t, .int 0 0] } := by
    rw [← hI]
    exact Heap.get?_push_size _ rfl
  show _ ∧ _
  rw [z1]
  have en : IsEnum (h1.push { cls := .type "enumerate", data := .fields #[.none, .bool false, .ref s.heap.objs.size, rawInt 0, .none, .none] }) (s.heap.objs.size + 1) s.heap.objs.size 0 .none := by
    have := Heap.get?_push_size h1 (o := { cls := .type "enumerate", data := .fields #[.none, .bool false, .ref s.heap.objs.size, rawInt 0, .none, .none] }) rfl
    rw [z1] at this
    exact this
  refine ⟨⟨_, en, rfl⟩, h _ en ⟨_, Heap.get?_push_of_some _ it1, rfl, rfl⟩ (by rw [Heap.size_push, z1]) fun b o x => Heap.get?_push_of_some _ ?_⟩
  rw [← hI]
  exact Heap.get?_push_of_some _ x
end
end ShE

namespace Sho
open PySem PySem.Spec PyProof.Rows L2
/-- enumerate of the tuple at a: pairs of the turn and its item -/
def Iet (K : PySem.W.Frag) (a : Addr) : It :=
  ⟨fun i H => ∃ (xs : List V) (x : V), SqT K H a xs ∧ xs[i]? = some x, fun i H v H' => ∃ T x, v = .ref T ∧ H T = none ∧ H' = upd H T (.tup [.int (i : Nat), x]) ∧ ∀ xs, SqT K H a xs → xs[i]? = some x,
    fun i H => ∃ xs : List V, SqT K H a xs ∧ xs.length = i⟩
theorem walk_enumT {K : PySem.W.Frag} {a : Addr} {xs : List V} : Walk (Iet K a) xs.length (fun H => SqT K H a xs) (YPair (fun i => some (.int (i : Nat))) (fun i => xs[i]?)) := by
  refine ⟨fun i H hi q => ⟨xs, xs[i], q, by simp [hi]⟩, fun H q => ⟨xs, q, rfl⟩, fun i H v H' _ q y => ?_⟩
  obtain ⟨T, x, h1, h2, h3, h4⟩ := y
  exact ⟨T, .int (i : Nat), x, h1, h2, h3, rfl, h4 xs q⟩
theorem turn_enumT {P : Program} {w : World} {K : PySem.W.Frag} {elts : List Expr} {kk : Nat} {tpos : Pos} (a e it : Addr) :
    Turn P w K (.Tuple elts kk tpos) (Iet K a) [e, it] e (fun i h => (∃ old, IsEnum h e it ((i : Nat) : Int) old) ∧ h.IsTupleIter it a i ∧ e ≠ it ∧ a ≠ it ∧ a ≠ e) where
  mem := by simp
  obj := fun i h st b hb => by
    obtain ⟨⟨old, he⟩, ⟨o, ho, hc, hd⟩, _⟩ := st
    have two : b = e ∨ b = it := by simpa using hb
    rcases two with z | z
    · rw [z]
      exact ⟨_, he, fun v q => nomatch q⟩
    · rw [z]
      exact ⟨o, ho, fun v q => by rw [hd] at q; cases q⟩
  keep := fun i h h' st k => let ⟨⟨old, he⟩, hi, n⟩ := st; ⟨⟨old, k e (by simp) _ he⟩, hi.at fun o q => k it (by simp) o q, n⟩
  item := by
    intro X hP hw hK hc i pins s σ H E I hf st hg
    subst hP hw hK
    obtain ⟨⟨old, he⟩, hit, n1, n2, n3⟩ := st
    obtain ⟨xs, x, hq, hx⟩ := hg
    obtain ⟨its, rv, isT, hz⟩ := I.tuple hq
    have DR := Draws.tuple (prog := X.prog) (w := X.w) (A := X.A.in1) (I.ok.hd hc) it a n2 its.toArray
    obtain ⟨u, hu, ru⟩ := rv.get hx
    have lt : i < its.toArray.size := by
      rw [List.size_toArray]
      exact (List.getElem?_eq_some_iff.mp hu).1
    refine wpAny_pyNext_enum_itemD DR he ⟨hit, isT⟩ lt n1 (by simp [n1, Ne.symm n3]) fun u' h' tk hu' ho st' hT hsz hk => ?_
    have eu : u' = u := by
      have hu' : its.toArray[i]? = some u' := hu'
      rw [List.getElem?_toArray, hu] at hu'
      exact (Option.some.inj hu').symm
    subst eu
    have hel : e < s.heap.objs.size := Heap.lt_size he
    have hil : it < s.heap.objs.size := by
      obtain ⟨_, q, _⟩ := hit
      exact Heap.lt_size q
    refine ⟨_, rfl, wpAny_letOwnedTupleGo_enum (s := { s with heap := h', toks := tk + 1 }) ho fun h'' he' sb => ?_⟩
    have hT2 : h''.get? s.heap.objs.size = some { cls := .type "tuple", data := .seq #[.int i tk, u'] } := (sb.2 _ (Nat.ne_of_gt hel)).trans hT
    have new : ObjOk X.prog X.w (upd H s.heap.objs.size (.tup [.int (i : Nat), x])) h'' s.heap.objs.size (.tup [.int (i : Nat), x]) :=
      ⟨by show 2 ≤ sizeLine; decide, [.int i tk, u'], .cons ⟨_, rfl⟩ (.cons ru .nil), ⟨_, hT2, rfl, _, rfl⟩⟩
    have I1 : Inv X pins σ (upd H s.heap.objs.size (.tup [.int (i : Nat), x])) { s with heap := h'', toks := tk + 1 } :=
      I.turnedNew (ch := [e, it]) (fun b ob hb q => (sb.2 b (fun z => hb (by simp [z]))).trans (hk b ob (fun z => hb (by simp [z])) (fun z => hb (by simp [z])) q)) hf (Nat.le_refl _) new
    refine ⟨.ref s.heap.objs.size, _, I1, rfl, ⟨_, x, rfl, I.hok.fresh (Nat.le_refl _), rfl, fun ys hy => by rw [I.tuple_inj hy hq]; exact hx⟩, ⟨⟨u', ?_⟩, st'.1.at fun o q => (sb.2 it (Ne.symm n1)).trans q, n1, n2, n3⟩, fun b hb => ?_⟩
    · have z : ((i + 1 : Nat) : Int) = (i : Int) + 1 := by omega
      rw [z]
      exact he'
    · have old' : b < s.heap.objs.size := by
        have two : b = e ∨ b = it := by simpa using hb
        rcases two with z | z <;> rw [z] <;> assumption
      rw [upd_ne (Nat.ne_of_lt old')]
      exact (hf b hb).1
  done := by
    intro X hP hw hK hc i pins s σ H E I hf st hg
    subst hP hw hK
    obtain ⟨⟨old, he⟩, hit, n1, n2, n3⟩ := st
    obtain ⟨xs, hq, hx⟩ := hg
    obtain ⟨its, rv, isT, hz⟩ := I.tuple hq
    have DR := Draws.tuple (prog := X.prog) (w := X.w) (A := X.A.in1) (I.ok.hd hc) it a n2 its.toArray
    obtain ⟨f0, f1, f2, f3, f4, f5⟩ := hf it (by simp)
    have ei : i = its.toArray.size := by
      rw [List.size_toArray, ← rv.length]
      exact hx.symm
    refine wpAny_pyNext_enum_endD DR he (show _ from ei ▸ ⟨hit, isT⟩) fun h' eb => ⟨rfl, I.turned (t' := s.toks) (fun b o hb q => eb b o hb q) f0 f1 f3 f4 f5⟩
  self := fun A i s Q E st h => let ⟨⟨_, he⟩, _⟩ := st; wpAny_pyIter_enum he h
def iEnumT (K : PySem.W.Frag) (ta : TA) : TI := fun σ H R => ta σ H fun vs H1 => ∃ a xs, vs = [.ref a] ∧ SqT K H1 a xs ∧ R (Iet K a) H1
theorem pi_enumT {X : Cx} {e : Expr} {ta : TA} {p pos tpos : Pos} {elts : List Expr} {kk : Nat} (hg : Gl X "enumerate") (hm : X.mg "enumerate" = none) (ha : PA X [e] ta) (hs : starEach [e] X.env = [(false, eval e X.env)] := by rfl) :
    PI X (.Tuple elts kk tpos) (.Call (.Name "enumerate" p) [e] [] pos) (iEnumT X.K ta) := by
  refine ⟨fun pins s σ H R I h => ?_⟩
  refine Call_ (ld_blt I hg hm boot_enumerate (PyProof.Rows.callWith_type1 (thn (ha.run pos pins s σ H _ I h) fun us s1 y => ?_) hs rfl))
  obtain ⟨vs, H1, I1, r1, a, xs, rfl, hq, q⟩ := y
  cases r1 with
  | cons r rr =>
    cases rr
    cases r
    obtain ⟨its, rv, isT, hz⟩ := I1.tuple hq
    have lt : a < s1.heap.objs.size := by
      obtain ⟨o, ho, _⟩ := isT
      exact Heap.lt_size ho
    refine ShE.call_enumT isT fun h' he hit hsz hk => wpAny_pyIter_enum he ?_
    have I2 : Inv X pins σ H1 { s1 with heap := h' } := I1.kept (t' := s1.toks) hk
    refine ⟨s1.heap.objs.size + 1, [s1.heap.objs.size + 1, s1.heap.objs.size], _, _, H1, rfl, I2, turn_enumT a (s1.heap.objs.size + 1) s1.heap.objs.size,
      ⟨⟨.none, he⟩, hit, Nat.succ_ne_self _, Nat.ne_of_lt lt, Nat.ne_of_lt (Nat.lt_succ_of_lt lt)⟩, fun b hb => ?_, q⟩
    have le : s1.heap.objs.size ≤ b := by
      have two : b = s1.heap.objs.size + 1 ∨ b = s1.heap.objs.size := by simpa using hb
      rcases two with z | z
      · rw [z]
        exact Nat.le_succ _
      · rw [z]
        exact Nat.le_refl _
    exact I1.fpOk le (I1.hok.fresh le)
end Sho

set_option Elab.async false
set_option linter.all false
set_option maxRecDepth 100000
set_option maxHeartbeats 2000000
namespace Sh1
open PySem L2 Sho NdefX
/-! ### stays as data -/
abbrev StaysV (H : Hp) (vs : List V) (xs : List Stay) : Prop := PySem.Paired (StayV H) vs xs
theorem StayV.same {H H' : Hp} {v : V} {x : Stay} (s : Same H H') (h : StayV H v x) : StayV H' v x := by
  obtain ⟨t, e, ht⟩ := h
  exact ⟨t, e, s _ _ ht⟩
theorem StaysV.same {H H' : Hp} (s : Same H H') : ∀ {vs : List V} {xs : List Stay}, StaysV H vs xs → StaysV H' vs xs
  | _, _, .nil => .nil
  | _, _, .cons h r => .cons (h.same s) (StaysV.same s r)
theorem pair_len {α β : Type} {R : α → β → Prop} : ∀ {as : List α} {bs : List β}, PySem.Paired R as bs → as.length = bs.length
  | _, _, .nil => rfl
  | _, _, .cons _ r => congrArg Nat.succ (pair_len r)
theorem pair_get {α β : Type} {R : α → β → Prop} : ∀ {as : List α} {bs : List β} {i : Nat} {a : α}, PySem.Paired R as bs → as[i]? = some a → ∃ b, bs[i]? = some b ∧ R a b
  | _, _, i, a, .nil, h => by simp at h
  | _, _, 0, a, .cons h r, e => by
    simp at e
    subst e
    exact ⟨_, rfl, h⟩
  | _, _, i + 1, a, .cons h r, e => by
    simp at e
    obtain ⟨b, e2, r2⟩ := pair_get r e
    exact ⟨b, by simpa using e2, r2⟩
theorem log_small {i : Nat} (h : i ≤ sizeLine) : ((i : Int)).natAbs.log2 < 1920 := by
  rw [Int.natAbs_natCast]
  rw [sizeLine_eq] at h
  by_cases z : i = 0
  · rw [z]
    decide
  · refine (Nat.log2_lt z).mpr (Nat.lt_of_le_of_lt h ?_)
    exact Nat.lt_of_lt_of_le (show 16777216 < 2 ^ 25 by decide) (Nat.pow_le_pow_right (by decide) (by decide))
/-! ### tests whose answers are known -/
theorem ans_or {A B : TT} {σ : L2.St} {H : Hp} {Q : Bool → Hp → Prop} (a b : Bool) (hA : ∀ R : Bool → Hp → Prop, (∀ H', Same H H' → R a H') → A σ H R)
    (hB : ∀ H1, Same H H1 → a = false → ∀ R : Bool → Hp → Prop, (∀ H', Same H1 H' → R b H') → B σ H1 R) (hQ : ∀ H', Same H H' → Q (a || b) H') : tOr A B σ H Q := by
  refine hA _ fun H1 s1 => ?_
  cases a with
  | true =>
    refine iteT ?_
    have := hQ H1 s1
    rw [Bool.true_or] at this
    exact this
  | false =>
    refine iteF (hB H1 s1 rfl _ fun H2 s2 => ?_)
    have := hQ H2 (s1.trans s2)
    rw [Bool.false_or] at this
    exact this
/-! ### the first invalid stay -/
def badStay (i : Nat) (seen : List Str) (x : Stay) : Bool := decide ((i : Int) = 24) || (seen.any (fun y => y == x.1) || !okStay x.1 x.2.1 x.2.2)
def firstBadFrom : Nat → List Str → List Stay → Option Nat
  | _, _, [] => none
  | i, seen, x :: r => if badStay i seen x = true then some i else firstBadFrom (i + 1) (seen ++ [x.1]) r
def firstBad (xs : List Stay) : Option Nat := firstBadFrom 0 [] xs
theorem inV_strs (z : Str) (l : List Str) : inV (.str z) (l.map V.str) = l.any (fun y => y == z) := by
  unfold inV
  rw [List.any_map]
  rfl
theorem flat_strs (l : List Str) : (l.map V.str).all flatV = true := by
  rw [List.all_map]
  exact List.all_eq_true.mpr fun _ _ => rfl
section
variable {P : Program} {w : World} {K : PySem.W.Frag} {mg : Str → Option Value} {base : Heap}
/-- names of a reasonable length -/
def Short (xs : List Stay) : Prop := ∀ x ∈ xs, x.1.length ≤ 100000 ∧ x.1.cps.all (· < 0x110000) = true
def spCheck (CI : Addr) : Sp := fun vs H Q E => ∃ (a : Addr) (ws : List V) (xs : List Stay), vs = [.ref a, .int 24] ∧ H a = some (.tup ws) ∧ StaysV H ws xs ∧ Short xs ∧ xs.length ≤ sizeLine ∧
  (firstBad xs = none → ∀ H', Same H H' → Q .non H') ∧
  ∀ i, firstBad xs = some i → ∀ (H' : Hp) (d : Addr), Same H H' → H d = none → H' d = some (.xd [(("index" : Str), .int (i : Nat))]) → E (.ref CI) (some d) H'
theorem scCheck : FnScope ["stays", "most", "names", "index", "name", "come", "go"] ["stays", "most"] (defScope sCheck) := ⟨rfl, rfl, rfl, by decide +kernel, rfl, by decide +kernel, by decide +kernel⟩
theorem ok_check {f fS CI : Addr} {fd fdS : FuncData} (F : Fun K "_check_stays" "_check_stays" sCheck f fd) (B : Blt mg) (EC : ErrC P K mg "InvalidStay" "index" nfInv CI)
    (GS : FnOk P w K mg base CX0 3 fS fdS ["name", "come", "go"] spIsStay) (mS : mg "is_stay" = some (.ref fS)) (kS : PySem.W.keepIn K (.ref fS) = true) (bS : Binds K fdS ["name", "come", "go"] []) :
    FnOk P w K mg base (L2.CX P w) 4 f fd ["stays", "most"] (spCheck CI) := by
  refine F.okX scCheck (fun vs H Q E h => ?_) (fun cdv A outer s H vs Q E hr h => ?_)
  · obtain ⟨a, ws, xs, rfl, _⟩ := h
    rfl
  · obtain ⟨a, ws, xs, rfl, ha, hxs, hsh, hz, kOk, kBad⟩ := h
    have nd := scCheck.nd
    refine ⟨_, pss_cons (ps_set (i := 2) nd rfl (Or.inl rfl) (pe_lst pa_nil)) (pss_one (ps_for (passes_of rfl) rfl (pi_enumT (by rfl) B.enum (pa_cons (pv 0) pa_nil))
      (pg_tup rfl (pgs_cons (pg_name (i := 3) nd rfl (Or.inl rfl)) (pgs_cons (pg_tup rfl (pgs_cons (pg_name (i := 4) nd rfl (Or.inl rfl)) (pgs_cons (pg_name (i := 5) nd rfl (Or.inl rfl)) (pgs_cons (pg_name (i := 6) nd rfl (Or.inl rfl)) pgs_nil)))) pgs_nil)))
      (pss_cons (ps_if (PW.pt (pw_or (pt_cmpR op_eq (pv 3) (pv 1) (nomark _)) (pw_or (pt_cmpR op_in_seq (pv 4) (pv 2) rfl) (pw_or1 (pt_not (pt_val (pe_call GS hr rfl mS kS bS .nil pass0 (pa_cons (pv 4) (pa_cons (pv 5) (pa_cons (pv 6) pa_nil))))))))))
          (pss_one (ps_raise rfl (takes_of rfl rfl rfl rfl) (pmk_inv (k := 0) EC (hr.mono (by decide)) passL (by rfl) (pk_cons (pv 3) pk_nil) rfl rfl rfl))) pss_nil)
        (pss_one (ps_expr (pe_bm PySem.F.plainAttrs_list PySem.F.slot_list_append PySem.F.type_list_append mt_append (pv 2) (pa_cons (pv 4) pa_nil))))))), ?_⟩
    refine ⟨Nat.zero_le _, fun L hL => ?_⟩
    have s1 : Same H (upd H L (.lst [])) := fun b o e => by rw [upd_ne (ne_of_none e hL)]; exact e
    refine ⟨_, rfl, a, ws, rfl, SqT.of (s1 _ _ ha), for_it walk_enumT (fun i σ H2 => ∃ o3 o4 o5 o6, σ = [some (.ref a), some (.int 24), some (.ref L), o3, o4, o5, o6] ∧ Same H H2 ∧
      H2 L = some (.lst ((xs.take i).map fun x => .str x.1)) ∧ firstBadFrom i ((xs.take i).map fun x => x.1) (xs.drop i) = firstBad xs)
      ⟨none, none, none, none, rfl, s1, upd_same, rfl⟩ (fun i σ H2 _ ⟨_, _, _, _, _, s2, _⟩ => SqT.of (s2 _ _ ha)) ?_ ?_⟩
    · rintro i y σ H2 H3 hi ⟨o3, o4, o5, o6, rfl, s2, hL2, hb⟩ ⟨T, y1, y2, rfl, hT, rfl, e1, e2⟩
      cases e1
      obtain ⟨x, hx, t, rfl, ht⟩ := pair_get hxs e2
      have s3 : Same H2 (upd H2 T (.tup [.int (i : Nat), .ref t])) := fun b o e => by rw [upd_ne (ne_of_none e hT)]; exact e
      have hx1 : x.1.length ≤ 100000 := (hsh x (List.mem_of_getElem? hx)).1
      refine ⟨T, _, rfl, SqT.of upd_same, rfl, _, _, rfl, _, _, rfl, t, _, rfl, SqT.of (s3 _ _ (s2 _ _ ht)), rfl, _, _, rfl, _, _, rfl, _, _, rfl, rfl, rfl, ?_⟩
      have hL3 := s3 _ _ hL2
      refine ans_or (decide ((i : Int) = 24)) (((xs.take i).map fun x => x.1).any (fun y => y == x.1) || !okStay x.1 x.2.1 x.2.2) (fun R h => ⟨_, rfl, _, rfl, rfl, _, rfl, ?_⟩) (fun H4 s4 _ R h => ?_) fun H4 s4 => ?_
      · have e : decide (V.int (i : Int) = V.int 24) = decide ((i : Int) = 24) := by
          rw [dec_int]
          rfl
        rw [e]
        exact h _ (Same.refl _)
      · refine ans_or _ _ (fun R h => ⟨_, rfl, _, rfl, L, _, rfl, .inl (SqL.of (s4 _ _ hL3)), rfl, ?_, _, rfl, ?_⟩) (fun H5 s5 _ R h => ⟨_, rfl, _, rfl, _, rfl, x.1, x.2.1, x.2.2, rfl, Nat.le_trans hx1 (by decide), fun H6 s6 => ⟨_, rfl, h _ s6⟩⟩) h
        · have e : (xs.take i).map (fun x => V.str x.1) = ((xs.take i).map fun x => x.1).map V.str := by
            rw [List.map_map]
            rfl
          rw [e]
          exact flat_strs _
        · have e : (xs.take i).map (fun x => V.str x.1) = ((xs.take i).map fun x => x.1).map V.str := by
            rw [List.map_map]
            rfl
          rw [e, if_neg Bool.false_ne_true, inV_strs]
          exact h _ (Same.refl _)
      · have hdrop : xs.drop i = x :: xs.drop (i + 1) := by
          have lt := (List.getElem?_eq_some_iff.mp hx)
          obtain ⟨lt, e⟩ := lt
          rw [List.drop_eq_getElem_cons lt, e]
        rw [hdrop] at hb
        unfold firstBadFrom at hb
        have s24 : Same H H4 := (s2.trans s3).trans s4
        by_cases hbad : badStay i ((xs.take i).map fun x => x.1) x = true
        · rw [if_pos hbad] at hb
          have e : (decide ((i : Int) = 24) || (((xs.take i).map fun x => x.1).any (fun y => y == x.1) || !okStay x.1 x.2.1 x.2.2)) = true := hbad
          rw [e]
          refine iteT ⟨_, rfl, _, rfl, .inr ⟨_, rfl, ?_⟩, fun d hd => ?_⟩
          · have lt : i < xs.length := (List.getElem?_eq_some_iff.mp hx).1
            exact log_small (Nat.le_trans (Nat.le_of_lt lt) hz)
          · refine kBad i hb.symm _ d (fun b o z => ?_) (s24.free hd) upd_same
            rw [upd_ne (ne_of_none (s24 _ _ z) hd)]
            exact s24 _ _ z
        · rw [if_neg hbad] at hb
          have e : (decide ((i : Int) = 24) || (((xs.take i).map fun x => x.1).any (fun y => y == x.1) || !okStay x.1 x.2.1 x.2.2)) = false := Bool.eq_false_iff.mpr hbad
          rw [e]
          have hL4 := s4 _ _ hL3
          refine iteF ⟨_, rfl, .inl ⟨rfl, _, SqL.of hL4⟩, _, rfl, L, _, _, rfl, rfl, hL4, ?_, ?_⟩
          · rw [List.length_map, List.length_take]
            have : i < ws.length := hi
            have := pair_len hxs
            omega
          · have take1 : xs.take (i + 1) = xs.take i ++ [x] := by rw [List.take_add_one, hx]; rfl
            refine ⟨_, _, _, _, rfl, fun b o z => ?_, ?_, ?_⟩
            · rw [upd_ne (ne_of_none z hL)]
              exact s24 _ _ z
            · rw [upd_same, take1, List.map_append]
              rfl
            · rw [take1, List.map_append]
              exact hb
    · rintro σ H2 ⟨o3, o4, o5, o6, rfl, s2, hL2, hb⟩
      refine kOk ?_ _ s2
      rw [← hb, pair_len hxs, List.drop_length]
      rfl
end
end Sh1
set_option Elab.async false
set_option linter.all false
set_option maxRecDepth 100000
set_option maxHeartbeats 2000000
namespace Sh1
open PySem L2 Sho NdefX
/-- a Party of the stays xs stands at p -/
def PartyAt (C : Addr) (H : Hp) (p : Addr) (xs : List Stay) : Prop := ∃ dx a ws, H p = some (.ins C dx [(("_stays" : Str), .ref a)]) ∧ H a = some (.tup ws) ∧ StaysV H ws xs
theorem PartyAt.same {C : Addr} {H H' : Hp} {p : Addr} {xs : List Stay} (s : Same H H') (h : PartyAt C H p xs) : PartyAt C H' p xs := by
  obtain ⟨dx, a, ws, h1, h2, h3⟩ := h
  exact ⟨dx, a, ws, s _ _ h1, s _ _ h2, h3.same s⟩
theorem lk_stays (a : V) : List.lookup ("_stays" : Str) [(("_stays" : Str), a)] = some a := by simp [List.lookup]
theorem no_max (a : V) : List.lookup ("MAX_GUESTS" : Str) [(("_stays" : Str), a)] = none := by
  have e : (("MAX_GUESTS" : Str) == ("_stays" : Str)) = false := by decide +kernel
  simp [List.lookup, e]
/-- what the written part says of the class -/
structure PartyC (K : PySem.W.Frag) (mg : Str → Option Value) (C : Addr) : Prop where
  gm : mg "Party" = some (.ref C)
  cl : Cls K C
  nS : NoAttr K C "_stays"
  max : ∃ t, Con K C "MAX_GUESTS" (.int 24) (.int 24 t)
  ca : PySem.W.findIn K (.ref C) "__class__" = some (some (.builtin "object.__class__"))
  cn : PySem.W.specialIn K (.builtin "object.__class__") "__get__" = some (some (.builtin "getset_descriptor.__get__"))
  ct : PySem.W.takesIn K (.builtin "object.__class__") = some true
  mo : PySem.W.mroIn K C (.type "object") = some true
  kS : PySem.W.kitOne K (.ref C) (.ref C) = some true
  kT : PySem.W.kitOne K (.type "tuple") (.ref C) = some false
  sT : PySem.W.subIn K (.type "tuple") (.ref C) = some false
section
variable {P : Program} {w : World} {K : PySem.W.Frag} {mg : Str → Option Value} {base : Heap}
/-! ### Party.__init__ -/
def spPInit (C CI : Addr) : Sp := fun vs H Q E => ∃ (x dx a : Addr) (ws : List V) (xs : List Stay), vs = [.ref x, .ref a] ∧ H x = some (.ins C dx []) ∧ H a = some (.tup ws) ∧ StaysV H ws xs ∧ Short xs ∧ xs.length ≤ sizeLine ∧
  (firstBad xs = none → ∀ H', H' x = some (.ins C dx [(("_stays" : Str), .ref a)]) → (∀ b o, H b = some o → b ≠ x → H' b = some o) → Q .non H') ∧
  ∀ i, firstBad xs = some i → ∀ (H' : Hp) (d : Addr), Same H H' → H d = none → H' d = some (.xd [(("index" : Str), .int (i : Nat))]) → E (.ref CI) (some d) H'
theorem scPInit : FnScope ["self", "stays"] ["self", "stays"] (defScope sPInit) := ⟨rfl, rfl, rfl, by decide +kernel, rfl, by decide +kernel, by decide +kernel⟩
/-- a def of the class with a star parameter -/
structure FunS (K : PySem.W.Frag) (x qual : Str) (st : Stmt) (f : Addr) : Prop where
  ex : ∃ (oc : Value) (od : Option Addr) (doc pm : Value) (an : Option Addr) (cdv ct : Value) (osl : Array (Option Value)),
    K.lookup f = some ⟨oc, od, .func (PySem.W.fnOf x qual (defArgs st) (defBody st) (defScope st) .none .none doc pm an cdv ct), osl⟩ ∧ PySem.W.codeIn K cdv qual = true
theorem ok_pinit {f C CI fC : Addr} {fdC : FuncData} (F : FunS K "__init__" "Party.__init__" sPInit f) (PC : PartyC K mg C)
    (GC : FnOk P w K mg base (L2.CX P w) 4 fC fdC ["stays", "most"] (spCheck CI)) (mC : mg "_check_stays" = some (.ref fC)) (kC : PySem.W.keepIn K (.ref fC) = true) (bC : Binds K fdC ["stays", "most"] []) :
    FnR P w K mg base (L2.CX P w) 5 f (fun vs H Q E => ∃ ws rest, vs = ws ++ rest ∧ ws.length = (["self"] : List Str).length ∧ rest.length ≤ sizeLine ∧ ∀ p, H p = none → spPInit C CI (ws ++ [V.ref p]) (upd H p (.tup rest)) Q E) := by
  obtain ⟨oc, od, doc, pm, an, cdv, ct, osl, lk, hcd⟩ := F.ex
  refine StX.fn_star (ps := ["self"]) (pv := "stays") lk hcd scPInit StX.cxUp (StX.bind_star1 (B := fun us => bindArgs (PySem.W.fnOf "__init__" "Party.__init__" (defArgs sPInit) (defBody sPInit) (defScope sPInit) .none .none doc pm an cdv ct) ⟨us, []⟩) (p1 := "self") (pv := "stays") (fun a => rfl) fun a r rs => rfl) fun A outer s H vs Q E hr h => ?_
  obtain ⟨x, dx, a, ws, xs, rfl, hx, ha, hxs, hsh, hz, kOk, kBad⟩ := h
  obtain ⟨t24, c24⟩ := PC.max
  refine ⟨_, pss_cons (ps_expr (pe_call GC hr rfl mC kC bC .nil (passes_call (takes_of rfl rfl rfl rfl) fun _ _ _ _ z => z) (pa_cons (pv 1) (pa_cons (pe_con (pv 0) rfl) pa_nil)))) (pss_one (ps_fld (pv 0) (pv 1) rfl)), ?_⟩
  refine ⟨_, rfl, _, rfl, x, C, dx, [], .int 24, _, rfl, hx, PC.cl, c24, rfl, a, ws, xs, rfl, ha, hxs, hsh, hz, fun ok H' s' => ?_, kBad⟩
  refine ⟨_, rfl, _, rfl, x, C, dx, [], rfl, s' _ _ hx, PC.cl, PC.nS, by decide, ?_⟩
  exact kOk ok _ upd_same fun b o e hb => by rw [upd_ne hb]; exact s' _ _ e
abbrev spPNew (C CI : Addr) : Sp := fun vs H Q E => ∃ ws rest, vs = ws ++ rest ∧ ws.length = (["self"] : List Str).length ∧ rest.length ≤ sizeLine ∧ ∀ p, H p = none → spPInit C CI (ws ++ [V.ref p]) (upd H p (.tup rest)) Q E
/-- a new Party of these stays, or the error of the first invalid one -/
theorem party_new {C CI : Addr} {H : Hp} {Q : VK} {E : XK} {ys : List V} {xs : List Stay} (hxs : StaysV H ys xs) (hsh : Short xs) (hz : ys.length ≤ sizeLine)
    (ok : firstBad xs = none → ∀ (p : Addr) (H' : Hp), Same H H' → H p = none → PartyAt C H' p xs → Q (.ref p) H')
    (bad : ∀ i, firstBad xs = some i → ∀ (H' : Hp) (d : Addr), Same H H' → H d = none → H' d = some (.xd [(("index" : Str), .int (i : Nat))]) → E (.ref CI) (some d) H') :
    ∀ x dx, H x = none → H dx = none → dx ≠ x → spPNew C CI (V.ref x :: ys) (upd (upd H dx (.own x)) x (.ins C dx [])) (fun v H2 => v = .non ∧ Q (.ref x) H2) E := by
  intro x dx hx hdx ne
  refine ⟨[.ref x], ys, rfl, rfl, hz, fun p hp => ?_⟩
  have px : p ≠ x := fun z => by
    rw [z, upd_same] at hp
    cases hp
  have hp0 : H p = none := by
    rw [upd_ne px] at hp
    by_cases pd : p = dx
    · rw [pd]
      exact hdx
    · rw [upd_ne pd] at hp
      exact hp
  have pd : p ≠ dx := fun z => by
    rw [upd_ne px, z, upd_same] at hp
    cases hp
  have same : Same H (upd (upd (upd H dx (.own x)) x (.ins C dx [])) p (.tup ys)) := fun b o e => by
    rw [upd_ne (ne_of_none e hp0), upd_ne (ne_of_none e hx), upd_ne (ne_of_none e hdx)]
    exact e
  refine ⟨x, dx, p, ys, xs, rfl, by rw [upd_ne (Ne.symm px), upd_same], upd_same, hxs.same same, hsh, by rw [← pair_len hxs]; exact hz, fun h0 H' h1 h2 => ⟨rfl, ?_⟩, fun i hi H' d s' hd e => ?_⟩
  · have s2 : Same H H' := fun b o e => h2 b o (same b o e) (ne_of_none e hx)
    exact ok h0 x H' s2 hx ⟨dx, p, ys, h1, h2 _ _ upd_same px, hxs.same s2⟩
  · exact bad i hi H' d (same.trans s') (same.free hd) e
/-! ### the properties -/
theorem scPStays : FnScope ["self"] ["self"] (defScope sPStays) := ⟨rfl, rfl, rfl, by decide +kernel, rfl, by decide +kernel, by decide +kernel⟩
theorem ok_pstays {f C : Addr} {fd : FuncData} (F : Fun K "stays" "Party.stays" sPStays f fd) (PC : PartyC K mg C) : FnOk P w K mg base CX0 1 f fd ["self"] (getSp C "_stays") := by
  refine F.ok scPStays (fun vs H Q E h => ?_) (fun cdv A outer s H vs Q E hr h => ?_)
  · obtain ⟨a, dx, fs, v, rfl, _⟩ := h
    rfl
  · obtain ⟨a, dx, fs, v, rfl, h1, h2, k⟩ := h
    refine ⟨_, pss_one (ps_ret (pe_fld (pv 0) rfl)), _, rfl, a, C, dx, fs, v, rfl, h1, PC.cl, PC.nS, h2, k⟩
def spPNames (C : Addr) : Sp := fun vs H Q _ => ∃ (p : Addr) (xs : List Stay), vs = [.ref p] ∧ PartyAt C H p xs ∧ xs.length ≤ sizeLine ∧ ∀ H' t, Same H H' → H t = none → H' t = some (.tup (xs.map fun x => .str x.1)) → Q (.ref t) H'
theorem scPNames : FnScope ["self", "name", "come", "go"] ["self"] (defScope sPNames) := ⟨rfl, rfl, rfl, by decide +kernel, rfl, by decide +kernel, by decide +kernel⟩
theorem ok_pnames {f C : Addr} {fd : FuncData} (F : Fun K "names" "Party.names" sPNames f fd) (B : Blt mg) (PC : PartyC K mg C) : FnOk P w K mg base CX0 1 f fd ["self"] (spPNames C) := by
  refine F.ok scPNames (fun vs H Q E h => ?_) (fun cdv A outer s H vs Q E hr h => ?_)
  · obtain ⟨p, xs, rfl, _⟩ := h
    rfl
  · obtain ⟨p, xs, rfl, ⟨dx, a, ws, h1, h2, h3⟩, hz, k⟩ := h
    have nd := scPNames.nd
    refine ⟨_, pss_one (ps_ret (pe_callTy call_tuple_of (by rfl) B.tuple (by decide +kernel) (pa_cons (pe_lc (own := [("name", 1), ("come", 2), ("go", 3)]) (g := gTup K 3 (gCons (gName 1) (gCons (gName 2) (gCons (gName 3) gNil)))) (tt := tYes) rfl nd
      (pi_tup (pe_fld (pv 0) rfl)) (blkOk_by (own := [("name", 1), ("come", 2), ("go", 3)]) (N := ["self", "name", "come", "go"]) (sc := defScope sPNames) (by decide +kernel))
      (fun _ _ _ _ _ => pg_tup rfl (pgs_cons (pg_name (i := 1) nd rfl (Or.inl rfl)) (pgs_cons (pg_name (i := 2) nd rfl (Or.inl rfl)) (pgs_cons (pg_name (i := 3) nd rfl (Or.inl rfl)) pgs_nil))))
      (fun _ _ _ _ _ => pts_nil) (fun _ _ _ _ _ => pv 1)) pa_nil))), ?_⟩
    refine ⟨_, rfl, p, C, dx, _, .ref a, rfl, h1, PC.cl, PC.nS, lk_stays _, a, rfl, ⟨_, SqT.of h2⟩, fun D hD => ?_⟩
    refine lc_map walk_tup (fun i => (xs[i]?).map fun x => .str x.1) hD (by rw [pair_len h3]; exact hz) (fun H1 s1 => SqT.of (s1 _ _ h2)) (fun i x H1 H' hi s1 y R k1 => ?_) (fun i hi => ⟨_, by rw [List.getElem?_eq_getElem (by rw [← pair_len h3]; exact hi)]; rfl⟩) fun H1 s1 e1 => ?_
    · obtain ⟨rfl, e2⟩ := y
      obtain ⟨z, hz2, t, rfl, ht⟩ := pair_get h3 e2
      refine ⟨t, _, rfl, SqT.of (s1 _ _ ht), rfl, _, _, rfl, _, _, rfl, _, _, rfl, rfl, rfl, _, rfl, ?_⟩
      exact k1 _ _ (Same.refl _) (by rw [hz2]; rfl)
    · rw [pair_len h3, gather_map xs fun x => V.str x.1] at e1
      refine ⟨D, _, rfl, .inl ⟨SqL.of e1, fun l hl => ?_⟩⟩
      refine k _ l (fun b o e => ?_) (s1.free hl) upd_same
      rw [upd_ne (ne_of_none (s1 _ _ e) hl)]
      exact s1 _ _ e
end
end Sh1
set_option Elab.async false
set_option linter.all false
set_option maxRecDepth 100000
set_option maxHeartbeats 2000000
/-! Small words that every law's text uses. -/
namespace Shg
open PySem L2 Sho
theorem pair_len {α β : Type} {R : α → β → Prop} : ∀ {as : List α} {bs : List β}, PySem.Paired R as bs → as.length = bs.length
  | _, _, .nil => rfl
  | _, _, .cons _ r => congrArg Nat.succ (pair_len r)
theorem pair_get {α β : Type} {R : α → β → Prop} : ∀ {as : List α} {bs : List β} {i : Nat} {a : α}, PySem.Paired R as bs → as[i]? = some a → ∃ b, bs[i]? = some b ∧ R a b
  | _, _, i, a, .nil, h => by simp at h
  | _, _, 0, a, .cons h r, e => by
    simp at e
    subst e
    exact ⟨_, rfl, h⟩
  | _, _, i + 1, a, .cons h r, e => by
    simp at e
    obtain ⟨b, e2, r2⟩ := pair_get r e
    exact ⟨b, by simpa using e2, r2⟩
theorem pair_mono {α β : Type} {R S : α → β → Prop} (k : ∀ a b, R a b → S a b) : ∀ {as : List α} {bs : List β}, PySem.Paired R as bs → PySem.Paired S as bs
  | _, _, .nil => .nil
  | _, _, .cons h r => .cons (k _ _ h) (pair_mono k r)
theorem pair_app {α β : Type} {R : α → β → Prop} : ∀ {as : List α} {bs : List β} {cs : List α} {ds : List β}, PySem.Paired R as bs → PySem.Paired R cs ds → PySem.Paired R (as ++ cs) (bs ++ ds)
  | _, _, _, _, .nil, k => k
  | _, _, _, _, .cons h r, k => .cons h (pair_app r k)
theorem same_upd {p : Addr} {H : Hp} {o : HO} (hp : H p = none) : Same H (upd H p o) := fun b u e => by rw [upd_ne (ne_of_none e hp)]; exact e
theorem asg_seq {te : TE} {g : TG} {u : TS} {D : Ends} {σ : L2.St} {H : Hp} (h : te σ H fun x H1 => g x σ H1 (u D)) : tSeq (tAsg te g) u D σ H := h
theorem asg_one {te : TE} {g : TG} {D : Ends} {σ : L2.St} {H : Hp} (h : te σ H fun x H1 => g x σ H1 D.nx) : tAsg te g D σ H := h
theorem cons_of {te : TE} {ta : L2.TA} {σ : L2.St} {H : Hp} {Q : List V → Hp → Prop} (h : te σ H fun v H1 => ta σ H1 fun vs H2 => Q (v :: vs) H2) : tCons te ta σ H Q := h
theorem name_of {i : Nat} {v : V} {σ : L2.St} {H : Hp} {N : L2.St → Hp → Prop} {r : VK} {b c : L2.St → Hp → Prop} (h : N (σ.set i (some v)) H) : gName i v σ H (L2.Ends.nx { nx := N, rt := r, bk := b, ct := c }) := h
theorem name_at {i : Nat} {v : V} {σ : L2.St} {H : Hp} {N : L2.St → Hp → Prop} (h : N (σ.set i (some v)) H) : gName i v σ H N := h
theorem lst_of {t : L2.TA} {σ : L2.St} {H : Hp} {Q : VK} (h : t σ H fun xs H1 => xs.length ≤ sizeLine ∧ ∀ p, H1 p = none → Q (.ref p) (upd H1 p (.lst xs))) : tLst t σ H Q := h
theorem nx_of {N : L2.St → Hp → Prop} {r : VK} {b c : L2.St → Hp → Prop} {σ : L2.St} {H : Hp} (h : N σ H) : L2.Ends.nx { nx := N, rt := r, bk := b, ct := c } σ H := h
theorem asg_val {te : TE} {g : TG} {u : TS} {D : Ends} {σ : L2.St} {H : Hp} (v : V) (h1 : ∀ R : VK, (∀ H', Same H H' → R v H') → te σ H R) (h2 : ∀ H', Same H H' → g v σ H' (u D)) : tSeq (tAsg te g) u D σ H := h1 _ h2
theorem asg_rel {te : TE} {g : TG} {u : TS} {D : Ends} {σ : L2.St} {H : Hp} (P : V → Hp → Prop) (h1 : ∀ R : VK, (∀ v H', P v H' → R v H') → te σ H R) (h2 : ∀ v H', P v H' → g v σ H' (u D)) : tSeq (tAsg te g) u D σ H := h1 _ h2
theorem if_rel {c : TT} {A u : TS} {D : Ends} {σ : L2.St} {H : Hp} (P : Hp → Prop) (h1 : ∀ R : Bool → Hp → Prop, (∀ H', P H' → R false H') → c σ H R) (h2 : ∀ H', P H' → u D σ H') : tSeq (tIfS c A tNext) u D σ H :=
  h1 _ fun H' p => iteF (h2 H' p)
theorem if_rel1 {c : TT} {A : TS} {D : Ends} {σ : L2.St} {H : Hp} (P : Hp → Prop) (h1 : ∀ R : Bool → Hp → Prop, (∀ H', P H' → R false H') → c σ H R) (h2 : ∀ H', P H' → D.nx σ H') : tIfS c A tNext D σ H :=
  h1 _ fun H' p => iteF (h2 H' p)
theorem ok_no {P : Program} {w : World} {K : PySem.W.Frag} {mg : Str → Option Value} {base : Heap} {CX : CXT} {k : Nat} {f : Addr} {fd : FuncData} {ps : List Str} : FnOk P w K mg base CX k f fd ps (fun _ _ _ _ => False) :=
  ⟨fun _ _ _ _ h => h.elim, fun _ _ _ _ _ _ _ _ _ _ _ _ _ h => h.elim⟩
theorem free_by {sn os : List (Str × NameKind)} (h : (sn.all fun y => !decide (y.2 = .free) || (decide (os.lookup y.1 = some .cell) || decide (os.lookup y.1 = some .free))) = true) :
    ∀ y ∈ sn, y.2 = .free → os.lookup y.1 = some .cell ∨ os.lookup y.1 = some .free := fun y hy e => by
  have q := List.all_eq_true.mp h y hy
  rw [decide_eq_true e] at q
  simpa using q
abbrev scL (l : List (Str × NameKind)) : Scope := { kind := .function, names := l, isGenerator := false, isCoroutine := false }
theorem ne_lst {L b : Addr} {H : Hp} {xs : List V} {o : HO} (hL : H L = some (.lst xs)) (e : H b = some o) (n : ∀ ys, o ≠ .lst ys) : b ≠ L := fun z => by
  rw [z, hL] at e
  exact n xs (Option.some.inj e).symm
theorem seq_nat {j n : Nat} (h : j < n) : seqIndex? (j : Int) n = some j := by
  have e0 : (if (j : Int) < 0 then (j : Int) + n else (j : Int)) = (j : Int) := if_neg (by omega)
  show (if (decide (0 ≤ (if (j : Int) < 0 then (j : Int) + n else (j : Int))) && decide ((if (j : Int) < 0 then (j : Int) + n else (j : Int)) < (n : Int))) = true then some (if (j : Int) < 0 then (j : Int) + n else (j : Int)).toNat else none) = some j
  rw [e0]
  have e : (decide (0 ≤ (j : Int)) && decide ((j : Int) < (n : Int))) = true := by simp; omega
  rw [if_pos e]
  simp
theorem ixN_nat {n j : Nat} (hj : j < n) : ixN n (j : Int) = some j := by
  unfold ixN
  rw [if_pos (by omega), if_pos (by omega)]
  simp
theorem gather_filter {α : Type} (xs : List α) (p : α → Bool) (f : α → V) : gather (fun i => (xs[i]?).bind fun x => if p x = true then some (f x) else none) xs.length = (xs.filter p).map f := by
  rw [gather_list]
  induction xs with
  | nil => rfl
  | cons x xs ih =>
    rw [List.filterMap_cons, List.filter_cons]
    cases h : p x with
    | true =>
      simp only [if_true, List.map_cons, ih]
    | false =>
      simp only [Bool.false_eq_true, if_false, ih]
/-- an expression read in one of two ways -/
theorem pe_either {X : Cx} {e : Expr} {t1 t2 : TE} (h1 : PE X e t1) (h2 : PE X e t2) : PE X e (fun σ H Q => t1 σ H Q ∨ t2 σ H Q) :=
  ⟨fun pins s σ H Q I h => h.elim (h1.run pins s σ H Q I) (h2.run pins s σ H Q I)⟩
/-- the builtins that the text calls -/
structure Blt (mg : Str → Option Value) : Prop where
  len : mg "len" = none
  all : mg "all" = none
  isi : mg "isinstance" = none
  bool : mg "bool" = none
  tuple : mg "tuple" = none
  list : mg "list" = none
  range : mg "range" = none
  enum : mg "enumerate" = none
  int : mg "int" = none
  sup : mg "super" = none
  sorted : mg "sorted" = none
  dict : mg "dict" = none
  str : mg "str" = none
  min : mg "min" = none
  max : mg "max" = none
  ve : mg "ValueError" = none
  set : mg "set" = none
  sum : mg "sum" = none
  any : mg "any" = none
/-- all but two objects stay -/
def But2 (l S : Addr) (H H' : Hp) : Prop := ∀ b o, H b = some o → b ≠ l → b ≠ S → H' b = some o
theorem But2.refl {l S : Addr} (H : Hp) : But2 l S H H := fun _ _ e _ _ => e
theorem But2.trans {l S : Addr} {H H1 H2 : Hp} (a : But2 l S H H1) (b : But2 l S H1 H2) : But2 l S H H2 := fun c o e n m => b c o (a c o e n m) n m
theorem But2.of {l S : Addr} {H H' : Hp} (s : Same H H') : But2 l S H H' := fun b o e _ _ => s b o e
theorem But2.upd1 {l S : Addr} {H : Hp} {o : HO} : But2 l S H (upd H l o) := fun b u e nb _ => by rw [upd_ne nb]; exact e
theorem But2.upd2 {l S : Addr} {H : Hp} {o : HO} : But2 l S H (upd H S o) := fun b u e _ nb => by rw [upd_ne nb]; exact e
/-- all but two objects and the tables stay -/
def Keep2 (l S : Addr) (H H' : Hp) : Prop := ∀ b o, H b = some o → b ≠ l → b ≠ S → (∀ ps, o ≠ .tbl ps) → H' b = some o
theorem Keep2.trans {l S : Addr} {H H1 H2 : Hp} (a : Keep2 l S H H1) (b : Keep2 l S H1 H2) : Keep2 l S H H2 := fun c o e n m t => b c o (a c o e n m t) n m t
theorem Keep2.of {l S : Addr} {H H' : Hp} (s : Same H H') : Keep2 l S H H' := fun b o e _ _ _ => s b o e
theorem Keep2.but {l S : Addr} {H H' : Hp} (s : But2 l S H H') : Keep2 l S H H' := fun b o e n m _ => s b o e n m
theorem Keep2.ext {l S : Addr} {H H' : Hp} (s : LamX.ExtN H H') : Keep2 l S H H' := fun b o e _ _ t => s b o e t
/-- a def whose code object is known -/
structure FunL (K : PySem.W.Frag) (x qual : Str) (st : Stmt) (f c : Addr) (fd : FuncData) : Prop where
  ex : ∃ (oc : Value) (od : Option Addr) (kV doc pm : Value) (an : Option Addr) (ct : Value) (osl : Array (Option Value)),
    fd = PySem.W.fnOf x qual (defArgs st) (defBody st) (defScope st) .none kV doc pm an (.ref c) ct ∧ K.lookup f = some ⟨oc, od, .func (PySem.W.fnOf x qual (defArgs st) (defBody st) (defScope st) .none kV doc pm an (.ref c) ct), osl⟩ ∧ PySem.W.codeIn K (.ref c) qual = true
theorem FunL.okX {P : Program} {w : World} {K : PySem.W.Frag} {mg : Str → Option Value} {base : Heap} {x qual : Str} {st : Stmt} {f c : Addr} {fd : FuncData} {N ps : List Str} {k : Nat} {sp : Sp} (F : FunL K x qual st f c fd) (S : FnScope N ps (defScope st)) (len : ∀ vs H Q E, sp vs H Q E → vs.length = ps.length)
    (hbody : ∀ (A : Around) (outer : List Env) (s : Shared) (H : Hp) (vs : List V) (Q : VK) (E : XK), Room k (A.deeper (PyProof.Rows.envOfC qual (defScope st) s.heap.objs.size f (.ref c))) → sp vs H Q E →
      ∃ t, PSs (cxOf (L2.CX P w) P w K mg base N qual (defScope st) f (.ref c) A outer s H E) (defBody st) t ∧ t { nx := fun _ H' => Q .non H', rt := Q } (L2.start N vs) H) : FnOk P w K mg base (L2.CX P w) (k + 1) f fd ps sp := by
  obtain ⟨oc, od, kV, doc, pm, an, ct, osl, rfl, lk, hcd⟩ := F.ex
  exact fn_of lk hcd S len fun A outer s H vs Q E hr hsp => hbody A outer s H vs Q E hr hsp
theorem FunL.ok0 {P : Program} {w : World} {K : PySem.W.Frag} {mg : Str → Option Value} {base : Heap} {x qual : Str} {st : Stmt} {f c : Addr} {fd : FuncData} {N ps : List Str} {k : Nat} {sp : Sp} (F : FunL K x qual st f c fd) (S : FnScope N ps (defScope st)) (len : ∀ vs H Q E, sp vs H Q E → vs.length = ps.length)
    (hbody : ∀ (A : Around) (outer : List Env) (s : Shared) (H : Hp) (vs : List V) (Q : VK) (E : XK), Room k (A.deeper (PyProof.Rows.envOfC qual (defScope st) s.heap.objs.size f (.ref c))) → sp vs H Q E →
      ∃ t, PSs (cxOf CX0 P w K mg base N qual (defScope st) f (.ref c) A outer s H E).nox (defBody st) t ∧ t { nx := fun _ H' => Q .non H', rt := Q } (L2.start N vs) H) : FnOk P w K mg base CX0 (k + 1) f fd ps sp := by
  obtain ⟨oc, od, kV, doc, pm, an, ct, osl, rfl, lk, hcd⟩ := F.ex
  refine fn_of lk hcd S len fun A outer s H vs Q E hr hsp => ?_
  obtain ⟨t, h, q⟩ := hbody A outer s H vs Q E hr hsp
  exact ⟨t, h.nox, q⟩
end Shg
set_option Elab.async false
set_option linter.all false
set_option maxRecDepth 100000
set_option maxHeartbeats 2000000
namespace Sh1
open PySem L2 Sho NdefX He Shh
/-! Facts of the head about Party, InvalidStay, UnknownGuest. -/
section
variable {K : Shh.Fr} {h : Heap} {mg : Str → Option Value}
def cvalB (K : Shh.Fr) (C : Addr) (f : Str) (i : Int) : Bool := match PySem.W.findCls K (.ref C) (.type "type") f with
  | some (.val (.int j _)) => decide (j = i)
  | _ => false
theorem cvalB_ok {C : Addr} {f : Str} {i : Int} (c : cvalB K C f i = true) : ∃ u, ClX.CVal K C (.type "type") f (.int i) u := by
  unfold cvalB at c
  split at c
  · rename_i j t e
    rw [of_decide_eq_true c] at e
    exact ⟨_, e, ⟨_, rfl⟩⟩
  · cases c
def partyB (K : Shh.Fr) (C : Addr) : Bool := PySem.W.plainGet K C Str.empty && (PySem.W.hasDictIn K C && (PySem.W.plainOver K C && (eqO (PySem.W.findIn K (.ref C) "__setattr__") (some (some (.builtin "object.__setattr__"))) &&
  (eqO (PySem.W.findIn K (.ref C) "_stays") (some none) && (conB K "Party" "MAX_GUESTS" (.int 24) && (eqO (PySem.W.findIn K (.ref C) "__class__") (some (some (.builtin "object.__class__"))) &&
  (eqO (PySem.W.specialIn K (.builtin "object.__class__") "__get__") (some (some (.builtin "getset_descriptor.__get__"))) && (decide (PySem.W.takesIn K (.builtin "object.__class__") = some true) && (decide (PySem.W.mroIn K C (.type "object") = some true) &&
  (decide (PySem.W.kitOne K (.ref C) (.ref C) = some true) && (decide (PySem.W.kitOne K (.type "tuple") (.ref C) = some false) && (decide (PySem.W.subIn K (.type "tuple") (.ref C) = some false) && (PySem.W.selfFirst K C && (PySem.W.makesIn K C && (PySem.W.keepIn K (.ref C) &&
  (PySem.W.readsIn K C (.type "type") && (eqO (PySem.W.specialIn K (.ref C) "__getattribute__") (some (some (.builtin "type.__getattribute__"))) && cvalB K C "MAX_GUESTS" 24)))))))))))))))))
structure PartyF (K : Shh.Fr) (mg : Str → Option Value) (C : Addr) : Prop where
  pc : PartyC K mg C
  self : PySem.W.selfFirst K C = true
  makes : PySem.W.makesIn K C = true
  kp : PySem.W.keepIn K (.ref C) = true
  rd : ClX.CRead K C (.type "type")
  mx : ∃ u, ClX.CVal K C (.type "type") "MAX_GUESTS" (.int 24) u
theorem partyB_ok (gm : mg "Party" = some (.ref (ga K "Party"))) (c : partyB K (ga K "Party") = true) : PartyF K mg (ga K "Party") := by
  obtain ⟨c1, c⟩ := ba c
  obtain ⟨c2, c⟩ := ba c
  obtain ⟨c3, c⟩ := ba c
  obtain ⟨c4, c⟩ := ba c
  obtain ⟨c5, c⟩ := ba c
  obtain ⟨c6, c⟩ := ba c
  obtain ⟨c7, c⟩ := ba c
  obtain ⟨c8, c⟩ := ba c
  obtain ⟨c9, c⟩ := ba c
  obtain ⟨c10, c⟩ := ba c
  obtain ⟨c11, c⟩ := ba c
  obtain ⟨c12, c⟩ := ba c
  obtain ⟨c13, c⟩ := ba c
  obtain ⟨c14, c⟩ := ba c
  obtain ⟨c15, c⟩ := ba c
  obtain ⟨c16, c⟩ := ba c
  obtain ⟨c17, c⟩ := ba c
  obtain ⟨c18, c19⟩ := ba c
  have mx : ∃ t, Con K (ga K "Party") "MAX_GUESTS" (.int 24) (.int 24 t) := by
    obtain ⟨u, q⟩ := conB_ok c6 (by decide)
    obtain ⟨t, e⟩ : ∃ t, u = .int 24 t := by
      have r := q.rel
      cases u with
      | int j t =>
        obtain ⟨t', e⟩ := (show ∃ t', Value.int j t = .int 24 t' from r)
        exact ⟨t', e⟩
      | _ =>
        obtain ⟨t', e⟩ := r
        cases e
    rw [e] at q
    exact ⟨t, q⟩
  exact ⟨⟨gm, ⟨c1, c2, c3, eqO_ok c4⟩, eqO_ok c5, mx, eqO_ok c7, eqO_ok c8, of_decide_eq_true c9, of_decide_eq_true c10, of_decide_eq_true c11, of_decide_eq_true c12, of_decide_eq_true c13⟩, c14, c15, c16, ⟨c17, eqO_ok c18⟩, cvalB_ok c19⟩
/-! ### InvalidStay, UnknownGuest -/
abbrev aInv (K : Shh.Fr) : Addr := ga K "InvalidStay"
abbrev aUnk (K : Shh.Fr) : Addr := ga K "UnknownGuest"
abbrev dnErr (x : Str) (qual : Str) (st : Stmt) : Dn := ⟨fun K => eInit K x, "__init__", qual, st, fun K => [(("__class__" : Str), cellA K (eInit K x))]⟩
theorem errC_inv {P : Program} (E : ErrF "/claim/cut.py" K "InvalidStay" "index") (D : FunF K "__init__" "InvalidStay.__init__" sInvInit [(("__class__" : Str), cellA K (eInit K "InvalidStay"))] (eInit K "InvalidStay")) (hf : P.main.file = "/claim/cut.py") (sup : mg "super" = none)
    (h2 : (P.main.scope.names.lookup ("super" : Str)).isSome = false) (gm : mg "InvalidStay" = some (.ref (aInv K))) : ErrC P K mg "InvalidStay" "index" nfInv (aInv K) :=
  ⟨⟨_, _, _, err_txt E D hf sup ⟨_, rfl, rfl⟩ h2 (by decide +kernel) (by decide +kernel) (by decide +kernel), E.ini, E.ity⟩, E.sup, E.xf, E.no, gm, E.exm⟩
theorem errC_unk {P : Program} (E : ErrF "/claim/cut.py" K "UnknownGuest" "name") (D : FunF K "__init__" "UnknownGuest.__init__" sUnkInit [(("__class__" : Str), cellA K (eInit K "UnknownGuest"))] (eInit K "UnknownGuest")) (hf : P.main.file = "/claim/cut.py") (sup : mg "super" = none)
    (h2 : (P.main.scope.names.lookup ("super" : Str)).isSome = false) (gm : mg "UnknownGuest" = some (.ref (aUnk K))) : ErrC P K mg "UnknownGuest" "name" nfUnk (aUnk K) :=
  ⟨⟨_, _, _, err_txt E D hf sup ⟨_, rfl, rfl⟩ h2 (by decide +kernel) (by decide +kernel) (by decide +kernel), E.ini, E.ity⟩, E.sup, E.xf, E.no, gm, E.exm⟩
end
end Sh1
set_option Elab.async false
set_option linter.all false
set_option maxRecDepth 100000
set_option maxHeartbeats 2000000
/-! Facts of the head for laws without the ten errors. -/
namespace Shd
open PySem L2 Sho NdefX He Shh Shg
section
variable {K : Shh.Fr} {h : Heap} {mg : Str → Option Value}
abbrev bltNames : List Str := ["len", "all", "isinstance", "bool", "tuple", "list", "range", "enumerate", "int", "super", "sorted", "dict", "str", "min", "max", "ValueError", "set", "sum", "any"]
theorem blt_ok (X : K.In h) (G : h.Ns mainGlobals mg) (c : freeB K bltNames = true) : Shg.Blt mg := by
  have k : ∀ x, x ∈ bltNames → mg x = none := fun x hx => freeB_ok X G c hx
  exact ⟨k _ (by simp), k _ (by simp), k _ (by simp), k _ (by simp), k _ (by simp), k _ (by simp), k _ (by simp), k _ (by simp), k _ (by simp), k _ (by simp), k _ (by simp), k _ (by simp), k _ (by simp), k _ (by simp), k _ (by simp), k _ (by simp), k _ (by simp), k _ (by simp), k _ (by simp)⟩
end
theorem _root_.Shh.FunF.funL9 {K : Shh.Fr} {x qual : Str} {st : Stmt} {f : Addr} (F : FunF K x qual st [] f) : ∃ fd, Shg.FunL K x qual st f (codeA K f) fd ∧
    (∀ ps : List Str, (∀ (kV doc pm : Value) (an : Option Addr) (cdv ct : Value) (us : List Value), us.length = ps.length → bindArgs (PySem.W.fnOf x qual (defArgs st) (defBody st) (defScope st) .none kV doc pm an cdv ct) ⟨us, []⟩ = pure (ps.zip us)) → Binds K fd ps []) ∧
    ∀ ps : List Str, (∀ (kV doc pm : Value) (an : Option Addr) (cdv ct : Value) (us : List Value), us.length = ps.length → bindArgs (PySem.W.fnOf x qual (defArgs st) (defBody st) (defScope st) .none kV doc pm an cdv ct) ⟨us, []⟩ = pure (ps.zip us)) → ∀ (s : Shared) (us : List Value), us.length = ps.length → BindsTo s fd ⟨us, []⟩ (ps.zip us) := by
  obtain ⟨oc, od, doc, pm, an, ct, osl, lk, hcd⟩ := F.ex
  exact ⟨_, ⟨oc, od, .none, doc, pm, an, ct, osl, rfl, lk, hcd⟩, fun ps h => .all (h .none doc pm an _ ct), fun ps h s us hl => .of_eq (h .none doc pm an _ ct us hl)⟩
abbrev dn (x : Str) (st : Stmt) : Dn := ⟨fun K => ga K x, x, x, st, fun _ => []⟩
def tabA (K : Shh.Fr) (x : Str) : Addr := tabOf K (codeA K (ga K x))
end Shd
set_option Elab.async false
set_option linter.all false
set_option maxRecDepth 100000
set_option maxHeartbeats 4000000
set_option autoImplicit false
/-! d.items() of a dict with tuple keys, in a `for` and in a comprehension. -/
namespace Sho
open PySem PySem.Spec PyProof.Rows L2
section
variable {X : Cx} {pins : List (Addr × Obj)} {σ : L2.St} {H : Hp} {s : Shared} {d : Addr} {o : Obj}
theorem frzT2 {kvs : List (List L2.Key × V)} (I : Inv X pins σ H s) (h : H d = some (.frz o (.dT kvs))) :
    (d == sysModules) = false ∧ s.heap.get? d = some o ∧ o.ExactDict ∧ ∃ (es : Array DictEntry) (ep : Nat), o.data = .dict es ep ∧ es.size = kvs.length ∧
      ∀ (i : Nat) (k : List L2.Key) (v : V), kvs[i]? = some (k, v) → ∃ (en : DictEntry) (q : Addr), es[i]? = some en ∧ en.key = .ref q ∧ RelV v en.val ∧ H q = some (.tup (k.map kV)) := by
  obtain ⟨hd, z, hs, xs, pr, o', es, ep, ho, hx, hdt, he, _⟩ := I.hok d _ h
  rw [hd] at ho
  cases ho
  refine ⟨hs, hd, hx, es, ep, hdt, ?_, fun i k v e => ?_⟩
  · have l1 : es.size = xs.length := size_of_entries he
    have l2 : kvs.length = xs.length := Paired.length pr
    omega
  · obtain ⟨b, hb, e1, e2, e3⟩ := paired_get pr e
    have q := entry_at he i
    rw [hb] at q
    exact ⟨_, b.2.1, q, rfl, e3, e2⟩
end
/-- the pairs, each a new tuple of the key's own tuple and the value -/
def Itit (d : Addr) (o : Obj) (kvs : List (List L2.Key × V)) : It :=
  ⟨fun i H => H d = some (.frz o (.dT kvs)) ∧ i < kvs.length, fun i H x H' => ∃ (T q : Addr) (k : List L2.Key) (v : V), kvs[i]? = some (k, v) ∧ x = .ref T ∧ H T = none ∧ H q = some (.tup (k.map kV)) ∧ H' = upd H T (.tup [.ref q, v]), fun i H => H d = some (.frz o (.dT kvs)) ∧ kvs.length ≤ i⟩
section
variable {P : Program} {w : World} {K : PySem.W.Frag} {d : Addr} {o : Obj} {es : Array DictEntry} {ep : Nat}
theorem turn_itemsT {kvs : List (List L2.Key × V)} {elts : List Expr} {kk : Nat} {tpos : Pos} (it : Addr) (hod : o.data = .dict es ep) :
    Turn P w K (.Tuple elts kk tpos) (Itit d o kvs) [it] it (fun i h => ∃ ok ov, IsItemIter h it d i kvs.length ep ok ov) where
  mem := by simp
  obj := fun i h st b hb => by
    have e : b = it := by simpa using hb
    subst e
    obtain ⟨ok, ov, e⟩ := st
    exact ⟨_, e, fun v z => nomatch z⟩
  keep := fun i h h' st k => let ⟨ok, ov, e⟩ := st; ⟨ok, ov, k it (by simp) _ e⟩
  item := by
    intro X hP hw hK hc i pins s σ H E I hf st hg
    subst hP hw hK
    obtain ⟨hd, hi⟩ := hg
    obtain ⟨hs, hgd, hx, es', ep', hdt, hsz, ent⟩ := frzT2 I hd
    obtain ⟨rfl, rfl⟩ := dict_ep hod hdt
    obtain ⟨⟨k, v⟩, hkv⟩ : ∃ p, kvs[i]? = some p := ⟨kvs[i], List.getElem?_eq_getElem hi⟩
    obtain ⟨en, q, hen, hkey, hval, hq⟩ := ent i k v hkv
    obtain ⟨ok, ov, he⟩ := st
    rw [← hsz] at he
    have hi' : i < es'.size := by omega
    have een : es'[i] = en := by
      rw [Array.getElem?_eq_getElem hi'] at hen
      exact Option.some.inj hen
    have hlt : it < s.heap.objs.size := Heap.lt_size he
    refine DT.nextI he ⟨o, hgd, hx, hdt⟩ hi' fun h' ho hT hz hk => ?_
    rw [een] at ho hT
    refine ⟨_, rfl, wpAny_letOwnedTupleGo_items (s := { s with heap := h' }) ho fun h'' he' sb => ?_⟩
    have hT2 : h''.get? s.heap.objs.size = some { cls := .type "tuple", data := .seq #[en.key, en.val] } := (sb.2 _ (Nat.ne_of_gt hlt)).trans hT
    have rk : RelV (V.ref q) en.key := hkey
    have new : ObjOk X.prog X.w (upd H s.heap.objs.size (.tup [.ref q, v])) h'' s.heap.objs.size (.tup [.ref q, v]) :=
      ⟨by show 2 ≤ sizeLine; decide, [en.key, en.val], .cons rk (.cons hval .nil), ⟨_, hT2, rfl, _, rfl⟩⟩
    have I1 : Inv X pins σ (upd H s.heap.objs.size (.tup [.ref q, v])) { s with heap := h'' } :=
      I.turnedNew (t' := s.toks) (ch := [it]) (fun b ob hb e => (sb.2 b (by simpa using hb)).trans (hk b ob (by simpa using hb) e)) hf (Nat.le_refl _) new
    refine ⟨.ref s.heap.objs.size, _, I1, rfl, ⟨_, q, k, v, hkv, rfl, I.hok.fresh (Nat.le_refl _), hq, rfl⟩, ⟨en.key, en.val, ?_⟩, fun b hb => ?_⟩
    · rw [← hsz]; exact he'
    · have e : b = it := by simpa using hb
      rw [e, upd_ne (Nat.ne_of_lt hlt)]
      exact (hf it (by simp)).1
  done := by
    intro X hP hw hK hc i pins s σ H E I hf st hg
    subst hP hw hK
    obtain ⟨hd, hi⟩ := hg
    obtain ⟨f0, f1, f2, f3, f4, f5⟩ := hf it (by simp)
    obtain ⟨hs, hgd, hx, es', ep', hdt, hsz, ent⟩ := frzT2 I hd
    obtain ⟨rfl, rfl⟩ := dict_ep hod hdt
    obtain ⟨ok, ov, he⟩ := st
    rw [← hsz] at he
    exact DT.endI (I.ok.hd hc) he ⟨o, hgd, hx, hdt⟩ (by omega) fun h' eb => ⟨rfl, I.turned (t' := s.toks) (fun b ob hb e => eb b ob hb e) f0 f1 f3 f4 f5⟩
  self := fun A i s Q E st h => let ⟨_, _, e⟩ := st; PySem.W.kcp_self e h
end
def iItemsT (td : TE) : TI := fun σ H R => td σ H fun x H1 => ∃ d o kvs, x = .ref d ∧ H1 d = some (.frz o (.dT kvs)) ∧ R (Itit d o kvs) H1
section
variable {X : Cx} {e : Expr} {td : TE} {apos cpos : Pos}
theorem pi_itemsT {elts : List Expr} {kk : Nat} {tpos : Pos} (he : PE X e td) (hbase : attributeBase e "items" X.env (eval e X.env) = eval e X.env := by rfl) (hline : (apos.endLine == cpos.line) = true := by rfl) :
    PI X (.Tuple elts kk tpos) (.Call (.Attribute e "items" apos) [] [] cpos) (iItemsT td) := by
  refine ⟨fun pins s σ H R I h => ?_⟩
  refine wpAny_Call_method (T := "dict") (id := "dict.items") hbase rfl hline PySem.F.plainAttrs_dict PySem.F.slot_dict_items PySem.F.type_dict_items (thn (he.run pins s σ H _ I h) fun u s1 ⟨x, H1, I1, rx, d, o, kvs, ex, hd, q⟩ => ?_)
  subst ex
  obtain rfl : u = Value.ref d := rx
  obtain ⟨hs, hgd, hx, es, ep, hdt, hsz, ent⟩ := frzT2 I1 hd
  have hm : DT.Raw s1.heap d es ep := ⟨o, hgd, hx, hdt⟩
  have I2 : Inv X pins σ H1 { s1 with heap := s1.heap.push { cls := .type "dict_items", data := .fields #[.ref d] } } := I1.kept (t' := s1.toks) fun b ob q => Heap.get?_push_of_some _ q
  refine ⟨hm.typeIs, ?_, ?_⟩
  · rintro a ⟨⟩
    exact ⟨o, hgd, hx.2.1⟩
  · have fin : wpAny (model X.prog X.w) X.A (pyIter (.ref s1.heap.objs.size)) (PIE X pins σ (.Tuple elts kk tpos) R) X.xe { s1 with heap := s1.heap.push { cls := .type "dict_items", data := .fields #[.ref d] } } := by
      refine DT.iterI (d := d) ⟨_, Heap.get?_push_size _ rfl, rfl, rfl⟩ (hm.push _) ?_
      refine pi_one (tk := s1.toks) I2 _ (turn_itemsT _ hdt) ⟨.none, .none, ?_⟩ q
      rw [← hsz]
      exact Heap.get?_push_size _ rfl
    show wpAny _ _ (callWith cpos (.builtin "dict.items") [.ref d] [] []) _ X.xe s1
    exact method_meetsIn PySem.F.slot_dict_items PySem.F.entry_dict_items rfl (PySem.evalArgs_none ⟨rfl, hm.typeIs, PySem.F.args_dict_items_1 _, _, DT.meetsItems (es := es) (ep := ep) hs, hm, fin⟩)
end
end Sho
set_option Elab.async false
set_option linter.all false
set_option maxRecDepth 100000
set_option maxHeartbeats 4000000
set_option autoImplicit false
/-! {k: v for target in iter if ..} whose keys are tuples. -/
namespace Sho
open PySem PySem.Spec PyProof.Rows L2
/-- one entry more, the key a tuple -/
theorem d_dictSetT {X : Cx} {pins : List (Addr × Obj)} {σ : L2.St} {H : Hp} {s : Shared} {E : Value → Shared → Prop} {D b : Addr} {kvs : List (List L2.Key × V)} {k : List L2.Key} {v : V} {u r : Value} {Q : Unit → Shared → Prop} (hu : X.A.units < cLine) (I : Inv X pins σ H s) (hD : H D = some (.dT kvs)) (hb : H b = some (.tup (k.map kV))) (hz : kvs.length < sizeLine)
    (ry : RelV (.ref b) u) (rv : RelV v r) (h : ∀ s', Inv X pins σ (upd H D (.dT (putK kvs k v))) s' → Q () s') : wpAny (model X.prog X.w) X.A (dictSet D u r) Q E s := by
  cases (show u = Value.ref b from ry)
  obtain ⟨z, hd, xs, rel, dd⟩ := dt_of I.hok hD
  have hx : xs.length ≤ sizeLine := by rw [← Paired.length rel]; exact z
  have hl : (putK kvs k v).length ≤ sizeLine := by have := length_putK kvs k v; omega
  refine wpAny_dictSet_heap (hsz := hx) (show (tupleKind (mixKind X.prog X.w)).room X.A from hu) (key_of I.hok hb) dd fun h' dd' hs => h _ ?_
  obtain ⟨q, es, ep, hq, h2, h3, h4, _, h5⟩ := dd'
  refine d_write I (by rw [hD]; exact True.intro) hs ⟨q, hq⟩ ⟨hl, hd, _, (rel.put k hb rv).keeps fun c ys ec => ?_, q, es, ep, hq, h2, h3, h4, h5⟩
  rw [upd_ne (ne_of ec hD (fun z => nomatch z))]
  exact ec
/-- the reading: D is the new dict -/
def tDcT (wi : TI) (g : TG) (tt : TT) (tk tv : TE) (vs : List Nat) : TE := fun σ H Q => wi σ H fun J H1 => ∀ D, H1 D = none → ∃ W : Nat → Nat → Hp → Prop, (∃ m, W 0 m (upd H1 D (.dT []))) ∧ ∀ i m H, W i m H →
  (J.stop i H ∧ Q (.ref D) H) ∨ (J.go i H ∧ ∃ Nx : Hp → Prop, (∀ H', Nx H' → ∃ m', m' < m ∧ W (i + 1) m' H') ∧ ∀ x H', J.yld i H x H' → g x (wipe σ vs) H' fun σ2 H2 => wipe σ2 vs = wipe σ vs ∧ tt σ2 H2 fun b H3 =>
    if b = true then tk σ2 H3 fun y H4 => tv σ2 H4 fun z H5 => ∃ kvs k q, y = V.ref q ∧ H5 q = some (.tup (k.map kV)) ∧ H5 D = some (.dT kvs) ∧ kvs.length < sizeLine ∧ Nx (upd H5 D (.dT (putK kvs k z))) else Nx H3)
section
variable {X : Cx}
theorem dcT_core {pins : List (Addr × Obj)} {s : Shared} {σ : L2.St} {H : Hp} {Q : VK} {kx vx tg iter : Expr} {ifs : List Expr} {scope : Scope} {own : List (Str × Nat)} {pos pos' : Pos} {wi : TI} {g : TG} {tt : TT} {tk tv : TE} {use : Option (Value → Sem Unit)} {Qf : Value → Shared → Prop}
    (hu : X.A.units < cLine) (hc : X.calm = true) (hN : X.N.Nodup) (I : Inv X pins σ H s) (hi : PI X tg iter wi) (ok : BlkOk X.N X.env.scope scope own)
    (hg : ∀ (s : Shared) (H : Hp) (C : Addr) (cl : List (Str × Addr)) (fp : List Addr), PG (X.blk s H scope (compEnvC scope cl C X.env) fp) tg g) (ht : ∀ (s : Shared) (H : Hp) (C : Addr) (cl : List (Str × Addr)) (fp : List Addr), PTs (X.blk s H scope (compEnvC scope cl C X.env) fp) ifs tt)
    (hk : ∀ (s : Shared) (H : Hp) (C : Addr) (cl : List (Str × Addr)) (fp : List Addr), PE (X.blk s H scope (compEnvC scope cl C X.env) fp) kx tk)
    (he : ∀ (s : Shared) (H : Hp) (C : Addr) (cl : List (Str × Addr)) (fp : List Addr), PE (X.blk s H scope (compEnvC scope cl C X.env) fp) vx tv) (hs : ∀ x, foldedSetIterable iter X.env x = pure x) (h : tDcT wi g tt tk tv (own.map (·.2)) σ H Q)
    (out : ∀ D C s' m H', Inv X pins σ H' s' → Q (.ref D) H' → s'.heap.Ns C m → FpOk X pins H' C → compPost (model X.prog X.w) X.A X.xe use Qf (.ref D) C (.ok .next) s') :
    wpAny (model X.prog X.w) X.A (comprehension (.DictComp kx vx [⟨tg, iter, ifs, 0⟩] scope pos) scope X.env pos' newDict false (eval iter X.env) use) Qf X.xe s := by
  have free : ∀ y ∈ scope.names, y.2 = .free → ∃ c, X.env.cells.lookup y.1 = some c := fun y hy e => (ok.free y hy e).elim (fun k => I.ok.has _ (.inl k)) fun k => I.ok.has _ (.inr k)
  refine wpAny_comprehension_free (use := use) rfl hs (closure_ok free) ok.kind (fun y hy e => by rw [ok.uniq y hy, e]) (thn (hi.run pins s σ H _ I h) fun xv s1 hx => thn hx fun itv s2 h2 => ?_)
  obtain ⟨it, fp, tn, J, H2, rfl, I2, T, st2, f2, q⟩ := h2
  refine wpAny_newObj_type (newEnv_comp ?_)
  have hD0 : H2 s2.heap.objs.size = none := I2.hok.fresh (Nat.le_refl _)
  generalize hD : s2.heap.objs.size = D at hD0
  obtain ⟨W, ⟨m0, w0⟩, turn⟩ := q D hD0
  generalize es3 : ({ s2 with heap := s2.heap.push { cls := .type "dict", data := .dict #[] } } : Shared) = s3
  have h3 : s3.heap = s2.heap.push { cls := .type "dict", data := .dict #[] } := by rw [← es3]
  have I3 : Inv X pins σ (upd H2 D (.dT [])) s3 := by
    rw [← es3]
    refine I2.laid (t' := s2.toks) (fun b o e => Heap.get?_push_of_some _ e) (Nat.le_of_eq hD) ?_
    rw [← hD]
    exact dt_empty s2.heap I2.big
  have low : ∀ b ∈ fp, b < s2.heap.objs.size := fun b hb => let ⟨_, e, _⟩ := T.obj _ _ st2 b hb; Heap.lt_size e
  have f3 : ∀ b ∈ fp, FpOk X pins (upd H2 D (.dT [])) b ∧ b < s3.heap.objs.size := fun b hb => by
    have l := low b hb
    exact ⟨⟨by rw [upd_ne (by rw [← hD]; exact Nat.ne_of_lt l)]; exact (f2 b hb).1, (f2 b hb).2⟩, by rw [h3, Heap.size_push]; exact Nat.lt_succ_of_lt l⟩
  have st3 : tn 0 s3.heap := T.keep _ _ _ st2 fun b _ o e => by rw [h3]; exact Heap.get?_push_of_some _ e
  have I4 := block_start I3 ok hN f3
  have n0 : ∀ b ∈ fp, (upd H2 D (.dT [])) b = none := fun b hb => (f3 b hb).1.1
  generalize eH3 : upd H2 D (.dT []) = H3 at I3 I4 w0 n0 f3
  generalize ecl : cellsFrom (s3.heap.objs.size + 1) scope.names (cloFrom X.env.cells scope.names []) = cl at I4
  have pg := hg s3 H3 s3.heap.objs.size cl fp
  have pt := ht s3 H3 s3.heap.objs.size cl fp
  have pk := hk s3 H3 s3.heap.objs.size cl fp
  have pe := he s3 H3 s3.heap.objs.size cl fp
  show codeAny _ _ (.compStart (.DictComp kx vx [⟨tg, iter, ifs, 0⟩] scope pos) 0 (.ref it) (.ref D) (compEnvC scope cl s3.heap.objs.size X.env)) (compPost (model X.prog X.w) X.A X.xe use Qf (.ref D) s3.heap.objs.size) { s3 with heap := pushCells (s3.heap.push { cls := .type "dict", data := .dict #[] }) scope.names }
  generalize ece : compEnvC scope cl s3.heap.objs.size X.env = ce at I4 pg pt pk pe ⊢
  have cL : ce.locals = s3.heap.objs.size := by subst ece; rfl
  generalize es4 : ({ s3 with heap := pushCells (s3.heap.push { cls := .type "dict", data := .dict #[] }) scope.names } : Shared) = s4 at I4 ⊢
  have st4 : tn 0 s4.heap := T.keep _ _ _ st3 fun b _ o e => by rw [← es4]; exact pushCells_keeps _ _ _ _ (Heap.get?_push_of_some _ e)
  have mine : ∀ {σ' : L2.St} {H' : Hp} {s' : Shared}, Inv (X.blk s3 H3 scope ce fp) [] σ' H' s' → (∀ b ∈ fp, H' b = none) → ∀ b ∈ fp, FpOk (X.blk s3 H3 scope ce fp) [] H' b := fun {σ' H' s'} J' hn b hb =>
    ⟨hn b hb, (J'.ok.exf b hb).1, J'.ok.exfs b hb, .inl hb, fun x c e => (J'.ok.exf b hb).2 x c e, fun p hp => absurd (show p ∈ ([] : List (Addr × Obj)) ++ [] from hp) (by simp)⟩
  have loop : codeAny (model X.prog X.w) X.A (.compLoop (.DictComp kx vx [⟨tg, iter, ifs, 0⟩] scope pos) 0 (.ref it) (.ref D) ce) (compPost (model X.prog X.w) X.A X.xe use Qf (.ref D) s3.heap.objs.size) s4 := by
    refine compLoop_anyD (fun n s' => ∃ i H', Inv (X.blk s3 H3 scope ce fp) [] (wipe σ (own.map (·.2))) H' s' ∧ tn i s'.heap ∧ (∀ b ∈ fp, H' b = none) ∧ W i n H') ?_ m0 ⟨0, H3, I4, st4, n0, w0⟩
    rintro n s5 ⟨i, H5, I5, st5, n5, w5⟩
    rcases turn i n H5 w5 with ⟨stop, qq⟩ | ⟨go, Nx, hNx, step⟩
    · refine thnF (T.done (X.blk s3 H3 scope ce fp) rfl rfl rfl hc i [] s5 _ H5 (fun _ _ => False) I5 (mine I5 n5) st5 stop) fun r s6 ⟨hr, I6⟩ => ?_
      subst hr
      have I7 : Inv X pins σ H5 s6 := I3.call' (ch := fp) I6.os I6.base I6.hok I6.bare fun b hb => ⟨(f3 b hb).1.2.2.2.1, (f3 b hb).1.2.1, (f3 b hb).1.2.2.2.2.1, (f3 b hb).1.2.2.2.2.2⟩
      have nC : H5 s3.heap.objs.size = none := by rw [← cL]; exact I6.free
      obtain ⟨m, hn, _⟩ := I6.loc
      have hn : s6.heap.Ns ce.locals m := hn
      rw [cL] at hn
      exact out D s3.heap.objs.size s6 m H5 I7 qq hn (I3.fpOk (Nat.le_refl _) nC)
    · refine thnF (T.item (X.blk s3 H3 scope ce fp) rfl rfl rfl hc i [] s5 _ H5 (fun _ _ => False) I5 (mine I5 n5) st5 go) fun r s6 ⟨u, hr, h6⟩ => ?_
      subst hr
      refine thnF h6 fun _ s7 ⟨x, H7, I7, r7, y7, st7, n7⟩ => ?_
      refine thnF (pg.run _ s7 _ H7 x u _ (I7.pinned (mine I7 n7) (T.obj _ _ st7)) r7 (step x H7 y7)) fun _ s8 ⟨σ8, H8, I8, hw, q8⟩ => ?_
      refine thnF (pt.run _ s8 σ8 H8 _ I8 q8) fun b s9 ⟨H9, I9, q9⟩ => ?_
      have fin : ∀ {s' : Shared} {H' : Hp}, Inv (X.blk s3 H3 scope ce fp) ([] ++ pinsAt fp s7.heap) σ8 H' s' → Nx H' → ∃ m, m < n ∧ ∃ i H', Inv (X.blk s3 H3 scope ce fp) [] (wipe σ (own.map (·.2))) H' s' ∧ tn i s'.heap ∧ (∀ b ∈ fp, H' b = none) ∧ W i m H' := fun {s' H'} J' nx => by
        obtain ⟨m', hm, w'⟩ := hNx H' nx
        have kept : ∀ b ∈ fp, ∀ o, s7.heap.get? b = some o → s'.heap.get? b = some o ∧ H' b = none := fun b hb o e =>
          have z := J'.pin (b, o) (List.mem_append_right _ (List.mem_append_right _ (mem_pinsAt hb e)))
          ⟨z.1, z.2.1⟩
        refine ⟨m', hm, i + 1, H', (J'.unpinned (pins := [])).weak (by rw [← hw, wipe_length]) (fun j v e => (wipe_some (hw ▸ e : (wipe σ8 (own.map (·.2)))[j]? = some (some v))).1), T.keep _ _ _ st7 fun b hb o e => (kept b hb o e).1, fun b hb => ?_, w'⟩
        obtain ⟨o, e, _⟩ := T.obj _ _ st7 b hb
        exact (kept b hb o e).2
      cases b with
      | false =>
        simp only [Bool.false_eq_true, if_false] at q9 ⊢
        exact fin I9 q9
      | true =>
        simp only [if_true] at q9 ⊢
        refine thnF (pk.run _ s9 σ8 H9 _ I9 q9) fun z s10 ⟨yk, H10, I10, r10, q10⟩ => ?_
        refine thnF (pe.run _ s10 σ8 H10 _ I10 q10) fun z2 s11 ⟨yv, H11, I11, r11, kvs, k, qa, ek, eq, hD11, hz11, nx⟩ => ?_
        subst ek
        exact d_dictSetT (X := X.blk s3 H3 scope ce fp) hu I11 hD11 eq hz11 r10 r11 fun s12 I12 => fin I12 nx
  exact codeAny_compStart_dict loop (T.self X.A 0 _ _ _ st4 loop)
theorem pe_dcT {kx vx tg iter : Expr} {ifs : List Expr} {scope : Scope} {own : List (Str × Nat)} {pos : Pos} {wi : TI} {g : TG} {tt : TT} {tk tv : TE} (hu : X.A.units < cLine) (hc : X.calm = true) (hN : X.N.Nodup) (hi : PI X tg iter wi) (ok : BlkOk X.N X.env.scope scope own)
    (hg : ∀ (s : Shared) (H : Hp) (C : Addr) (cl : List (Str × Addr)) (fp : List Addr), PG (X.blk s H scope (compEnvC scope cl C X.env) fp) tg g) (ht : ∀ (s : Shared) (H : Hp) (C : Addr) (cl : List (Str × Addr)) (fp : List Addr), PTs (X.blk s H scope (compEnvC scope cl C X.env) fp) ifs tt)
    (hk : ∀ (s : Shared) (H : Hp) (C : Addr) (cl : List (Str × Addr)) (fp : List Addr), PE (X.blk s H scope (compEnvC scope cl C X.env) fp) kx tk)
    (he : ∀ (s : Shared) (H : Hp) (C : Addr) (cl : List (Str × Addr)) (fp : List Addr), PE (X.blk s H scope (compEnvC scope cl C X.env) fp) vx tv) (hs : ∀ x, foldedSetIterable iter X.env x = pure x := by intro _; rfl) :
    PE X (.DictComp kx vx [⟨tg, iter, ifs, 0⟩] scope pos) (tDcT wi g tt tk tv (own.map (·.2))) := by
  refine ⟨fun pins s σ H Q I h => ?_⟩
  rw [arm_eval_DictComp]
  refine dcT_core hu hc hN I hi ok hg ht hk he hs h fun D C s' m H' J q hn fc => ⟨m, hn, fun h'' sb => ?_⟩
  obtain ⟨g0, g1, g2, g3, g4, g5⟩ := fc
  exact ⟨.ref D, H', J.turned (t' := s'.toks) (fun b o hb e => (sb.2 b hb).trans e) g0 g1 g3 g4 g5, rfl, q⟩
/-- name = {..} on one line, the name a local -/
theorem ps_setDcT {i : Nat} {y : Str} {py spos : Pos} {kx vx tg iter : Expr} {ifs : List Expr} {scope : Scope} {own : List (Str × Nat)} {pos : Pos} {wi : TI} {g : TG} {tt : TT} {tk tv : TE} (hu : X.A.units < cLine) (hc : X.calm = true) (hN : X.N.Nodup) (hy : X.N[i]? = some y) (hyl : X.env.scope.names.lookup y = some .local)
    (hsw : swapsWith (.DictComp kx vx [⟨tg, iter, ifs, 0⟩] scope pos) (some (.Name y py)) spos.line X.env = pure true) (hi : PI X tg iter wi) (ok : BlkOk X.N X.env.scope scope own)
    (hg : ∀ (s : Shared) (H : Hp) (C : Addr) (cl : List (Str × Addr)) (fp : List Addr), PG (X.blk s H scope (compEnvC scope cl C X.env) fp) tg g) (ht : ∀ (s : Shared) (H : Hp) (C : Addr) (cl : List (Str × Addr)) (fp : List Addr), PTs (X.blk s H scope (compEnvC scope cl C X.env) fp) ifs tt)
    (hk : ∀ (s : Shared) (H : Hp) (C : Addr) (cl : List (Str × Addr)) (fp : List Addr), PE (X.blk s H scope (compEnvC scope cl C X.env) fp) kx tk)
    (he : ∀ (s : Shared) (H : Hp) (C : Addr) (cl : List (Str × Addr)) (fp : List Addr), PE (X.blk s H scope (compEnvC scope cl C X.env) fp) vx tv) (hs : ∀ x, foldedSetIterable iter X.env x = pure x := by intro _; rfl) :
    PS X (.Assign [.Name y py] (.DictComp kx vx [⟨tg, iter, ifs, 0⟩] scope pos) spos) (tAsg (tDcT wi g tt tk tv (own.map (·.2))) (gName i)) := by
  refine ⟨fun pins s σ H D I h => ?_⟩
  rw [exec_Assign_Name_used _ _ _ _ hsw]
  refine wpAny_bind (wpAny_standAt (wpAny_bind ?_))
  have h : tDcT wi g tt tk tv (own.map (·.2)) σ H (fun x H1 => gName i x σ H1 D.nx) := h
  show wpAny _ X.A (do let _ ← comprehension (.DictComp kx vx [⟨tg, iter, ifs, 0⟩] scope pos) scope X.env (firstIterPos [⟨tg, iter, ifs, 0⟩] pos) newDict false (eval iter X.env) (some (assign (.Name y py) X.env))) _ _ s
  refine wpAny_bind (thn (dcT_core (Qf := fun _ s' => SP X pins D .next s') hu hc hN I hi ok hg ht hk he hs h fun L C s' m H' J q hn fc => ?_) fun _ s' hq => wpAny_pure (wpAny_pure hq))
  show wpAny _ _ (assign (.Name y py) X.env (.ref L)) _ _ _
  refine wpAny_assign_Name (store_ok2 (v := V.ref L) J hN hy (.inl hyl) rfl (fun s2 J2 ⟨a, sb, ha⟩ => ?_) (.inr hyl))
  obtain ⟨g0, g1, g2, g3, g4, g5⟩ := fc
  have nCa : C ≠ a := ha.elim (fun z => by rw [z]; exact g1) fun z e => g4 y a z e.symm
  exact ⟨m, hn.sameBut sb nCa, fun h3 sb3 => ⟨_, H', J2.turned (t' := s2.toks) (fun b o hb e => (sb3.2 b hb).trans e) g0 g1 g3 g4 g5, q⟩⟩
theorem swD_true {kx vx : Expr} {gs : List Comprehension} {scope : Scope} {pos py : Pos} {y : Str} {l : Nat} {env : Env} (hk : env.scope.kind = .function) (hy : env.scope.names.lookup y = some .local) (hl : (py.line == pos.line) = true)
    (ha : (scope.names.any fun (n, k) => n == y && (k == .local || k == .cell)) = false) : swapsWith (.DictComp kx vx gs scope pos) (some (.Name y py)) l env = pure true := by
  have hb : env.blockKind = .function := by unfold Env.blockKind; rw [hk]; rfl
  have ky : env.kindOf y = some .local := hy
  unfold swapsWith
  simp only [hb, ky, ha, Expr.pos, hl]
  rfl
end
end Sho
set_option Elab.async false
set_option linter.all false
set_option maxRecDepth 100000
set_option maxHeartbeats 2000000
/-! name = {k: v for ..} on one line, keys ints or texts. -/
namespace Shg
open PySem L2 PySem.Spec PyProof.Rows Sho
section
variable {X : Cx}
theorem ps_setDcK {i : Nat} {y : Str} {py spos : Pos} {kx vx tg iter : Expr} {ifs : List Expr} {scope : Scope} {own : List (Str × Nat)} {pos : Pos} {wi : TI} {g : TG} {tt : TT} {tk tv : TE} (hc : X.calm = true) (hN : X.N.Nodup) (hy : X.N[i]? = some y) (hyl : X.env.scope.names.lookup y = some .local)
    (hsw : swapsWith (.DictComp kx vx [⟨tg, iter, ifs, 0⟩] scope pos) (some (.Name y py)) spos.line X.env = pure true) (hi : PI X tg iter wi) (ok : BlkOk X.N X.env.scope scope own)
    (hg : ∀ (s : Shared) (H : Hp) (C : Addr) (cl : List (Str × Addr)) (fp : List Addr), PG (X.blk s H scope (compEnvC scope cl C X.env) fp) tg g) (ht : ∀ (s : Shared) (H : Hp) (C : Addr) (cl : List (Str × Addr)) (fp : List Addr), PTs (X.blk s H scope (compEnvC scope cl C X.env) fp) ifs tt)
    (hk : ∀ (s : Shared) (H : Hp) (C : Addr) (cl : List (Str × Addr)) (fp : List Addr), PE (X.blk s H scope (compEnvC scope cl C X.env) fp) kx tk)
    (he : ∀ (s : Shared) (H : Hp) (C : Addr) (cl : List (Str × Addr)) (fp : List Addr), PE (X.blk s H scope (compEnvC scope cl C X.env) fp) vx tv) (hs : ∀ x, foldedSetIterable iter X.env x = pure x := by intro _; rfl) :
    PS X (.Assign [.Name y py] (.DictComp kx vx [⟨tg, iter, ifs, 0⟩] scope pos) spos) (tAsg (tDc wi g tt tk tv (own.map (·.2))) (gName i)) := by
  refine ⟨fun pins s σ H D I h => ?_⟩
  rw [exec_Assign_Name_used _ _ _ _ hsw]
  refine wpAny_bind (wpAny_standAt (wpAny_bind ?_))
  have h : tDc wi g tt tk tv (own.map (·.2)) σ H (fun x H1 => gName i x σ H1 D.nx) := h
  show wpAny _ X.A (do let _ ← comprehension (.DictComp kx vx [⟨tg, iter, ifs, 0⟩] scope pos) scope X.env (firstIterPos [⟨tg, iter, ifs, 0⟩] pos) newDict false (eval iter X.env) (some (assign (.Name y py) X.env))) _ _ s
  refine wpAny_bind (thn (dc_core (Qf := fun _ s' => SP X pins D .next s') hc hN I hi ok hg ht hk he hs h fun L C s' m H' J q hn fc => ?_) fun _ s' hq => wpAny_pure (wpAny_pure hq))
  show wpAny _ _ (assign (.Name y py) X.env (.ref L)) _ _ _
  refine wpAny_assign_Name (store_ok2 (v := V.ref L) J hN hy (.inl hyl) rfl (fun s2 J2 ⟨a, sb, ha⟩ => ?_) (.inr hyl))
  obtain ⟨g0, g1, g2, g3, g4, g5⟩ := fc
  have nCa : C ≠ a := ha.elim (fun z => by rw [z]; exact g1) fun z e => g4 y a z e.symm
  exact ⟨m, hn.sameBut sb nCa, fun h3 sb3 => ⟨_, H', J2.turned (t' := s2.toks) (fun b o hb e => (sb3.2 b hb).trans e) g0 g1 g3 g4 g5, q⟩⟩
end
end Shg
set_option Elab.async false
set_option linter.all false
set_option maxRecDepth 100000
set_option maxHeartbeats 2000000
set_option autoImplicit false
/-! d.update(e) of dicts with ints or texts as keys. -/
namespace Shg
open PySem L2 PySem.Spec PyProof.Rows Sho
section
variable {X : Cx}
def rUpdK : V → List V → Hp → VK → Prop := fun x xs H Q => ∃ (d b : Addr) (kvs more : List (Key × V)), x = .ref d ∧ xs = [.ref b] ∧ d ≠ b ∧ H d = some (.dK kvs) ∧ H b = some (.dK more) ∧ kvs.length + more.length ≤ sizeLine ∧ Q .non (upd H d (.dK (mergeK kvs more)))
theorem mt_updK : MtR X "dict.update" rUpdK := by
  intro pins s σ H x xs v us Q I rx rxs h
  obtain ⟨d, b, kvs, more, rfl, rfl, ne, hd, hb, hz, q⟩ := h
  cases rx
  rw [Vals.ref1 rxs]
  obtain ⟨z1, y1, vs, r1, d1⟩ := dk_of I.hok hd
  obtain ⟨z2, y2, ws, r2, d2⟩ := dk_of I.hok hb
  refine call_meetsIn PySem.F.slot_dict_update d1.typeIs PySem.F.entry_dict_update (PySem.F.args_dict_update_2 _ _) (meets_dict_update (mixKind X.prog X.w) d b ne y2)
    ⟨vs, ws, d1, d2, (by rw [← r1.length, ← r2.length]; exact hz), fun h' hm _ hs => ?_⟩
  have he : ∃ q, h'.get? d = some q := let ⟨q, _, _, hq, _⟩ := hm; ⟨q, hq⟩
  refine ⟨.non, _, ?_, rfl, q⟩
  exact d_write I (by rw [hd]; exact True.intro) hs he (dk_new (Nat.le_trans (length_mergeK more kvs) hz) y1 (r2.merge r1) hm)
end
end Shg
set_option Elab.async false
set_option linter.all false
set_option maxRecDepth 100000
set_option maxHeartbeats 2000000
set_option autoImplicit false
/-! Two piles: the pure functions. -/
namespace Fp
open PySem L2 Sho
abbrev Pm := List (Str × Int)
/-- a dict from names to piles -/
def enc (ps : Pm) : List (Key × V) := ps.map fun q => (Sum.inr q.1, V.int q.2)
theorem enc_len (ps : Pm) : (enc ps).length = ps.length := List.length_map _
theorem val_enc (ps : Pm) (n : Str) : valV (enc ps) (.inr n) = (ps.lookup n).map V.int := by
  induction ps with
  | nil => rfl
  | cons q ps ih =>
    show valV ((Sum.inr q.1, V.int q.2) :: enc ps) _ = _
    obtain ⟨a, b⟩ := q
    by_cases e : a = n
    · rw [valV_pos (by rw [e]), List.lookup_cons, e, beq_self_eq_true]
      rfl
    · rw [valV_neg (fun z => e (Sum.inr.inj z)), ih, List.lookup_cons, show (n == a) = false from by simpa using Ne.symm e]
def putS (ps : Pm) (n : Str) (c : Int) : Pm := if (ps.any fun q => decide (q.1 = n)) = true then ps.map (fun q => if q.1 = n then (q.1, c) else q) else ps ++ [(n, c)]
theorem put_enc (ps : Pm) (n : Str) (c : Int) : putK (enc ps) (.inr n) (.int c) = enc (putS ps n c) := by
  unfold putS putK enc
  rw [List.any_map, show ((fun kv : Key × V => decide (kv.1 = Sum.inr n)) ∘ fun q : Str × Int => (Sum.inr q.1, V.int q.2)) = fun q => decide (q.1 = n) from funext fun q => decide_eq_decide.mpr ⟨fun z => Sum.inr.inj z, fun z => by show Sum.inr q.1 = _; rw [z]⟩]
  split
  · rw [List.map_map, List.map_map]
    refine List.map_congr_left fun q _ => ?_
    by_cases e : q.1 = n
    · simp [e]
    · simp [e]
  · rw [List.map_append]
    rfl
theorem lookup_put (ps : Pm) (n m : Str) (c : Int) : (putS ps n c).lookup m = if m = n then some c else ps.lookup m := by
  have h := valV_put (enc ps) (Sum.inr n) (Sum.inr m) (.int c)
  rw [put_enc, val_enc, val_enc] at h
  by_cases e : m = n
  · rw [if_pos e]
    rw [if_pos (by rw [e])] at h
    cases h2 : (putS ps n c).lookup m with
    | none => rw [h2] at h; cases h
    | some v => rw [h2] at h; cases h; rfl
  · rw [if_neg e]
    rw [if_neg (fun z => e (Sum.inr.inj z))] at h
    cases h2 : (putS ps n c).lookup m <;> cases h3 : ps.lookup m <;> rw [h2, h3] at h <;> cases h <;> rfl
def updS (ps qs : Pm) : Pm := qs.foldl (fun acc q => putS acc q.1 q.2) ps
theorem upd_enc : ∀ (qs ps : Pm), mergeK (enc ps) (enc qs) = enc (updS ps qs)
  | [], ps => rfl
  | q :: qs, ps => by
    show mergeK (putK (enc ps) (.inr q.1) (.int q.2)) (enc qs) = _
    rw [put_enc, upd_enc qs (putS ps q.1 q.2)]
    rfl
theorem lookup_upd : ∀ (qs ps : Pm) (n : Str), (qs.map fun q => q.1).Nodup → (updS ps qs).lookup n = (qs.lookup n).or (ps.lookup n)
  | [], ps, n, _ => rfl
  | (a, b) :: qs, ps, n, nd => by
    rw [List.map_cons, List.nodup_cons] at nd
    show (updS (putS ps a b) qs).lookup n = _
    rw [lookup_upd qs _ n nd.2, lookup_put, List.lookup_cons]
    by_cases e : n = a
    · subst e
      have : qs.lookup n = none := List.lookup_eq_none_iff.mpr fun q hq => by
        have : q.1 ≠ n := fun z => nd.1 (z ▸ List.mem_map.mpr ⟨q, hq, rfl⟩)
        simpa using Ne.symm this
      rw [this, beq_self_eq_true, if_pos rfl]
      rfl
    · rw [if_neg e, show (n == a) = false from by simpa using e]
theorem len_put (ps : Pm) (n : Str) (c : Int) : (putS ps n c).length ≤ ps.length + 1 := by
  unfold putS
  split
  · rw [List.length_map]; omega
  · rw [List.length_append]; exact Nat.le_refl _
theorem len_upd : ∀ (qs ps : Pm), (updS ps qs).length ≤ ps.length + qs.length
  | [], ps => Nat.le_refl _
  | q :: qs, ps => by
    have h1 := len_upd qs (putS ps q.1 q.2)
    have h2 := len_put ps q.1 q.2
    show (updS (putS ps q.1 q.2) qs).length ≤ _
    rw [List.length_cons]
    omega
/-- the neighbours of one guest: who is new uses pile c and waits -/
def paintOne (c : Int) (st : Pm × List Str) (o : Str) : Pm × List Str := if (st.1.lookup o).isSome = true then st else (st.1 ++ [(o, c)], st.2 ++ [o])
def paint (c : Int) (os : List Str) (ps : Pm) (wt : List Str) : Pm × List Str := os.foldl (paintOne c) (ps, wt)
/-- all who are waiting, the last one first -/
def spreadN (nx : Int → Int) (f : Str → List Str) : Nat → Pm → List Str → Pm
  | 0, ps, _ => ps
  | k + 1, ps, wt => match wt.getLast? with
    | none => ps
    | some n => spreadN nx f k (paint (nx ((ps.lookup n).getD 0)) (f n) ps wt.dropLast).1 (paint (nx ((ps.lookup n).getD 0)) (f n) ps wt.dropLast).2
def turned (v : Int) : Int := 1 - v
abbrev spread := spreadN turned
def pilesFrom (f : Str → List Str) (gs : List Str) (start : Str) : Pm := spread f gs.length [(start, 0)] [start]
def color (f : Str → List Str) (gs : List Str) : Pm := gs.foldl (fun ps n => if (ps.lookup n).isSome = true then ps else updS ps (pilesFrom f gs n)) []
def pileAt (f : Str → List Str) (gs : List Str) (n : Str) : Int := ((color f gs).lookup n).getD 0
/-- two in one pile who cross -/
def clash (f : Str → List Str) (gs : List Str) (qs : List (Str × Str)) : Bool := qs.any fun q => decide (pileAt f gs q.1 = pileAt f gs q.2)
/-! what stands through the loops -/
structure Walked (gs : List Str) (ps : Pm) (wt : List Str) : Prop where
  nd : (ps.map fun q => q.1).Nodup
  sub : ∀ q ∈ ps, q.1 ∈ gs
  wt : ∀ n ∈ wt, (ps.lookup n).isSome = true
theorem look_mem {ps : Pm} {n : Str} (h : (ps.lookup n).isSome = true) : ∃ c, (n, c) ∈ ps ∧ ps.lookup n = some c := by
  induction ps with
  | nil => cases h
  | cons q ps ih =>
    obtain ⟨a, b⟩ := q
    rw [List.lookup_cons] at h ⊢
    by_cases e : n = a
    · subst e
      rw [beq_self_eq_true]
      exact ⟨b, List.mem_cons_self, rfl⟩
    · rw [show (n == a) = false from by simpa using e] at h ⊢
      obtain ⟨c, h1, h2⟩ := ih h
      exact ⟨c, List.mem_cons_of_mem _ h1, h2⟩
theorem look_none {ps : Pm} {n : Str} : ps.lookup n = none ↔ n ∉ ps.map fun q => q.1 := by
  rw [List.lookup_eq_none_iff]
  constructor
  · intro h hm
    obtain ⟨q, hq, rfl⟩ := List.mem_map.mp hm
    have := h q hq
    simp at this
  · intro h q hq
    have : q.1 ≠ n := fun z => h (z ▸ List.mem_map.mpr ⟨q, hq, rfl⟩)
    simpa using Ne.symm this
theorem look_app (ps qs : Pm) (n : Str) : (ps ++ qs).lookup n = (ps.lookup n).or (qs.lookup n) := by
  induction ps with
  | nil => rfl
  | cons q ps ih =>
    obtain ⟨a, b⟩ := q
    rw [List.cons_append, List.lookup_cons, List.lookup_cons]
    cases n == a with
    | true => rfl
    | false => exact ih
theorem Walked.push {gs : List Str} {ps : Pm} {wt : List Str} {o : Str} {c : Int} (w : Walked gs ps wt) (ho : o ∈ gs) (hn : ps.lookup o = none) : Walked gs (ps ++ [(o, c)]) (wt ++ [o]) := by
  refine ⟨?_, fun q hq => ?_, fun n hn' => ?_⟩
  · rw [List.map_append, List.nodup_append]
    refine ⟨w.nd, by simp, fun a ha b hb e => ?_⟩
    rw [List.mem_singleton.mp hb] at e
    have e : a = o := e
    exact look_none.mp hn (e ▸ ha)
  · rcases List.mem_append.mp hq with h | h
    · exact w.sub q h
    · rw [List.mem_singleton.mp h]
      exact ho
  · rw [look_app]
    rcases List.mem_append.mp hn' with h | h
    · have := w.wt n h
      cases e : ps.lookup n with
      | none => rw [e] at this; cases this
      | some v => rfl
    · rw [List.mem_singleton.mp h, hn]
      show (List.lookup o [(o, c)]).isSome = true
      rw [List.lookup_cons, beq_self_eq_true]
      rfl
theorem Walked.len {gs : List Str} {ps : Pm} {wt : List Str} (w : Walked gs ps wt) : ps.length ≤ gs.length := by
  have h := List.Nodup.length_le_of_subset w.nd (l₂ := gs) (fun n hn => by
    obtain ⟨q, hq, rfl⟩ := List.mem_map.mp hn
    exact w.sub q hq)
  rw [List.length_map] at h
  exact h
theorem paint_snoc (c : Int) (os : List Str) (o : Str) (ps : Pm) (wt : List Str) : paint c (os ++ [o]) ps wt = paintOne c (paint c os ps wt) o := by
  unfold paint
  rw [List.foldl_append]
  rfl
theorem spreadN_step {nx : Int → Int} {f : Str → List Str} {k : Nat} {ps : Pm} {wt : List Str} {n : Str} {v : Int} (h : ps.lookup n = some v) : spreadN nx f (k + 1) ps (wt ++ [n]) = spreadN nx f k (paint (nx v) (f n) ps wt).1 (paint (nx v) (f n) ps wt).2 := by
  show (match (wt ++ [n]).getLast? with | none => ps | some n => _) = _
  rw [List.getLast?_concat]
  show spreadN nx f k (paint (nx ((ps.lookup n).getD 0)) (f n) ps (wt ++ [n]).dropLast).1 (paint (nx ((ps.lookup n).getD 0)) (f n) ps (wt ++ [n]).dropLast).2 = _
  rw [List.dropLast_concat, h]
  rfl
theorem spread_step {f : Str → List Str} {k : Nat} {ps : Pm} {wt : List Str} {n : Str} {v : Int} (h : ps.lookup n = some v) : spread f (k + 1) ps (wt ++ [n]) = spread f k (paint (1 - v) (f n) ps wt).1 (paint (1 - v) (f n) ps wt).2 := spreadN_step h
theorem spreadN_nil (nx : Int → Int) (f : Str → List Str) (k : Nat) (ps : Pm) : spreadN nx f k ps [] = ps := by
  cases k <;> rfl
theorem spread_nil (f : Str → List Str) (k : Nat) (ps : Pm) : spread f k ps [] = ps := spreadN_nil _ f k ps
theorem look_keep {ps qs : Pm} {n : Str} {v : Int} (h : ps.lookup n = some v) : (ps ++ qs).lookup n = some v := by
  rw [look_app, h]
  rfl
theorem paint_ok {gs : List Str} (c : Int) : ∀ {os : List Str} {ps : Pm} {wt : List Str}, Walked gs ps wt → (∀ o ∈ os, o ∈ gs) → Walked gs (paint c os ps wt).1 (paint c os ps wt).2 ∧ ∀ n v, ps.lookup n = some v → (paint c os ps wt).1.lookup n = some v
  | [], ps, wt, w, _ => ⟨w, fun _ _ h => h⟩
  | o :: os, ps, wt, w, h => by
    show Walked gs (List.foldl (paintOne c) (paintOne c (ps, wt) o) os).1 _ ∧ _
    cases e : ps.lookup o with
    | some v =>
      have : paintOne c (ps, wt) o = (ps, wt) := by unfold paintOne; rw [e]; rfl
      rw [show paint c (o :: os) ps wt = List.foldl (paintOne c) (paintOne c (ps, wt) o) os from rfl, this]
      exact paint_ok c w fun x hx => h x (List.mem_cons_of_mem _ hx)
    | none =>
      have : paintOne c (ps, wt) o = (ps ++ [(o, c)], wt ++ [o]) := by unfold paintOne; rw [e]; rfl
      rw [show paint c (o :: os) ps wt = List.foldl (paintOne c) (paintOne c (ps, wt) o) os from rfl, this]
      obtain ⟨h1, h2⟩ := paint_ok c (w.push (c := c) (h o List.mem_cons_self) e) fun x hx => h x (List.mem_cons_of_mem _ hx)
      exact ⟨h1, fun n v hn => h2 n v (look_keep hn)⟩
theorem spreadN_ok {nx : Int → Int} {gs : List Str} {f : Str → List Str} (hF : ∀ n ∈ gs, ∀ m ∈ f n, m ∈ gs) : ∀ (k : Nat) {ps : Pm} {wt : List Str}, Walked gs ps wt → Walked gs (spreadN nx f k ps wt) [] ∧ ∀ n v, ps.lookup n = some v → (spreadN nx f k ps wt).lookup n = some v
  | 0, ps, wt, w => ⟨⟨w.nd, w.sub, fun _ h => nomatch h⟩, fun _ _ h => h⟩
  | k + 1, ps, wt, w => by
    obtain rfl | ⟨wt', n, rfl⟩ : wt = [] ∨ ∃ l x, wt = l ++ [x] := by
      rcases List.eq_nil_or_concat wt with h | ⟨l, x, h⟩
      · exact .inl h
      · exact .inr ⟨l, x, by rw [h, List.concat_eq_append]⟩
    · rw [spreadN_nil]
      exact ⟨w, fun _ _ h => h⟩
    · obtain ⟨v0, hv0⟩ : ∃ v, ps.lookup n = some v := Option.isSome_iff_exists.mp (w.wt n (by simp))
      rw [spreadN_step hv0]
      have hn : n ∈ gs := by
        obtain ⟨c, hc, _⟩ := look_mem (w.wt n (by simp))
        exact w.sub _ hc
      obtain ⟨h1, h2⟩ := paint_ok (nx v0) (os := f n) (wt := wt') (ps := ps) ⟨w.nd, w.sub, fun m hm => w.wt m (List.mem_append_left _ hm)⟩ (hF n hn)
      obtain ⟨h3, h4⟩ := spreadN_ok (nx := nx) hF k h1
      exact ⟨h3, fun m v hm => h4 m v (h2 m v hm)⟩
theorem spread_ok {gs : List Str} {f : Str → List Str} (hF : ∀ n ∈ gs, ∀ m ∈ f n, m ∈ gs) (k : Nat) {ps : Pm} {wt : List Str} (w : Walked gs ps wt) : Walked gs (spread f k ps wt) [] ∧ ∀ n v, ps.lookup n = some v → (spread f k ps wt).lookup n = some v := spreadN_ok hF k w
theorem look_one (n : Str) (c : Int) : List.lookup n [(n, c)] = some c := by
  rw [List.lookup_cons, beq_self_eq_true]
theorem walked0 {gs : List Str} {n : Str} (h : n ∈ gs) : Walked gs [(n, 0)] [n] := ⟨by simp, fun q hq => by rw [List.mem_singleton.mp hq]; exact h, fun m hm => by rw [List.mem_singleton.mp hm, look_one]; rfl⟩
theorem from_ok {gs : List Str} {f : Str → List Str} (hF : ∀ n ∈ gs, ∀ m ∈ f n, m ∈ gs) {n : Str} (h : n ∈ gs) : Walked gs (pilesFrom f gs n) [] ∧ (pilesFrom f gs n).lookup n = some 0 := by
  obtain ⟨h1, h2⟩ := spread_ok hF gs.length (walked0 h)
  exact ⟨h1, h2 n 0 (look_one n 0)⟩
/-- one guest of the list -/
def colorOne (f : Str → List Str) (gs : List Str) (ps : Pm) (n : Str) : Pm := if (ps.lookup n).isSome = true then ps else updS ps (pilesFrom f gs n)
theorem color_eq (f : Str → List Str) (gs : List Str) : color f gs = gs.foldl (colorOne f gs) [] := rfl
theorem colorOne_ok {gs : List Str} {f : Str → List Str} (hF : ∀ n ∈ gs, ∀ m ∈ f n, m ∈ gs) {ps : Pm} {n : Str} (h : n ∈ gs) : ((colorOne f gs ps n).lookup n).isSome = true ∧ (∀ m, (ps.lookup m).isSome = true → ((colorOne f gs ps n).lookup m).isSome = true) ∧ (colorOne f gs ps n).length ≤ ps.length + gs.length := by
  unfold colorOne
  cases e : ps.lookup n with
  | some v =>
    have e2 : (if (some v).isSome = true then ps else updS ps (pilesFrom f gs n)) = ps := if_pos rfl
    rw [e2, e]
    exact ⟨rfl, fun m hm => hm, by omega⟩
  | none =>
    obtain ⟨w, l0⟩ := from_ok hF h
    rw [if_neg (by simp)]
    refine ⟨by rw [lookup_upd _ _ _ w.nd, l0]; rfl, fun m hm => ?_, ?_⟩
    · rw [lookup_upd _ _ _ w.nd]
      cases (pilesFrom f gs n).lookup m with
      | some v => rfl
      | none => exact hm
    · have h1 := len_upd (pilesFrom f gs n) ps
      have h2 := w.len
      omega
theorem color_some {gs : List Str} {f : Str → List Str} (hF : ∀ n ∈ gs, ∀ m ∈ f n, m ∈ gs) : ∀ (ns : List Str) (ps : Pm), (∀ n ∈ ns, n ∈ gs) → ∀ m, m ∈ ns ∨ (ps.lookup m).isSome = true → ((ns.foldl (colorOne f gs) ps).lookup m).isSome = true
  | [], ps, _, m, h => h.elim (fun z => nomatch z) id
  | n :: ns, ps, hs, m, h => by
    obtain ⟨h1, h2, _⟩ := colorOne_ok hF (ps := ps) (hs n List.mem_cons_self)
    refine color_some hF ns (colorOne f gs ps n) (fun x hx => hs x (List.mem_cons_of_mem _ hx)) m ?_
    rcases h with h | h
    · rcases List.mem_cons.mp h with rfl | h
      · exact .inr h1
      · exact .inl h
    · exact .inr (h2 m h)
end Fp
set_option Elab.async false
set_option linter.all false
set_option maxRecDepth 100000
set_option maxHeartbeats 2000000
set_option autoImplicit false
/-! Walks of an odd number of steps: the pure functions. -/
namespace Fp
open PySem L2 Sho
abbrev Nd := Str × Int
abbrev Wk := List (Nd × List Str)
def gv {κ β : Type} [DecidableEq κ] (ws : List (κ × β)) (k : κ) : Option β := (ws.find? fun q => decide (q.1 = k)).map (·.2)
section
variable {κ β : Type} [DecidableEq κ]
theorem gv_none {ws : List (κ × β)} {k : κ} : gv ws k = none ↔ ∀ q ∈ ws, q.1 ≠ k := by
  unfold gv
  rw [Option.map_eq_none_iff, List.find?_eq_none]
  constructor
  · intro h q hq e
    have := h q hq
    simp [e] at this
  · intro h q hq
    simpa using h q hq
theorem gv_app (ws vs : List (κ × β)) (k : κ) : gv (ws ++ vs) k = (gv ws k).or (gv vs k) := by
  unfold gv
  rw [List.find?_append]
  cases ws.find? fun q => decide (q.1 = k) <;> rfl
theorem gv_one (k : κ) (b : β) : gv [(k, b)] k = some b := by
  unfold gv
  rw [List.find?_cons_of_pos (by simp)]
  rfl
theorem gv_mem {ws : List (κ × β)} {k : κ} {b : β} (h : gv ws k = some b) : (k, b) ∈ ws := by
  unfold gv at h
  obtain ⟨q, hq, rfl⟩ := Option.map_eq_some_iff.mp h
  have h1 := List.find?_some hq
  have e : q.1 = k := of_decide_eq_true h1
  have h2 := List.mem_of_find?_eq_some hq
  rw [← e]
  exact h2
theorem gv_keep {ws vs : List (κ × β)} {k : κ} {b : β} (h : gv ws k = some b) : gv (ws ++ vs) k = some b := by
  rw [gv_app, h]
  rfl
end
def stepOne (x : Nd) (w : List Str) (st : Wk × List Nd) (m : Str) : Wk × List Nd := if (gv st.1 (m, 1 - x.2)).isSome = true then st else (st.1 ++ [((m, 1 - x.2), w ++ [m])], st.2 ++ [(m, 1 - x.2)])
def stepAll (f : Str → List Str) (st : Wk × List Nd) (x : Nd) : Wk × List Nd := (f x.1).foldl (stepOne x ((gv st.1 x).getD [])) st
def layer (f : Str → List Str) (st : Wk × List Nd) : Wk × List Nd := st.2.foldl (stepAll f) (st.1, [])
def iter (f : Str → List Str) (st : Wk × List Nd) : Nat → Wk × List Nd
  | 0 => st
  | k + 1 => layer f (iter f st k)
def oddWalk (f : Str → List Str) (gs : List Str) (s : Str) : Option (List Str) := gv (iter f ([((s, 0), [])], [(s, 0)]) (2 * gs.length)).1 (s, 1)
theorem layer_nil (f : Str → List Str) (ws : Wk) : layer f (ws, []) = (ws, []) := rfl
theorem iter_fix {f : Str → List Str} {st : Wk × List Nd} {i : Nat} {ws : Wk} (h : iter f st i = (ws, [])) : ∀ j, iter f st (i + j) = (ws, [])
  | 0 => h
  | j + 1 => by
    show layer f (iter f st (i + j)) = _
    rw [iter_fix h j]
    rfl
/-- what stands through the loops -/
structure Wok (gs : List Str) (ws : Wk) (fr : List Nd) : Prop where
  nd : (ws.map fun q => q.1).Nodup
  sub : ∀ q ∈ ws, q.1.1 ∈ gs ∧ (q.1.2 = 0 ∨ q.1.2 = 1)
  fr : ∀ x ∈ fr, (gv ws x).isSome = true
  len : ∀ q ∈ ws, q.2.length < ws.length
def both (gs : List Str) : List Nd := gs.map (fun n => (n, 0)) ++ gs.map (fun n => (n, 1))
theorem Wok.few {gs : List Str} {ws : Wk} {fr : List Nd} (w : Wok gs ws fr) : ws.length ≤ 2 * gs.length := by
  have h := List.Nodup.length_le_of_subset w.nd (l₂ := both gs) (fun x hx => by
    obtain ⟨q, hq, rfl⟩ := List.mem_map.mp hx
    obtain ⟨h1, h2⟩ := w.sub q hq
    unfold both
    rw [List.mem_append]
    rcases h2 with h2 | h2
    · exact .inl (List.mem_map.mpr ⟨_, h1, by rw [← h2]⟩)
    · exact .inr (List.mem_map.mpr ⟨_, h1, by rw [← h2]⟩))
  unfold both at h
  rw [List.length_map, List.length_append, List.length_map, List.length_map] at h
  omega
theorem Wok.push {gs : List Str} {ws : Wk} {fr : List Nd} {x : Nd} {w : List Str} (h : Wok gs ws fr) (hx : x.1 ∈ gs) (h01 : x.2 = 0 ∨ x.2 = 1) (hn : gv ws x = none) (hw : w.length ≤ ws.length) : Wok gs (ws ++ [(x, w)]) (fr ++ [x]) := by
  refine ⟨?_, fun q hq => ?_, fun y hy => ?_, fun q hq => ?_⟩
  · rw [List.map_append, List.nodup_append]
    refine ⟨h.nd, by simp, fun a ha b hb e => ?_⟩
    obtain ⟨q, hq, rfl⟩ := List.mem_map.mp ha
    rw [List.mem_singleton.mp hb] at e
    exact gv_none.mp hn q hq e
  · rcases List.mem_append.mp hq with k | k
    · exact h.sub q k
    · rw [List.mem_singleton.mp k]
      exact ⟨hx, h01⟩
  · rw [gv_app]
    rcases List.mem_append.mp hy with k | k
    · have := h.fr y k
      cases e : gv ws y with
      | none => rw [e] at this; cases this
      | some v => rfl
    · rw [List.mem_singleton.mp k, hn, gv_one]
      rfl
  · rw [List.length_append]
    rcases List.mem_append.mp hq with k | k
    · exact Nat.lt_succ_of_lt (h.len q k)
    · rw [List.mem_singleton.mp k]
      exact Nat.lt_succ_of_le hw
/-- the first of the shortest -/
def shortest : List (List Str) → Option (List Str)
  | [] => none
  | x :: xs => some (xs.foldl (fun a y => if y.length < a.length then y else a) x)
def oddRing (f : Str → List Str) (gs : List Str) : Option (List Str) := shortest (gs.filterMap (oddWalk f gs))
end Fp
set_option Elab.async false
set_option linter.all false
set_option maxRecDepth 100000
set_option maxHeartbeats 2000000
set_option autoImplicit false
/-! Walks in a graph; what two_piles and odd_ring compute. -/
namespace Fp
open PySem L2 Sho
def IsWalk (f : Str → List Str) : Str → List Str → Prop
  | _, [] => True
  | a, b :: w => b ∈ f a ∧ IsWalk f b w
def endOf : Str → List Str → Str
  | a, [] => a
  | _, b :: w => endOf b w
def Reach (f : Str → List Str) (a b : Str) (k : Nat) : Prop := ∃ w, IsWalk f a w ∧ endOf a w = b ∧ w.length = k
def Conn (f : Str → List Str) (a b : Str) : Prop := ∃ k, Reach f a b k
section
variable {f : Str → List Str}
theorem walk_app : ∀ {a : Str} {u v : List Str}, IsWalk f a (u ++ v) ↔ IsWalk f a u ∧ IsWalk f (endOf a u) v
  | _, [], _ => ⟨fun h => ⟨trivial, h⟩, fun h => h.2⟩
  | _, b :: u, v => by
    show (b ∈ f _ ∧ IsWalk f b (u ++ v)) ↔ (b ∈ f _ ∧ IsWalk f b u) ∧ IsWalk f (endOf b u) v
    rw [walk_app (a := b) (u := u), and_assoc]
theorem end_app : ∀ (a : Str) (u v : List Str), endOf a (u ++ v) = endOf (endOf a u) v
  | _, [], _ => rfl
  | _, b :: u, v => end_app b u v
theorem reach0 (a : Str) : Reach f a a 0 := ⟨[], trivial, rfl, rfl⟩
theorem reach1 {a b : Str} (h : b ∈ f a) : Reach f a b 1 := ⟨[b], ⟨h, trivial⟩, rfl, rfl⟩
theorem reach_add {a b c : Str} {j k : Nat} (h : Reach f a b j) (h' : Reach f b c k) : Reach f a c (j + k) := by
  obtain ⟨u, h1, rfl, rfl⟩ := h
  obtain ⟨v, h3, rfl, rfl⟩ := h'
  exact ⟨u ++ v, walk_app.mpr ⟨h1, h3⟩, end_app _ _ _, List.length_append⟩
theorem reach_symm (sy : ∀ n m, m ∈ f n → n ∈ f m) : ∀ {k : Nat} {a b : Str}, Reach f a b k → Reach f b a k := by
  intro k a b ⟨w, h1, h2, h3⟩
  subst h3
  induction w generalizing a with
  | nil => cases h2; exact reach0 _
  | cons c w ih =>
    have := reach_add (ih h1.2 h2) (reach1 (sy _ _ h1.1))
    exact this
theorem reach_step {a c : Str} {k : Nat} : Reach f a c (k + 1) ↔ ∃ b, b ∈ f a ∧ Reach f b c k := by
  constructor
  · rintro ⟨w, h1, h2, h3⟩
    cases w with
    | nil => cases h3
    | cons b w => exact ⟨b, h1.1, w, h1.2, h2, Nat.succ.inj h3⟩
  · rintro ⟨b, hb, w, h1, h2, h3⟩
    exact ⟨b :: w, ⟨hb, h1⟩, h2, congrArg Nat.succ h3⟩
theorem reach_snoc {a c : Str} {k : Nat} : Reach f a c (k + 1) ↔ ∃ b, Reach f a b k ∧ c ∈ f b := by
  constructor
  · rintro ⟨w, h1, h2, h3⟩
    obtain rfl | ⟨u, x, rfl⟩ : w = [] ∨ ∃ l x, w = l ++ [x] := by
      rcases List.eq_nil_or_concat w with h | ⟨l, x, h⟩
      · exact .inl h
      · exact .inr ⟨l, x, by rw [h, List.concat_eq_append]⟩
    · cases h3
    · obtain ⟨q1, q2⟩ := walk_app.mp h1
      rw [end_app] at h2
      have h2 : x = c := h2
      subst h2
      exact ⟨_, ⟨u, q1, rfl, by rw [List.length_append] at h3; exact Nat.succ.inj h3⟩, q2.1⟩
  · rintro ⟨b, h, hc⟩
    exact reach_add h (reach1 hc)
theorem reach_in {gs : List Str} (hF : ∀ n ∈ gs, ∀ m ∈ f n, m ∈ gs) : ∀ {k : Nat} {a b : Str}, a ∈ gs → Reach f a b k → b ∈ gs := by
  intro k a b ha ⟨w, h1, h2, h3⟩
  clear h3
  induction w generalizing a with
  | nil => cases h2; exact ha
  | cons c w ih => exact ih (hF _ ha _ h1.1) h1.2 h2
theorem conn_refl (a : Str) : Conn f a a := ⟨0, reach0 a⟩
theorem Conn.trans {a b c : Str} (h : Conn f a b) (h' : Conn f b c) : Conn f a c := by
  obtain ⟨j, h⟩ := h
  obtain ⟨k, h'⟩ := h'
  exact ⟨j + k, reach_add h h'⟩
theorem Conn.symm (sy : ∀ n m, m ∈ f n → n ∈ f m) {a b : Str} (h : Conn f a b) : Conn f b a := by
  obtain ⟨j, h⟩ := h
  exact ⟨j, reach_symm sy h⟩
theorem Conn.step {a b c : Str} (h : Conn f a b) (hc : c ∈ f b) : Conn f a c := by
  obtain ⟨j, h⟩ := h
  exact ⟨j + 1, reach_add h (reach1 hc)⟩
theorem Conn.in {gs : List Str} (hF : ∀ n ∈ gs, ∀ m ∈ f n, m ∈ gs) {a b : Str} (ha : a ∈ gs) (h : Conn f a b) : b ∈ gs := by
  obtain ⟨_, h⟩ := h
  exact reach_in hF ha h
end
/-! ### what paint and spread make -/
theorem paint_sem (c : Int) : ∀ (os : List Str) (ps : Pm) (wt : List Str), (∀ q ∈ (paint c os ps wt).1, q ∈ ps ∨ q.1 ∈ os ∧ q.2 = c) ∧ (∀ o ∈ os, ((paint c os ps wt).1.lookup o).isSome = true) ∧
    (∀ n, ((paint c os ps wt).1.lookup n).isSome = true → (ps.lookup n).isSome = true ∨ n ∈ (paint c os ps wt).2) ∧ (∀ n ∈ wt, n ∈ (paint c os ps wt).2) ∧ (paint c os ps wt).2.length + ps.length = wt.length + (paint c os ps wt).1.length ∧ ∀ n, (ps.lookup n).isSome = true → ((paint c os ps wt).1.lookup n).isSome = true
  | [], ps, wt => ⟨fun q h => .inl h, (fun _ h => nomatch h), fun n h => .inl h, fun n h => h, rfl, fun n h => h⟩
  | o :: os, ps, wt => by
    have e : paint c (o :: os) ps wt = List.foldl (paintOne c) (paintOne c (ps, wt) o) os := rfl
    cases h : ps.lookup o with
    | some v =>
      have e2 : paintOne c (ps, wt) o = (ps, wt) := by unfold paintOne; rw [h]; rfl
      rw [e, e2]
      obtain ⟨h1, h2, h3, h4, h5, h6⟩ := paint_sem c os ps wt
      refine ⟨fun q hq => (h1 q hq).imp_right fun z => ⟨List.mem_cons_of_mem _ z.1, z.2⟩, fun x hx => ?_, h3, h4, h5, h6⟩
      rcases List.mem_cons.mp hx with rfl | hx
      · exact h6 _ (by rw [h]; rfl)
      · exact h2 x hx
    | none =>
      have e2 : paintOne c (ps, wt) o = (ps ++ [(o, c)], wt ++ [o]) := by unfold paintOne; rw [h]; rfl
      rw [e, e2]
      obtain ⟨h1, h2, h3, h4, h5, h6⟩ := paint_sem c os (ps ++ [(o, c)]) (wt ++ [o])
      have lo : ((ps ++ [(o, c)]).lookup o).isSome = true := by rw [look_app, h, look_one]; rfl
      refine ⟨fun q hq => ?_, fun x hx => ?_, fun n hn => ?_, fun n hn => h4 n (List.mem_append_left _ hn), ?_, fun n hn => h6 n ?_⟩
      · rcases h1 q hq with z | z
        · rcases List.mem_append.mp z with z | z
          · exact .inl z
          · rw [List.mem_singleton.mp z]
            exact .inr ⟨List.mem_cons_self, rfl⟩
        · exact .inr ⟨List.mem_cons_of_mem _ z.1, z.2⟩
      · rcases List.mem_cons.mp hx with rfl | hx
        · exact h6 _ lo
        · exact h2 x hx
      · rcases h3 n hn with z | z
        · rw [look_app] at z
          cases hp : ps.lookup n with
          | some v => exact .inl rfl
          | none =>
            rw [hp] at z
            have z : (List.lookup n [(o, c)]).isSome = true := z
            obtain ⟨d, hd, _⟩ := look_mem z
            have : n = o := congrArg Prod.fst (List.mem_singleton.mp hd)
            rw [this]
            exact .inr (h4 o (by simp))
        · exact .inr z
      · rw [List.length_append, List.length_append] at h5
        have : ([(o, c)] : Pm).length = 1 := rfl
        have : ([o] : List Str).length = 1 := rfl
        show (paint c os (ps ++ [(o, c)]) (wt ++ [o])).2.length + ps.length = wt.length + (paint c os (ps ++ [(o, c)]) (wt ++ [o])).1.length
        omega
      · rw [look_app]
        cases hp : ps.lookup n with
        | some v => rfl
        | none => rw [hp] at hn; cases hn
theorem mem_look {ps : Pm} (nd : (ps.map fun q => q.1).Nodup) {q : Str × Int} (h : q ∈ ps) : ps.lookup q.1 = some q.2 := by
  induction ps with
  | nil => cases h
  | cons p ps ih =>
    obtain ⟨a, b⟩ := p
    rw [List.map_cons, List.nodup_cons] at nd
    rw [List.lookup_cons]
    rcases List.mem_cons.mp h with rfl | h
    · rw [beq_self_eq_true]
    · have : q.1 ≠ a := fun z => nd.1 (z ▸ List.mem_map.mpr ⟨q, h, rfl⟩)
      rw [show (q.1 == a) = false from by simpa using this]
      exact ih nd.2 h
theorem spread_sem {nx : Int → Int} {gs : List Str} {f : Str → List Str} (hF : ∀ n ∈ gs, ∀ m ∈ f n, m ∈ gs) (R : Str → Int → Prop) (hR : ∀ n c m, n ∈ gs → R n c → m ∈ f n → R m (nx c)) :
    ∀ (k : Nat) {ps : Pm} {wt : List Str}, Walked gs ps wt → (∀ q ∈ ps, R q.1 q.2) → (∀ n, (ps.lookup n).isSome = true → n ∉ wt → ∀ m ∈ f n, (ps.lookup m).isSome = true) → wt.length + (gs.length - ps.length) ≤ k →
      (∀ q ∈ spreadN nx f k ps wt, R q.1 q.2) ∧ ∀ n, ((spreadN nx f k ps wt).lookup n).isSome = true → ∀ m ∈ f n, ((spreadN nx f k ps wt).lookup m).isSome = true
  | 0, ps, wt, w, r, cl, hk => by
    obtain rfl : wt = [] := List.eq_nil_of_length_eq_zero (by omega)
    exact ⟨r, fun n hn => cl n hn (fun z => nomatch z)⟩
  | k + 1, ps, wt, w, r, cl, hk => by
    obtain rfl | ⟨wt', n, rfl⟩ : wt = [] ∨ ∃ l x, wt = l ++ [x] := by
      rcases List.eq_nil_or_concat wt with h | ⟨l, x, h⟩
      · exact .inl h
      · exact .inr ⟨l, x, by rw [h, List.concat_eq_append]⟩
    · rw [spreadN_nil]
      exact ⟨r, fun n hn => cl n hn (fun z => nomatch z)⟩
    · obtain ⟨v0, hv0⟩ : ∃ v, ps.lookup n = some v := Option.isSome_iff_exists.mp (w.wt n (by simp))
      rw [spreadN_step hv0]
      obtain ⟨c, hc, hc2⟩ := look_mem (w.wt n (by simp))
      rw [hv0] at hc2
      cases hc2
      have hn : n ∈ gs := w.sub _ hc
      obtain ⟨h1, h2, h3, h4, h5, h6⟩ := paint_sem (nx v0) (f n) ps wt'
      obtain ⟨w1, k1⟩ := paint_ok (nx v0) (os := f n) (wt := wt') (ps := ps) ⟨w.nd, w.sub, fun m hm => w.wt m (List.mem_append_left _ hm)⟩ (hF n hn)
      have l1 := w1.len
      have l0 := w.len
      rw [List.length_append] at hk
      have : ([n] : List Str).length = 1 := rfl
      refine spread_sem hF R hR k w1 (fun q hq => ?_) (fun x hx hxn m hm => ?_) (by omega)
      · rcases h1 q hq with z | ⟨z, e⟩
        · exact r q z
        · rw [e]
          exact hR n v0 q.1 hn (r _ hc) z
      · rcases h3 x hx with z | z
        · by_cases e : x = n
          · subst e
            exact h2 m hm
          · by_cases e2 : x ∈ wt'
            · exact absurd (h4 x e2) hxn
            · exact h6 m (cl x z (fun y => by
                rcases List.mem_append.mp y with y | y
                · exact e2 y
                · exact e (List.mem_singleton.mp y)) m hm)
        · exact absurd z hxn
/-- piles from a guest -/
theorem from_sem {gs : List Str} {f : Str → List Str} (hF : ∀ n ∈ gs, ∀ m ∈ f n, m ∈ gs) {n : Str} (hn : n ∈ gs) : (∀ m, ((pilesFrom f gs n).lookup m).isSome = true ↔ Conn f n m) ∧ ∀ m c, (pilesFrom f gs n).lookup m = some c → ∃ k, Reach f n m k ∧ c = ((k % 2 : Nat) : Int) := by
  have hpos := List.length_pos_of_mem hn
  obtain ⟨h1, h2⟩ := spread_sem (nx := turned) hF (fun m c => ∃ k, Reach f n m k ∧ c = ((k % 2 : Nat) : Int)) (fun m c m' _ ⟨k, hk, hc⟩ hm' => ⟨k + 1, reach_add hk (reach1 hm'), by subst hc; unfold turned; omega⟩) gs.length (walked0 hn)
    (fun q hq => by rw [List.mem_singleton.mp hq]; exact ⟨0, reach0 n, rfl⟩) (fun m hm hmn => by
      obtain ⟨c, hc, _⟩ := look_mem hm
      exact absurd (congrArg Prod.fst (List.mem_singleton.mp hc)) (fun z => hmn (by rw [show m = n from z]; exact List.mem_singleton.mpr rfl))) (by
      have : ([(n, (0 : Int))] : Pm).length = 1 := rfl
      have : ([n] : List Str).length = 1 := rfl
      omega)
  obtain ⟨w, l0⟩ := from_ok hF hn
  have h3 : ∀ m c, (pilesFrom f gs n).lookup m = some c → ∃ k, Reach f n m k ∧ c = ((k % 2 : Nat) : Int) := fun m c hm => by
    obtain ⟨d, hd, hd2⟩ := look_mem (ps := pilesFrom f gs n) (n := m) (by rw [hm]; rfl)
    rw [hm] at hd2
    cases hd2
    exact h1 _ hd
  refine ⟨fun m => ⟨fun hm => ?_, fun hm => ?_⟩, h3⟩
  · obtain ⟨c, hc⟩ := Option.isSome_iff_exists.mp hm
    obtain ⟨k, hk, _⟩ := h3 m c hc
    exact ⟨k, hk⟩
  · obtain ⟨k, hk⟩ := hm
    induction k generalizing m with
    | zero =>
      obtain ⟨u, _, e, z⟩ := hk
      obtain rfl := List.eq_nil_of_length_eq_zero z
      rw [← show n = m from e, l0]
      rfl
    | succ k ih =>
      obtain ⟨b, hb, hm⟩ := reach_snoc.mp hk
      exact h2 b (ih b hb) m hm
/-- what the colours say, after the first i names -/
structure Colored (f : Str → List Str) (gs : List Str) (i : Nat) (ps : Pm) : Prop where
  dom : ∀ m, (ps.lookup m).isSome = true ↔ ∃ j r, j < i ∧ gs[j]? = some r ∧ Conn f r m
  par : ∀ m c, ps.lookup m = some c → ∀ j r, j < i → gs[j]? = some r → Conn f r m → (∀ j' r', j' < j → gs[j']? = some r' → ¬ Conn f r' m) → ∃ k, Reach f r m k ∧ c = ((k % 2 : Nat) : Int)
  root : ∀ j r, j < i → gs[j]? = some r → (∀ j' r', j' < j → gs[j']? = some r' → ¬ Conn f r' r) → ps.lookup r = some 0
theorem color_sem {gs : List Str} {f : Str → List Str} (hF : ∀ n ∈ gs, ∀ m ∈ f n, m ∈ gs) (sy : ∀ n m, m ∈ f n → n ∈ f m) : ∀ i, i ≤ gs.length → Colored f gs i ((gs.take i).foldl (colorOne f gs) [])
  | 0, _ => ⟨fun m => ⟨fun h => (by cases h), fun ⟨_, _, h, _⟩ => absurd h (Nat.not_lt_zero _)⟩, fun _ _ h => (by cases h), fun _ _ h => absurd h (Nat.not_lt_zero _)⟩
  | i + 1, hi => by
    have ih := color_sem hF sy i (by omega)
    obtain ⟨n, hn⟩ : ∃ n, gs[i]? = some n := ⟨_, List.getElem?_eq_getElem (by omega)⟩
    have hng : n ∈ gs := List.mem_of_getElem? hn
    rw [List.take_succ, hn, List.foldl_append]
    show Colored f gs (i + 1) (colorOne f gs ((gs.take i).foldl (colorOne f gs) []) n)
    generalize (gs.take i).foldl (colorOne f gs) [] = ps at ih ⊢
    have lt : ∀ {j : Nat}, j < i + 1 → j < i ∨ j = i := fun h => by omega
    unfold colorOne
    cases hl : ps.lookup n with
    | some v =>
      obtain ⟨j0, r0, hj0, hr0, c0⟩ := (ih.dom n).mp (by rw [hl]; rfl)
      show Colored f gs (i + 1) ps
      refine ⟨fun m => (ih.dom m).trans ⟨fun ⟨j, r, h1, h2⟩ => ⟨j, r, by omega, h2⟩, fun ⟨j, r, h1, h2, h3⟩ => ?_⟩, fun m c hm j r hj hr cr no => ?_, fun j r hj hr no => ?_⟩
      · rcases lt h1 with h | rfl
        · exact ⟨j, r, h, h2, h3⟩
        · rw [hn] at h2
          cases h2
          exact ⟨j0, r0, hj0, hr0, c0.trans h3⟩
      · rcases lt hj with h | rfl
        · exact ih.par m c hm j r h hr cr no
        · rw [hn] at hr
          cases hr
          exact absurd (c0.trans cr) (no j0 r0 hj0 hr0)
      · rcases lt hj with h | rfl
        · exact ih.root j r h hr no
        · rw [hn] at hr
          cases hr
          exact absurd c0 (no j0 r0 hj0 hr0)
    | none =>
      rw [if_neg (by simp)]
      obtain ⟨w, l0⟩ := from_ok hF hng
      obtain ⟨f1, f2⟩ := from_sem hF hng
      have lk : ∀ m, (updS ps (pilesFrom f gs n)).lookup m = ((pilesFrom f gs n).lookup m).or (ps.lookup m) := fun m => lookup_upd _ _ _ w.nd
      have free : ∀ j r, j < i → gs[j]? = some r → ¬ Conn f r n := fun j r hj hr c => by
        have := (ih.dom n).mpr ⟨j, r, hj, hr, c⟩
        rw [hl] at this
        cases this
      have out : ∀ m, ¬ Conn f n m → (pilesFrom f gs n).lookup m = none := fun m c => by
        cases e : (pilesFrom f gs n).lookup m with
        | none => rfl
        | some v => exact absurd ((f1 m).mp (by rw [e]; rfl)) c
      refine ⟨fun m => ?_, fun m c hm j r hj hr cr no => ?_, fun j r hj hr no => ?_⟩
      · rw [lk]
        constructor
        · intro h
          cases e : (pilesFrom f gs n).lookup m with
          | some v => exact ⟨i, n, by omega, hn, (f1 m).mp (by rw [e]; rfl)⟩
          | none =>
            rw [e] at h
            obtain ⟨j, r, h1, h2⟩ := (ih.dom m).mp h
            exact ⟨j, r, by omega, h2⟩
        · rintro ⟨j, r, h1, h2, h3⟩
          rcases lt h1 with h | rfl
          · have := (ih.dom m).mpr ⟨j, r, h, h2, h3⟩
            cases (pilesFrom f gs n).lookup m with
            | some v => rfl
            | none => exact this
          · rw [hn] at h2
            cases h2
            obtain ⟨v, hv⟩ := Option.isSome_iff_exists.mp ((f1 m).mpr h3)
            rw [hv]
            rfl
      · rw [lk] at hm
        rcases lt hj with h | rfl
        · have nc : ¬ Conn f n m := fun c => free j r h hr (cr.trans (c.symm sy))
          rw [out m nc] at hm
          exact ih.par m c hm j r h hr cr no
        · rw [hn] at hr
          cases hr
          obtain ⟨v, hv⟩ := Option.isSome_iff_exists.mp ((f1 m).mpr cr)
          rw [hv] at hm
          cases hm
          exact f2 m _ hv
      · rw [lk]
        rcases lt hj with h | rfl
        · have nc : ¬ Conn f n r := fun c => free j r h hr (c.symm sy)
          rw [out r nc]
          exact ih.root j r h hr no
        · rw [hn] at hr
          cases hr
          rw [l0]
          rfl
/-! ### two piles -/
section
variable {gs : List Str} {f : Str → List Str}
theorem ex_least (P : Nat → Prop) : ∀ {n : Nat}, P n → ∃ m, m ≤ n ∧ P m ∧ ∀ k, k < m → ¬ P k := by
  intro n
  induction n using Nat.strongRecOn with
  | _ n ih =>
    intro h
    by_cases e : ∃ k, k < n ∧ P k
    · obtain ⟨k, hk, pk⟩ := e
      obtain ⟨m, h1, h2⟩ := ih k hk pk
      exact ⟨m, by omega, h2⟩
    · exact ⟨n, Nat.le_refl _, h, fun k hk pk => e ⟨k, hk, pk⟩⟩
/-- who comes first of those connected with n -/
def FirstOf (f : Str → List Str) (gs : List Str) (n r : Str) : Prop := ∃ j : Nat, gs[j]? = some r ∧ Conn f r n ∧ ∀ (j' : Nat) r', j' < j → gs[j']? = some r' → ¬ Conn f r' n
theorem first_ex {n : Str} (hn : n ∈ gs) : ∃ r, FirstOf f gs n r := by
  obtain ⟨i, hi⟩ := List.getElem?_of_mem hn
  obtain ⟨j, _, ⟨r, hr, cr⟩, no⟩ := ex_least (fun j : Nat => ∃ r, gs[j]? = some r ∧ Conn f r n) (n := i) ⟨n, hi, conn_refl n⟩
  exact ⟨r, j, hr, cr, fun (j' : Nat) r' h e c => no j' h ⟨r', e, c⟩⟩
theorem pile_par (hF : ∀ n ∈ gs, ∀ m ∈ f n, m ∈ gs) (sy : ∀ n m, m ∈ f n → n ∈ f m) {n r : Str} (hn : n ∈ gs) (h : FirstOf f gs n r) : ∃ k, Reach f r n k ∧ pileAt f gs n = ((k % 2 : Nat) : Int) := by
  have C := color_sem hF sy gs.length (Nat.le_refl _)
  rw [List.take_length, ← color_eq] at C
  obtain ⟨j, hr, cr, no⟩ := h
  have hj : j < gs.length := (List.getElem?_eq_some_iff.mp hr).1
  obtain ⟨c, hc⟩ := Option.isSome_iff_exists.mp ((C.dom n).mpr ⟨j, r, hj, hr, cr⟩)
  obtain ⟨k, h1, h2⟩ := C.par n c hc j r hj hr cr no
  refine ⟨k, h1, ?_⟩
  unfold pileAt
  rw [hc, ← h2]
  rfl
theorem pile_root (hF : ∀ n ∈ gs, ∀ m ∈ f n, m ∈ gs) (sy : ∀ n m, m ∈ f n → n ∈ f m) {n r : Str} (h : FirstOf f gs n r) : pileAt f gs r = 0 := by
  have C := color_sem hF sy gs.length (Nat.le_refl _)
  rw [List.take_length, ← color_eq] at C
  obtain ⟨j, hr, cr, no⟩ := h
  have hj : j < gs.length := (List.getElem?_eq_some_iff.mp hr).1
  unfold pileAt
  rw [C.root j r hj hr fun j' r' h e c => no j' r' h e (c.trans cr)]
  rfl
theorem pile_01 (hF : ∀ n ∈ gs, ∀ m ∈ f n, m ∈ gs) (sy : ∀ n m, m ∈ f n → n ∈ f m) {n : Str} (hn : n ∈ gs) : pileAt f gs n = 0 ∨ pileAt f gs n = 1 := by
  obtain ⟨r, hr⟩ := first_ex (f := f) hn
  obtain ⟨k, _, h⟩ := pile_par hF sy hn hr
  rw [h]
  omega
theorem first_step (sy : ∀ n m, m ∈ f n → n ∈ f m) {n m r : Str} (hm : m ∈ f n) (h : FirstOf f gs n r) : FirstOf f gs m r := by
  obtain ⟨j, hr, cr, no⟩ := h
  exact ⟨j, hr, cr.step hm, fun j' r' h e c => no j' r' h e (c.step (sy _ _ hm))⟩
/-- a clash gives an odd closed walk -/
theorem clash_odd (hF : ∀ n ∈ gs, ∀ m ∈ f n, m ∈ gs) (sy : ∀ n m, m ∈ f n → n ∈ f m) {u v : Str} (hu : u ∈ gs) (hv : v ∈ f u) (e : pileAt f gs u = pileAt f gs v) : ∃ s k, s ∈ gs ∧ Reach f s s k ∧ k % 2 = 1 := by
  obtain ⟨r, hr⟩ := first_ex (f := f) hu
  obtain ⟨k1, h1, e1⟩ := pile_par hF sy hu hr
  obtain ⟨k2, h2, e2⟩ := pile_par hF sy (hF u hu v hv) (first_step sy hv hr)
  refine ⟨r, k1 + 1 + k2, ?_, reach_add (reach_add h1 (reach1 hv)) (reach_symm sy h2), by omega⟩
  obtain ⟨j, hj, _⟩ := hr
  exact List.mem_of_getElem? hj
/-- without one there is none -/
theorem proper_even (hF : ∀ n ∈ gs, ∀ m ∈ f n, m ∈ gs) (sy : ∀ n m, m ∈ f n → n ∈ f m) (no : ∀ n ∈ gs, ∀ m ∈ f n, pileAt f gs n ≠ pileAt f gs m) : ∀ {k : Nat} {a b : Str}, a ∈ gs → Reach f a b k → (pileAt f gs a = pileAt f gs b ↔ k % 2 = 0)
  | 0, a, b, ha, h => by
    obtain ⟨w, _, e, z⟩ := h
    obtain rfl := List.eq_nil_of_length_eq_zero z
    obtain rfl : a = b := e
    simp
  | k + 1, a, b, ha, h => by
    obtain ⟨c, hc, h⟩ := reach_step.mp h
    have hcg := hF a ha c hc
    have ih := proper_even hF sy no hcg h
    have n1 := no a ha c hc
    have a01 := pile_01 hF sy ha
    have c01 := pile_01 hF sy hcg
    have b01 := pile_01 hF sy (reach_in hF hcg h)
    omega
end
end Fp
set_option Elab.async false
set_option linter.all false
set_option maxRecDepth 100000
set_option maxHeartbeats 2000000
set_option autoImplicit false
/-! What odd_ring computes: a shortest odd closed walk, which meets nobody twice. -/
namespace Fp
open PySem L2 Sho
abbrev par (k : Nat) : Int := ((k % 2 : Nat) : Int)
def ValidW (f : Str → List Str) (s : Str) (x : Nd) (w : List Str) : Prop := IsWalk f s w ∧ endOf s w = x.1 ∧ x.2 = par w.length
structure Bf (f : Str → List Str) (gs : List Str) (s : Str) (i : Nat) (st : Wk × List Nd) : Prop where
  wok : Wok gs st.1 st.2
  val : ∀ x w, gv st.1 x = some w → ValidW f s x w ∧ w.length ≤ i
  frl : ∀ x ∈ st.2, ∃ w, gv st.1 x = some w ∧ w.length = i
  proc : ∀ x w, gv st.1 x = some w → x ∉ st.2 → ∀ m ∈ f x.1, ∃ w', gv st.1 (m, 1 - x.2) = some w' ∧ w'.length ≤ w.length + 1
  start : gv st.1 (s, 0) = some []
/-- within a layer -/
structure Lf (f : Str → List Str) (gs : List Str) (s : Str) (i : Nat) (ws : Wk) (fr : List Nd) (st : Wk × List Nd) : Prop where
  wok : Wok gs st.1 (fr ++ st.2)
  keep : ∀ x w, gv ws x = some w → gv st.1 x = some w
  old : ∀ x w, gv st.1 x = some w → gv ws x = some w ∨ (x ∈ st.2 ∧ ValidW f s x w ∧ w.length = i + 1)
  new : ∀ x ∈ st.2, ∃ w, gv st.1 x = some w ∧ w.length = i + 1
  len : st.1.length = ws.length + st.2.length
section
variable {f : Str → List Str} {gs : List Str} {s : Str} {i : Nat} {ws : Wk} {fr : List Nd}
theorem one_sem (hF : ∀ n ∈ gs, ∀ m ∈ f n, m ∈ gs) {x : Nd} {wx : List Str} (hx : x.1 ∈ gs) (h01 : x.2 = 0 ∨ x.2 = 1) (vx : ValidW f s x wx) (lx : wx.length = i) (gx : gv ws x = some wx) :
    ∀ (os : List Str) (st : Wk × List Nd), (∀ o ∈ os, o ∈ f x.1) → Lf f gs s i ws fr st → Lf f gs s i ws fr (os.foldl (stepOne x wx) st) ∧ (∀ o ∈ os, (gv (os.foldl (stepOne x wx) st).1 (o, 1 - x.2)).isSome = true) ∧ ∀ y, (gv st.1 y).isSome = true → (gv (os.foldl (stepOne x wx) st).1 y).isSome = true
  | [], st, _, h => ⟨h, (fun _ z => nomatch z), fun _ z => z⟩
  | o :: os, st, ho, h => by
    have hof := ho o List.mem_cons_self
    have hog := hF x.1 hx o hof
    show Lf f gs s i ws fr (os.foldl (stepOne x wx) (stepOne x wx st o)) ∧ _ ∧ _
    cases hg : gv st.1 (o, 1 - x.2) with
    | some w =>
      have e : stepOne x wx st o = st := by unfold stepOne; rw [hg]; rfl
      obtain ⟨h1, h2, h3⟩ := one_sem hF hx h01 vx lx gx os st (fun z hz => ho z (List.mem_cons_of_mem _ hz)) h
      rw [List.foldl_cons, e]
      refine ⟨h1, fun z hz => ?_, h3⟩
      rcases List.mem_cons.mp hz with rfl | hz
      · exact h3 _ (by rw [hg]; rfl)
      · exact h2 z hz
    | none =>
      have e : stepOne x wx st o = (st.1 ++ [((o, 1 - x.2), wx ++ [o])], st.2 ++ [(o, 1 - x.2)]) := by unfold stepOne; rw [hg]; rfl
      have lt : wx.length < st.1.length := by
        have := h.wok.len _ (gv_mem (h.keep x wx gx))
        exact this
      have vo : ValidW f s (o, 1 - x.2) (wx ++ [o]) := by
        obtain ⟨v1, v2, v3⟩ := vx
        refine ⟨walk_app.mpr ⟨v1, by rw [v2]; exact ⟨hof, trivial⟩⟩, by rw [end_app]; rfl, ?_⟩
        rw [List.length_append]
        show 1 - x.2 = par (wx.length + 1)
        unfold par at v3 ⊢
        omega
      have lo : (wx ++ [o]).length = i + 1 := by rw [List.length_append, lx]; rfl
      have h' : Lf f gs s i ws fr (st.1 ++ [((o, 1 - x.2), wx ++ [o])], st.2 ++ [(o, 1 - x.2)]) := by
        refine ⟨?_, fun y w hy => gv_keep (h.keep y w hy), fun y w hy => ?_, fun y hy => ?_, ?_⟩
        · show Wok gs (st.1 ++ [((o, 1 - x.2), wx ++ [o])]) (fr ++ (st.2 ++ [(o, 1 - x.2)]))
          rw [← List.append_assoc]
          exact h.wok.push hog (by show 1 - x.2 = 0 ∨ 1 - x.2 = 1; omega) hg (by rw [List.length_append]; exact lt)
        · rw [gv_app] at hy
          cases hp : gv st.1 y with
          | some v =>
            rw [hp] at hy
            have hy : some v = some w := hy
            cases hy
            exact (h.old y _ hp).imp_right fun z => ⟨List.mem_append_left _ z.1, z.2⟩
          | none =>
            rw [hp] at hy
            have hy : gv [((o, 1 - x.2), wx ++ [o])] y = some w := hy
            have := List.mem_singleton.mp (gv_mem hy)
            have e1 : y = (o, 1 - x.2) := congrArg Prod.fst this
            have e2 : w = wx ++ [o] := congrArg Prod.snd this
            subst e1
            subst e2
            exact .inr ⟨List.mem_append_right _ (List.mem_singleton.mpr rfl), vo, lo⟩
        · rcases List.mem_append.mp hy with hy | hy
          · obtain ⟨w, h1, h2⟩ := h.new y hy
            exact ⟨w, gv_keep h1, h2⟩
          · rw [List.mem_singleton.mp hy]
            refine ⟨wx ++ [o], ?_, lo⟩
            rw [gv_app, hg, gv_one]
            rfl
        · have := h.len
          rw [List.length_append, List.length_append]
          show st.1.length + 1 = ws.length + (st.2.length + 1)
          omega
      obtain ⟨h1, h2, h3⟩ := one_sem hF hx h01 vx lx gx os _ (fun z hz => ho z (List.mem_cons_of_mem _ hz)) h'
      rw [List.foldl_cons, e]
      have so : ∀ y, (gv st.1 y).isSome = true → (gv (st.1 ++ [((o, 1 - x.2), wx ++ [o])]) y).isSome = true := fun y hy => by
        obtain ⟨v, hv⟩ := Option.isSome_iff_exists.mp hy
        rw [gv_keep hv]
        rfl
      refine ⟨h1, fun z hz => ?_, fun y hy => h3 y (so y hy)⟩
      rcases List.mem_cons.mp hz with rfl | hz
      · refine h3 _ ?_
        show (gv (st.1 ++ _) _).isSome = true
        rw [gv_app, hg, gv_one]
        rfl
      · exact h2 z hz
theorem all_sem (hF : ∀ n ∈ gs, ∀ m ∈ f n, m ∈ gs) (B : Bf f gs s i (ws, fr)) : ∀ (xs : List Nd) (st : Wk × List Nd), (∀ x ∈ xs, x ∈ fr) → Lf f gs s i ws fr st →
    Lf f gs s i ws fr (xs.foldl (stepAll f) st) ∧ (∀ x ∈ xs, ∀ m ∈ f x.1, (gv (xs.foldl (stepAll f) st).1 (m, 1 - x.2)).isSome = true) ∧ ∀ y, (gv st.1 y).isSome = true → (gv (xs.foldl (stepAll f) st).1 y).isSome = true
  | [], st, _, h => ⟨h, (fun _ z => nomatch z), fun _ z => z⟩
  | x :: xs, st, hxs, h => by
    have hxf := hxs x List.mem_cons_self
    obtain ⟨wx, gx, lx⟩ := B.frl x hxf
    obtain ⟨vx, _⟩ := B.val x wx gx
    obtain ⟨hx, h01⟩ := B.wok.sub _ (gv_mem gx)
    have e : stepAll f st x = (f x.1).foldl (stepOne x wx) st := by
      unfold stepAll
      rw [h.keep x wx gx]
      rfl
    obtain ⟨h1, h2, h3⟩ := one_sem (f := f) (fr := fr) hF hx h01 vx lx gx (f x.1) st (fun _ z => z) h
    rw [← e] at h1 h2 h3
    obtain ⟨k1, k2, k3⟩ := all_sem hF B xs (stepAll f st x) (fun z hz => hxs z (List.mem_cons_of_mem _ hz)) h1
    rw [List.foldl_cons]
    refine ⟨k1, fun z hz m hm => ?_, fun y hy => k3 y (h3 y hy)⟩
    rcases List.mem_cons.mp hz with rfl | hz
    · exact k3 _ (h2 m hm)
    · exact k2 z hz m hm
theorem layer_sem (hF : ∀ n ∈ gs, ∀ m ∈ f n, m ∈ gs) {st : Wk × List Nd} (B : Bf f gs s i st) : Bf f gs s (i + 1) (layer f st) ∧ (layer f st).1.length = st.1.length + (layer f st).2.length := by
  obtain ⟨ws, fr⟩ := st
  have L0 : Lf f gs s i ws fr (ws, []) := ⟨by rw [List.append_nil]; exact B.wok, fun _ _ h => h, fun _ _ h => .inl h, (fun _ z => nomatch z), rfl⟩
  obtain ⟨h1, h2, h3⟩ := all_sem hF B fr (ws, []) (fun _ z => z) L0
  show Bf f gs s (i + 1) (fr.foldl (stepAll f) (ws, [])) ∧ (fr.foldl (stepAll f) (ws, [])).1.length = ws.length + (fr.foldl (stepAll f) (ws, [])).2.length
  generalize fr.foldl (stepAll f) (ws, []) = st at h1 h2 h3 ⊢
  refine ⟨⟨⟨h1.wok.nd, h1.wok.sub, fun x hx => h1.wok.fr x (List.mem_append_right _ hx), h1.wok.len⟩, fun x w hx => ?_, h1.new, fun x w hx hn m hm => ?_, h1.keep _ _ B.start⟩, h1.len⟩
  · rcases h1.old x w hx with h | ⟨_, v, l⟩
    · obtain ⟨v, l⟩ := B.val x w h
      exact ⟨v, by omega⟩
    · exact ⟨v, by omega⟩
  · rcases h1.old x w hx with h | ⟨z, _⟩
    · by_cases hxf : x ∈ fr
      · obtain ⟨wx, gx, lx⟩ := B.frl x hxf
        have gx : gv ws x = some wx := gx
        rw [h] at gx
        cases gx
        obtain ⟨w', hw'⟩ := Option.isSome_iff_exists.mp (h2 x hxf m hm)
        refine ⟨w', hw', ?_⟩
        rcases h1.old _ w' hw' with q | ⟨_, _, l⟩
        · have := (B.val _ w' q).2
          omega
        · omega
      · obtain ⟨w', h4, h5⟩ := B.proc x w h hxf m hm
        exact ⟨w', h1.keep _ _ h4, h5⟩
    · exact absurd z hn
theorem iter_sem (hF : ∀ n ∈ gs, ∀ m ∈ f n, m ∈ gs) (hs : s ∈ gs) : ∀ i, Bf f gs s i (iter f ([((s, 0), [])], [(s, 0)]) i) ∧ ((iter f ([((s, 0), [])], [(s, 0)]) i).2 ≠ [] → i + 1 ≤ (iter f ([((s, 0), [])], [(s, 0)]) i).1.length)
  | 0 => by
    refine ⟨⟨⟨by simp [iter], fun q hq => ?_, fun x hx => ?_, fun q hq => ?_⟩, fun x w hx => ?_, fun x hx => ?_, fun x w hx hn => ?_, gv_one _ _⟩, fun _ => Nat.le_refl _⟩
    · rw [List.mem_singleton.mp hq]; exact ⟨hs, .inl rfl⟩
    · rw [List.mem_singleton.mp hx]; show (gv [((s, (0 : Int)), ([] : List Str))] (s, 0)).isSome = true; rw [gv_one]; rfl
    · rw [List.mem_singleton.mp hq]; exact Nat.zero_lt_one
    · have := List.mem_singleton.mp (gv_mem hx)
      have e1 : x = (s, 0) := congrArg Prod.fst this
      have e2 : w = [] := congrArg Prod.snd this
      subst e1
      subst e2
      exact ⟨⟨trivial, rfl, rfl⟩, Nat.le_refl _⟩
    · rw [List.mem_singleton.mp hx]
      exact ⟨[], gv_one _ _, rfl⟩
    · have := List.mem_singleton.mp (gv_mem hx)
      have e1 : x = (s, 0) := congrArg Prod.fst this
      exact absurd (List.mem_singleton.mpr e1) hn
  | i + 1 => by
    obtain ⟨h1, h3⟩ := iter_sem hF hs i
    obtain ⟨k1, k2⟩ := layer_sem hF h1
    show Bf f gs s (i + 1) (layer f (iter f _ i)) ∧ ((layer f (iter f _ i)).2 ≠ [] → i + 1 + 1 ≤ (layer f (iter f _ i)).1.length)
    generalize iter f ([((s, 0), [])], [(s, 0)]) i = st at *
    have key : st.2 = [] → (layer f st).2 = [] := fun e => by
      unfold layer
      rw [e]
      rfl
    refine ⟨k1, fun hne => ?_⟩
    have := h3 fun e => hne (key e)
    have : (layer f st).2.length ≠ 0 := fun z => hne (List.eq_nil_of_length_eq_zero z)
    omega
theorem final_sem (hF : ∀ n ∈ gs, ∀ m ∈ f n, m ∈ gs) (hs : s ∈ gs) : ∃ ws : Wk, (iter f ([((s, 0), [])], [(s, 0)]) (2 * gs.length)).1 = ws ∧ (∀ x w, gv ws x = some w → ValidW f s x w) ∧ (∀ x w, gv ws x = some w → ∀ m ∈ f x.1, ∃ w', gv ws (m, 1 - x.2) = some w' ∧ w'.length ≤ w.length + 1) ∧ gv ws (s, 0) = some [] := by
  obtain ⟨B, hc⟩ := iter_sem hF hs (2 * gs.length)
  have lw := B.wok.few
  have e : (iter f ([((s, 0), [])], [(s, 0)]) (2 * gs.length)).2 = [] := by
    cases h : (iter f ([((s, 0), [])], [(s, 0)]) (2 * gs.length)).2 with
    | nil => rfl
    | cons x xs =>
      have := hc (by rw [h]; simp)
      omega
  refine ⟨_, rfl, fun x w h => (B.val x w h).1, fun x w h => B.proc x w h (by rw [e]; simp), B.start⟩
theorem odd_sem (hF : ∀ n ∈ gs, ∀ m ∈ f n, m ∈ gs) (hs : s ∈ gs) : (∀ w, oddWalk f gs s = some w → IsWalk f s w ∧ endOf s w = s ∧ w.length % 2 = 1) ∧ ∀ k, Reach f s s k → k % 2 = 1 → ∃ w, oddWalk f gs s = some w ∧ w.length ≤ k := by
  obtain ⟨ws, e, val, proc, st⟩ := final_sem hF hs
  have key : ∀ k b, Reach f s b k → ∃ w, gv ws (b, par k) = some w ∧ w.length ≤ k := by
    intro k
    induction k with
    | zero =>
      intro b ⟨w, _, h2, h3⟩
      obtain rfl := List.eq_nil_of_length_eq_zero h3
      obtain rfl : s = b := h2
      exact ⟨[], st, Nat.le_refl _⟩
    | succ k ih =>
      intro b h
      obtain ⟨c, hc, hb⟩ := reach_snoc.mp h
      obtain ⟨w, h1, h2⟩ := ih c hc
      obtain ⟨w', h3, h4⟩ := proc _ w h1 b hb
      refine ⟨w', ?_, by omega⟩
      rw [← h3]
      congr 2
      show par (k + 1) = 1 - par k
      unfold par
      omega
  unfold oddWalk
  rw [e]
  refine ⟨fun w h => ?_, fun k hk h1 => ?_⟩
  · obtain ⟨v1, v2, v3⟩ := val _ w h
    refine ⟨v1, v2, ?_⟩
    have v3 : (1 : Int) = par w.length := v3
    unfold par at v3
    omega
  · obtain ⟨w, h2, h3⟩ := key k s hk
    refine ⟨w, ?_, h3⟩
    rw [← h2]
    congr 2
    show 1 = par k
    unfold par
    omega
end
theorem shortest_min : ∀ (ws : List (List Str)) (w : List Str), shortest ws = some w → w ∈ ws ∧ ∀ u ∈ ws, w.length ≤ u.length
  | [], _, h => (by cases h)
  | x :: xs, w, h => by
    have h : xs.foldl (fun a y => if y.length < a.length then y else a) x = w := Option.some.inj h
    subst h
    have key : ∀ (xs : List (List Str)) (x : List Str), xs.foldl (fun a y => if y.length < a.length then y else a) x ∈ x :: xs ∧ (∀ u ∈ x :: xs, (xs.foldl (fun a y => if y.length < a.length then y else a) x).length ≤ u.length) := by
      intro xs
      induction xs with
      | nil => exact fun x => ⟨List.mem_singleton.mpr rfl, fun u hu => by rw [List.mem_singleton.mp hu]; exact Nat.le_refl _⟩
      | cons y xs ih =>
        intro x
        obtain ⟨h1, h2⟩ := ih (if y.length < x.length then y else x)
        rw [List.foldl_cons]
        refine ⟨?_, fun u hu => ?_⟩
        · rcases List.mem_cons.mp h1 with h | h
          · rw [h]
            split
            · exact List.mem_cons_of_mem _ List.mem_cons_self
            · exact List.mem_cons_self
          · exact List.mem_cons_of_mem _ (List.mem_cons_of_mem _ h)
        · have top := h2 _ List.mem_cons_self
          rcases List.mem_cons.mp hu with rfl | hu
          · split at top <;> split <;> omega
          · rcases List.mem_cons.mp hu with rfl | hu
            · split at top <;> split <;> omega
            · exact h2 u (List.mem_cons_of_mem _ hu)
    exact key xs x
theorem shortest_none {ws : List (List Str)} (h : shortest ws = none) : ws = [] := by
  cases ws with
  | nil => rfl
  | cons x xs => cases h
theorem dup_split {α : Type} : ∀ {w : List α}, ¬ w.Nodup → ∃ u x v t, w = u ++ x :: (v ++ x :: t)
  | [], h => absurd List.nodup_nil h
  | y :: w, h => by
    by_cases hy : y ∈ w
    · obtain ⟨v, t, rfl⟩ := List.append_of_mem hy
      exact ⟨[], y, v, t, rfl⟩
    · obtain ⟨u, x, v, t, e⟩ := dup_split (w := w) fun z => h (List.nodup_cons.mpr ⟨hy, z⟩)
      exact ⟨y :: u, x, v, t, by rw [e]; rfl⟩
section
variable {f : Str → List Str} {gs : List Str}
theorem ring_none (hF : ∀ n ∈ gs, ∀ m ∈ f n, m ∈ gs) (h : oddRing f gs = none) {s : Str} (hs : s ∈ gs) {k : Nat} (hk : Reach f s s k) : k % 2 = 0 := by
  have e := shortest_none h
  by_cases h1 : k % 2 = 1
  · obtain ⟨w, hw, _⟩ := (odd_sem hF hs).2 k hk h1
    have : w ∈ gs.filterMap (oddWalk f gs) := List.mem_filterMap.mpr ⟨s, hs, hw⟩
    rw [e] at this
    cases this
  · omega
structure IsRing (f : Str → List Str) (gs : List Str) (w : List Str) : Prop where
  ex : ∃ s ∈ gs, IsWalk f s w ∧ endOf s w = s
  odd : w.length % 2 = 1
  min : ∀ s ∈ gs, ∀ k, Reach f s s k → k % 2 = 1 → w.length ≤ k
  nd : w.Nodup
  sub : ∀ n ∈ w, n ∈ gs
  len : w.length ≤ gs.length
theorem ring_some (hF : ∀ n ∈ gs, ∀ m ∈ f n, m ∈ gs) {w : List Str} (h : oddRing f gs = some w) : IsRing f gs w := by
  obtain ⟨hm, hmin⟩ := shortest_min _ _ h
  obtain ⟨s, hs, hw⟩ := List.mem_filterMap.mp hm
  obtain ⟨v1, v2, v3⟩ := (odd_sem hF hs).1 w hw
  have min : ∀ s ∈ gs, ∀ k, Reach f s s k → k % 2 = 1 → w.length ≤ k := fun s' hs' k hk h1 => by
    obtain ⟨u, hu, lu⟩ := (odd_sem hF hs').2 k hk h1
    exact Nat.le_trans (hmin u (List.mem_filterMap.mpr ⟨s', hs', hu⟩)) lu
  have sub : ∀ n ∈ w, n ∈ gs := fun n hn => by
    obtain ⟨u, t, rfl⟩ := List.append_of_mem hn
    have := (walk_app.mp (show IsWalk f s (u ++ n :: t) from v1))
    exact reach_in hF hs (reach_add ⟨u, this.1, rfl, rfl⟩ (reach1 this.2.1))
  have nd : w.Nodup := Classical.byContradiction fun hn => by
    obtain ⟨u, x, v, t, e⟩ := dup_split hn
    subst e
    obtain ⟨q1, q2, q3⟩ := walk_app.mp v1
    obtain ⟨q4, q5, q6⟩ := walk_app.mp q3
    have xg : x ∈ gs := sub x (by simp)
    have r1 : Reach f x x (v.length + 1) := reach_add ⟨v, q4, rfl, rfl⟩ (reach1 q5)
    have r2 : Reach f s s (u.length + 1 + t.length) := by
      refine reach_add (reach_add ⟨u, q1, rfl, rfl⟩ (reach1 q2)) ⟨t, q6, ?_, rfl⟩
      rw [end_app] at v2
      have v2 : endOf x (v ++ x :: t) = s := v2
      rw [end_app] at v2
      exact v2
    have l : (u ++ x :: (v ++ x :: t)).length = u.length + 1 + (v.length + 1 + t.length) := by
      rw [List.length_append, List.length_cons, List.length_append, List.length_cons]
      omega
    rw [l] at v3 min
    by_cases h1 : (v.length + 1) % 2 = 1
    · have := min x xg _ r1 h1
      omega
    · have := min s hs _ r2 (by omega)
      omega
  exact ⟨⟨s, hs, v1, v2⟩, v3, min, nd, sub, nd.length_le_of_subset sub⟩
end
end Fp
set_option Elab.async false
set_option linter.all false
set_option maxRecDepth 100000
set_option maxHeartbeats 4000000
/-! sorted(xs, key=lambda ..): a stable order by whole numbers. -/
namespace Sho
open PySem PySem.Spec PyProof.Rows L2 LamX NdefX

/-! ### the order -/
section
variable {α β : Type}
def insK (p : Int × α) : List (Int × α) → List (Int × α)
  | [] => [p]
  | q :: r => if p.1 ≤ q.1 then p :: q :: r else q :: insK p r
def sortK : List (Int × α) → List (Int × α)
  | [] => []
  | p :: r => insK p (sortK r)
/-- ys in the order of their numbers kz; who stands first stays first among equals -/
def sortV (kz : List Int) (ys : List α) : List α := (sortK (kz.zip ys)).map Prod.snd
theorem insK_perm (p : Int × α) : ∀ l, (insK p l).Perm (p :: l)
  | [] => .refl _
  | q :: r => by
    unfold insK
    split
    · exact .refl _
    · exact ((insK_perm p r).cons q).trans (.swap p q r)
theorem sortK_perm : ∀ l : List (Int × α), (sortK l).Perm l
  | [] => .refl _
  | p :: r => (insK_perm p (sortK r)).trans ((sortK_perm r).cons p)
theorem insK_pair (p : Int × α) : ∀ {l : List (Int × α)}, l.Pairwise (fun a b => a.1 ≤ b.1) → (insK p l).Pairwise (fun a b => a.1 ≤ b.1)
  | [], _ => List.pairwise_singleton _ _
  | q :: r, h => by
    have hh := List.pairwise_cons.mp h
    unfold insK
    split
    · rename_i le
      refine List.pairwise_cons.mpr ⟨fun b hb => ?_, h⟩
      rcases List.mem_cons.mp hb with rfl | hb
      · exact le
      · exact Int.le_trans le (hh.1 b hb)
    · rename_i le
      refine List.pairwise_cons.mpr ⟨fun b hb => ?_, insK_pair p hh.2⟩
      rcases List.mem_cons.mp ((insK_perm p r).mem_iff.mp hb) with rfl | hb
      · omega
      · exact hh.1 b hb
theorem sortK_pair : ∀ l : List (Int × α), (sortK l).Pairwise (fun a b => a.1 ≤ b.1)
  | [] => .nil
  | p :: r => insK_pair p (sortK_pair r)
theorem insK_filter (p : Int × α) (c : Int) : ∀ l : List (Int × α), (insK p l).filter (fun q => q.1 == c) = (p :: l).filter (fun q => q.1 == c)
  | [] => rfl
  | q :: r => by
    unfold insK
    split
    · rfl
    · rename_i le
      have ih := insK_filter p c r
      rw [List.filter_cons, ih, List.filter_cons (x := p), List.filter_cons (x := p), List.filter_cons (x := q)]
      by_cases h1 : (p.1 == c) = true
      · have h2 : (q.1 == c) = false := by
          have := beq_iff_eq.mp h1
          simp only [beq_eq_false_iff_ne, ne_eq]
          omega
        simp [h1, h2]
      · simp [h1]
theorem sortK_filter (c : Int) : ∀ l : List (Int × α), (sortK l).filter (fun q => q.1 == c) = l.filter (fun q => q.1 == c)
  | [] => rfl
  | p :: r => by
    show (insK p (sortK r)).filter _ = _
    rw [insK_filter, List.filter_cons, List.filter_cons, sortK_filter c r]
/-- a sorted list that keeps equals in order is the only one -/
theorem stable_one : ∀ {l m : List (Int × α)}, l.Pairwise (fun a b => a.1 ≤ b.1) → m.Pairwise (fun a b => a.1 ≤ b.1) → (∀ c, l.filter (fun q => q.1 == c) = m.filter (fun q => q.1 == c)) → l = m
  | [], [], _, _, _ => rfl
  | [], q :: m, _, _, h => by
    have := h q.1
    simp at this
  | p :: l, [], _, _, h => by
    have := h p.1
    simp at this
  | p :: l, q :: m, hl, hm, h => by
    have hl' := List.pairwise_cons.mp hl
    have hm' := List.pairwise_cons.mp hm
    have mem1 : p ∈ (q :: m) := by
      have e := h p.1
      have : p ∈ (p :: l).filter (fun z => z.1 == p.1) := List.mem_filter.mpr ⟨List.mem_cons_self, by simp⟩
      rw [e] at this
      exact (List.mem_filter.mp this).1
    have mem2 : q ∈ (p :: l) := by
      have e := h q.1
      have : q ∈ (q :: m).filter (fun z => z.1 == q.1) := List.mem_filter.mpr ⟨List.mem_cons_self, by simp⟩
      rw [← e] at this
      exact (List.mem_filter.mp this).1
    have e1 : q.1 ≤ p.1 := by
      rcases List.mem_cons.mp mem1 with z | z
      · rw [z]; exact Int.le_refl _
      · exact hm'.1 _ z
    have e2 : p.1 ≤ q.1 := by
      rcases List.mem_cons.mp mem2 with z | z
      · rw [z]; exact Int.le_refl _
      · exact hl'.1 _ z
    have ek : p.1 = q.1 := Int.le_antisymm e2 e1
    have hp : p = q := by
      have e := h p.1
      rw [List.filter_cons, List.filter_cons] at e
      simp only [beq_self_eq_true, ek, if_true] at e
      exact (List.cons.inj e).1
    subst hp
    rw [stable_one hl'.2 hm'.2 fun c => ?_]
    have e := h c
    rw [List.filter_cons, List.filter_cons] at e
    split at e
    · exact (List.cons.inj e).2
    · exact e
theorem sortK_one {l m : List (Int × α)} (hm : m.Pairwise (fun a b => a.1 ≤ b.1)) (h : ∀ c, m.filter (fun q => q.1 == c) = l.filter (fun q => q.1 == c)) : m = sortK l :=
  stable_one hm (sortK_pair l) fun c => (h c).trans (sortK_filter c l).symm
theorem sortV_length {kz : List Int} {ys : List α} (h : kz.length = ys.length) : (sortV kz ys).length = ys.length := by
  unfold sortV
  rw [List.length_map, (sortK_perm _).length_eq, List.length_zip, h, Nat.min_self]
end

/-! ### list.sort by a key, whatever stands around -/
section
variable {prog : Program} {w : World} {A : Around} {E : Value → Shared → Prop} {a : Addr} {vs : List Value} {kz : List Int}
/-- all objects of a heap but three -/
def rest3 (h : Heap) (L x y : Addr) : List (Addr × Obj) := (List.range h.objs.size).filterMap fun b => if b = L ∨ b = x ∨ b = y then none else (h.get? b).map fun o => (b, o)
theorem mem_rest3 {h : Heap} {L x y b : Addr} {o : Obj} (h1 : b ≠ L) (h2 : b ≠ x) (h3 : b ≠ y) (e : h.get? b = some o) : (b, o) ∈ rest3 h L x y :=
  List.mem_filterMap.mpr ⟨b, List.mem_range.mpr (Heap.lt_size e), by simp [h1, h2, h3, e]⟩
theorem of_rest3 {h : Heap} {L x y : Addr} {p : Addr × Obj} (hp : p ∈ rest3 h L x y) : p.1 ≠ L ∧ p.1 ≠ x ∧ p.1 ≠ y ∧ h.get? p.1 = some p.2 := by
  obtain ⟨b, _, e⟩ := List.mem_filterMap.mp hp
  split at e
  · cases e
  · rename_i hn
    cases q : h.get? b with
    | none =>
      rw [q] at e
      cases e
    | some o =>
      rw [q] at e
      cases e
      exact ⟨fun z => hn (.inl z), fun z => hn (.inr (.inl z)), fun z => hn (.inr (.inr z)), q⟩

/-- the end: from the list of the numbers -/
theorem sortkey_end {s : Shared} {kS L : Addr} {m : Str → Option Value} {keys : Array Value} {e e1 : Nat} {P : PySem.Fin → Shared → Prop} (hn : s.heap.Ns L m) (hkL : kS ≠ L) (haL : a ≠ L) (hka : kS ≠ a)
    (hkS : s.heap.get? kS = some (seqObj "list" keys e)) (ha : s.heap.get? a = some (seqObj "list" #[] e1)) (hk : IntsAre keys.toList kz) (hlen : kz.length = vs.length) (hZ : vs.length ≤ sizeLine)
    (h : ∀ h' tk out c, h'.Ns L m → (∀ b o, b ≠ L → b ≠ kS → b ≠ a → s.heap.get? b = some o → h'.get? b = some o) → h'.get? a = some (seqObj "list" out c) → KskOutSt false kz vs out.toList → P (.done (.ret .none)) { s with heap := h', toks := tk }) :
    wpAny (model prog w) A (ksk_end a false vs.toArray e1 (.ref kS) keys) P E s := by
  have F := Att.fr_all hn
  refine ksk_end_St (h₀ := Att.noObjs s.heap) (news := rest3 s.heap L kS a) (L := L) (m := m) (kz := kz) (vs := vs) (e := e) F (fun p hp => ?_) hka (fun p hp => (of_rest3 hp).2.1) (fun p hp => (of_rest3 hp).2.2.1) hk hlen hZ fun h' tk out c F' N' k' => ?_
  · rcases List.mem_append.mp hp with hp | hp
    · obtain ⟨p1, _, _, p4⟩ := of_rest3 hp
      exact ⟨p4, p1, Att.noObjs_get _ _⟩
    · rcases List.mem_cons.mp hp with rfl | hp
      · exact ⟨hkS, hkL, Att.noObjs_get _ _⟩
      · rw [List.mem_singleton.mp hp]
        exact ⟨ha, haL, Att.noObjs_get _ _⟩
  · refine h h' tk out c F'.ns (fun b o b1 b2 b3 eb => ?_) (N' _ List.mem_cons_self).1 k'
    exact (N' _ (List.mem_cons_of_mem _ (mem_rest3 b1 b2 b3 eb))).1

theorem sortkey_rest {f : Value} {s : Shared} {kS L : Addr} {m : Str → Option Value} {e1 : Nat} {P : PySem.Fin → Shared → Prop} (J : Shared → Prop) (hkL : kS ≠ L) (haL : a ≠ L) (hka : kS ≠ a) (hlen : kz.length = vs.length) (hZ : vs.length ≤ sizeLine) (h0 : J s)
    (hns : ∀ s', J s' → s'.heap.Ns L m)
    (hkS : s.heap.get? kS = some (seqObj "list" #[] 0)) (ha : s.heap.get? a = some (seqObj "list" #[] e1))
    (hup : ∀ s' g, J s' → J { s' with heap := s'.heap.update kS (Obj.mapSeq g) })
    (turn : ∀ (i : Nat) (v : Value) (k : Int), vs[i]? = some v → kz[i]? = some k → ∀ s', J s' →
      wpAny (model prog w) A (call f [v]) (fun u s2 => ∃ t, u = .int k t ∧ J s2 ∧ (∀ o, s'.heap.get? kS = some o → s2.heap.get? kS = some o) ∧ (∀ o, s'.heap.get? a = some o → s2.heap.get? a = some o)) (fun _ _ => False) s')
    (h : ∀ s' h' tk out c, J s' → h'.Ns L m → (∀ b o, b ≠ L → b ≠ kS → b ≠ a → s'.heap.get? b = some o → h'.get? b = some o) → h'.get? a = some (seqObj "list" out c) → KskOutSt false kz vs out.toList → P (.done (.ret .none)) { s' with heap := h', toks := tk }) :
    wpAny (model prog w) A (ksk_rest a f false vs.toArray e1 (.ref kS)) P E s := by
  have hZ2 := hZ
  rw [sizeLine_eq] at hZ2
  unfold ksk_rest
  refine wpAny_bind (wpAny_rule ?_)
  first
    | rw [List.forIn_toArray]
    | (rw [← Array.forIn_toList]; simp only [List.toList_toArray])
  refine wpAny_bind (ksk_fold (fun i s' => ∃ kA e, J s' ∧ s'.heap.get? kS = some (seqObj "list" kA e) ∧ s'.heap.get? a = some (seqObj "list" #[] e1) ∧ IntsAre kA.toList (kz.take i)) vs 0 s
    ⟨#[], 0, h0, hkS, ha, by simpa using IntsAre.nil⟩ ?step ?done)
  case step =>
    rintro j x s' hx ⟨kA, e, hJ, gk, ga, hk⟩
    simp only [Nat.zero_add] at hk ⊢
    have hj := (List.getElem?_eq_some_iff.mp hx).1
    obtain ⟨k, hkj⟩ : ∃ k, kz[j]? = some k := ⟨_, List.getElem?_eq_getElem (by omega)⟩
    have hz : kA.size ≤ vs.length := by
      have h1 := hk.length
      rw [Array.length_toList, List.length_take] at h1
      omega
    refine wpAny_bind (wpAny_attempt (wpAny_mono (turn j x k hx hkj s' hJ) (fun v s2 he => ?_) fun _ _ hF => hF.elim))
    obtain ⟨t2, rfl, J2, q1, q2⟩ := he
    try dsimp only
    have gk2 := q1 _ gk
    have ek : kz.take (j + 1) = kz.take j ++ [k] := by rw [List.take_add_one, hkj]; simp
    have ea : (kA.push (Value.int k t2)).toList = kA.toList ++ [Value.int k t2] := by simp
    refine wpAny_bind (listUpdate_at gk2 rfl ?_ (by rw [sizeLine_eq]; omega) (Nat.le_trans (Nat.le_of_eq (Array.size_push ..)) (by rw [sizeLine_eq]; omega)))
    refine wpAny_pure ⟨rfl, kA.push (.int k t2), _, hup s2 _ J2, get?_update_seq gk2 (·.push (.int k t2)), ?_, by rw [ea, ek]; exact ksk_snoc hk⟩
    exact ((Heap.SameBut.update s2.heap kS _).2 a hka.symm).trans (q2 _ ga)
  case done =>
    rintro s' ⟨kA, e, hJ, gk, ga, hk⟩
    have hk' : IntsAre kA.toList kz := by
      have e3 : kz.take (0 + vs.length) = kz := List.take_of_length_le (by omega)
      rw [e3] at hk
      exact hk
    try dsimp only
    refine wpAny_bind (listItems_at gk rfl ?_)
    exact sortkey_end (hns s' hJ) hkL haL hka gk ga hk' hlen hZ fun h' tk out c n1 n2 n3 n4 => h s' h' tk out c hJ n1 n2 n3 n4
end

/-! ### at the layer -/
theorem abs_of {x : V} {u : Value} (r : L2.RelV x u) : absV u = some x := RelV.abs r
def unV (u : Value) : V := (absV u).getD .non
theorem unV_of {x : V} {u : Value} (r : L2.RelV x u) : unV u = x := by
  unfold unV
  rw [abs_of r]
  rfl
theorem zip_unV : ∀ {ys : List V} {us : List Value} (kz : List Int), Vals ys us → (kz.zip us).map (fun p => (p.1, unV p.2)) = kz.zip ys
  | _, _, [], _ => rfl
  | _, _, _ :: _, .nil => by simp
  | _, _, k :: kz, .cons r rs => by
    simp only [List.zip_cons_cons, List.map_cons]
    rw [unV_of r, zip_unV kz rs]
theorem vals_mem : ∀ {ys : List V} {us : List Value} {u : Value}, Vals ys us → u ∈ us → L2.RelV (unV u) u
  | _, _, _, .cons r rs, h => by
    rcases List.mem_cons.mp h with rfl | h
    · rw [unV_of r]
      exact r
    · exact vals_mem rs h
theorem vals_un : ∀ {us : List Value}, (∀ u ∈ us, L2.RelV (unV u) u) → Vals (us.map unV) us
  | [], _ => .nil
  | u :: us, h => .cons (h u List.mem_cons_self) (vals_un fun v hv => h v (List.mem_cons_of_mem _ hv))
theorem out_sorted {ys : List V} {vs out : List Value} {kz : List Int} (r : Vals ys vs) (hl : kz.length = vs.length) (h : KskOutSt false kz vs out) : Vals (sortV kz ys) out := by
  obtain ⟨ps, h1, rfl, h2, h3⟩ := h
  have mem : ∀ u ∈ ps.map Prod.snd, L2.RelV (unV u) u := fun u hu => by
    obtain ⟨p, hp, rfl⟩ := List.mem_map.mp hu
    have q := h1.mem_iff.mp hp
    exact vals_mem r (List.of_mem_zip (a := p.1) (b := p.2) q).2
  have e1 : (ps.map fun p => (p.1, unV p.2)) = sortK (kz.zip ys) := by
    refine sortK_one ?_ fun c => ?_
    · refine List.pairwise_map.mpr (h2.imp fun {x y} z => ?_)
      simpa using z
    · rw [← zip_unV kz r, List.filter_map, List.filter_map]
      have e := h3 c
      exact congrArg (List.map fun p => (p.1, unV p.2)) e
  have e2 : sortV kz ys = (ps.map Prod.snd).map unV := by
    unfold sortV
    rw [← e1, List.map_map, List.map_map]
    rfl
  rw [e2]
  exact vals_un mem

/-- a list or a tuple, collected: the very heap behind it -/
theorem collect_any {prog : Program} {w : World} {A : Around} {E : Value → Shared → Prop} {s : Shared} {l : Addr} {vs : List Value} {o : Obj} {n : Nat} {T : String} {Q : List Value → Shared → Prop} (hT : T = "list" ∨ T = "tuple") (ho : s.heap.get? l = some o) (hc : o.cls = .type T) (hd : o.data = .seq vs.toArray n)
    (h : Q vs { s with heap := (s.heap.push (seqObj "list" #[] 0)).update s.heap.objs.size (Obj.mapSeq (· ++ vs.toArray)) }) (hsz : vs.length ≤ sizeLine) :
    wpAny (model prog w) A (collect (.ref l)) Q E s := by
  have new : (s.heap.push (seqObj "list" #[] 0)).get? s.heap.objs.size = some (seqObj "list" #[] 0) := Heap.get?_push_size _ rfl
  have size : vs.toArray.size ≤ sizeLine := by simpa using hsz
  have grown := Heap.get?_update_self (Obj.mapSeq (· ++ vs.toArray)) new rfl
  have fin : ∀ s', s' = { s with heap := (s.heap.push (seqObj "list" #[] 0)).update s.heap.objs.size (Obj.mapSeq (· ++ vs.toArray)) } → wpAny (model prog w) A (load s.heap.objs.size >>= fun o => match o.data with
      | .seq xs _ => pure xs.toList
      | _ => unsupported "internal:collect") Q E s' := by
    rintro _ rfl
    refine wpAny_bind (wpAny_load grown ?_)
    show wpAny _ _ (pure (#[] ++ vs.toArray).toList) _ _ _
    have e : ((#[] : Array Value) ++ vs.toArray).toList = vs := by simp
    rw [e]
    exact wpAny_pure h
  unfold collect
  refine wpAny_bind (wpAny_runValue (codeAny_builtin F.entry_proto_collect ?_))
  rw [Around.under_plainId F.plain_proto_collect _]
  refine wpAny_bind (m := newList []) (wpAny_newList (wpAny_pure ⟨plainId_quiet F.plain_list_iadd _, codeAny_builtin F.entry_list_iadd ?_⟩))
  rw [Around.under_plainId F.plain_list_iadd _]
  have run := wpAny_extend_seq (prog := prog) (w := w) (A := A) (s := { s with heap := s.heap.push (seqObj "list" #[] 0) }) (R := fun r s' => r = .ok (.ret (.ref s.heap.objs.size)) ∧ s' = { s with heap := (s.heap.push (seqObj "list" #[] 0)).update s.heap.objs.size (Obj.mapSeq (· ++ vs.toArray)) })
    s.heap.objs.size l (.ref s.heap.objs.size) 0 hT new (Heap.get?_push_of_some _ ho) hc hd ⟨rfl, rfl⟩ size
  refine wpAny_mono run (fun f s' q => ?_) fun _ _ q => nomatch q.1
  cases f with
  | done r =>
    obtain ⟨e, q⟩ := q
    cases e
    exact fin _ q
  | again c => exact ⟨q.1, codeAny_mono q.2 fun r s'' z => by
      obtain ⟨rfl, z⟩ := z
      exact fin _ z⟩
section
variable {X : Cx} {k : Nat}
/-- sorted(xs, key=f): f a lambda, hands back whole numbers and leaves all as it was -/
def rSortL (X : Cx) (k : Nat) : List V → List V → Hp → VK → Prop := fun xs zs H Q => ∃ (a f : Addr) (Z : LF) (ys : List V) (kz : List Int), xs = [V.ref a] ∧ zs = [V.ref f] ∧ (SqL X.K H a ys ∨ SqT X.K H a ys) ∧ LamAt H f Z ∧ kz.length = ys.length ∧
  (∀ (A : Around) (outer : List Env) (s : Shared) (i : Nat) (v : V) (n : Int) (u : Value), Room k A → Env0 X.prog X.w X.K X.mg X.base A outer s H → ys[i]? = some v → kz[i]? = some n → RelV v u →
    codeAny (model X.prog X.w) A (.call (.ref f) ⟨[u], []⟩) (CR CX0 outer X.prog X.w H s (fun r H' => r = .int n ∧ H' = H) E0) s) ∧
  ∀ p, H p = none → Q (.ref p) (upd H p (.lst (sortV kz ys)))
theorem cr_sortedLam (hr : Room (k + 3) X.A) : CallRK X (.builtin "sorted") [Str.ofString "key"] (rSortL X k) := by
  rintro pins s σ H xs zs us ws Q I rx rz ⟨l, f, Z, ys, kz, rfl, rfl, hl, hf, hlen, hkey, hq⟩
  obtain ⟨us1, rfl⟩ : ∃ u, us = [u] := by cases rx with | cons r t => cases t; exact ⟨_, rfl⟩
  obtain ⟨ws1, rfl⟩ : ∃ u, ws = [u] := by cases rz with | cons r t => cases t; exact ⟨_, rfl⟩
  obtain rfl : us1 = .ref l := by cases rx with | cons r t => exact r
  obtain rfl : ws1 = .ref f := by cases rz with | cons r t => exact r
  obtain ⟨vs, T, o1, n1, rv, hT, e1, e2, e3, hZ⟩ : ∃ (vs : List Value) (T : String) (o1 : Obj) (n1 : Nat), Vals ys vs ∧ (T = "list" ∨ T = "tuple") ∧ s.heap.get? l = some o1 ∧ o1.cls = .type T ∧ o1.data = .seq vs.toArray n1 ∧ ys.length ≤ sizeLine := by
    rcases hl with hl | hl
    · obtain ⟨vs, rv, pl, hZ⟩ := I.list hl
      obtain ⟨o, n, e1, e2, _, e3⟩ := pl
      exact ⟨vs, "list", o, n, rv, .inl rfl, e1, e2, e3, hZ⟩
    · obtain ⟨vs, rv, pl, hZ⟩ := I.tuple hl
      obtain ⟨o, e1, e2, n, e3⟩ := pl
      exact ⟨vs, "tuple", o, n, rv, .inr rfl, e1, e2, e3, hZ⟩
  have hlv : kz.length = vs.length := by rw [hlen, rv.length]
  have hZv : vs.length ≤ sizeLine := by rw [← rv.length]; exact hZ
  have hZ2 := hZv
  rw [sizeLine_eq] at hZ2
  show wpAny _ _ (call (.builtin "sorted") [.ref l] [(Str.ofString "key", .ref f)]) _ _ _
  refine call_function_entry_kw kind_sorted plain_sorted entry_sorted (ksk_s1 _ _) ?_
  unfold Builtin.«sorted»
  refine wpAny_bind (m := checkCount "sorted" 1 1 _) (wpAny_pure ?_)
  refine wpAny_bind (collect_any hT e1 e2 e3 ?_ hZv)
  refine wpAny_bind (wpAny_newList ?_ (by rw [sizeLine_eq]; omega))
  generalize hh1 : ((s.heap.push (seqObj "list" #[] 0)).update s.heap.objs.size (Obj.mapSeq (· ++ vs.toArray))) = h1
  have z1 : h1.objs.size = s.heap.objs.size + 1 := by rw [← hh1, Heap.size_update, size_push']
  have k1 : ∀ b o, s.heap.get? b = some o → h1.get? b = some o := fun b o q => by
    have lt := Heap.lt_size q
    rw [← hh1, Heap.get?_update_ne _ _ _ _ (Nat.ne_of_lt lt), Heap.get?_push_ne _ _ _ (Nat.ne_of_lt lt)]
    exact q
  show wpAny _ _ _ _ _ { s with heap := h1.push (seqObj "list" vs.toArray 0) }
  have k2 : ∀ b o, s.heap.get? b = some o → (h1.push (seqObj "list" vs.toArray 0)).get? b = some o := fun b o q => Heap.get?_push_of_some _ (k1 b o q)
  have g2 : (h1.push (seqObj "list" vs.toArray 0)).get? h1.objs.size = some (seqObj "list" vs.toArray 0) := Heap.get?_push_size _ rfl
  generalize ha0 : h1.objs.size = a0 at g2 ⊢
  generalize hh2 : h1.push (seqObj "list" vs.toArray 0) = h2 at g2 k2 ⊢
  have a0s : s.heap.objs.size ≤ a0 := by omega
  have z2 : h2.objs.size = a0 + 1 := by rw [← hh2, size_push', ha0]
  refine wpAny_bind (wpAny_holding (wpAny_call_entry_kw slot_list_sort ⟨_, g2, rfl⟩ entry_list_sort ?body (ksk_l1 _ _)))
  case body =>
    show wpAny _ X.A.in1.in1 (Builtin.«list.sort» ⟨[.ref a0], [(Str.ofString "key", .ref f)]⟩) _ _ _
    rw [ksk_t1]
    unfold ksk_tree
    have sb3 := Heap.SameBut.update h2 a0 (Obj.mapSeq fun _ => (#[] : Array Value))
    obtain ⟨e1, g3⟩ : ∃ e1, (h2.update a0 (Obj.mapSeq fun _ => (#[] : Array Value))).get? a0 = some (seqObj "list" #[] e1) := ⟨_, get?_update_seq g2 fun _ => #[]⟩
    have z3 : (h2.update a0 (Obj.mapSeq fun _ => (#[] : Array Value))).objs.size = a0 + 1 := by rw [Heap.size_update, z2]
    refine wpAny_bind (listItems_at g2 rfl ?_)
    refine wpAny_bind (listUpdate_at g2 rfl ?_ (by rw [List.size_toArray, sizeLine_eq]; omega) (Nat.zero_le _))
    refine wpAny_bind (seqEpoch_at g3 rfl ?_)
    have k3 : ∀ b o, s.heap.get? b = some o → (h2.update a0 (Obj.mapSeq fun _ => (#[] : Array Value))).get? b = some o := fun b o q =>
      (sb3.2 b (Nat.ne_of_lt (Nat.lt_of_lt_of_le (Heap.lt_size q) a0s))).trans (k2 b o q)
    generalize h2.update a0 (Obj.mapSeq fun _ => (#[] : Array Value)) = h3 at g3 k3 z3
    refine wpAny_bind (wpAny_newTuple ?_ (by show vs.length ≤ _; rw [sizeLine_eq]; omega))
    refine wpAny_bind (wpAny_newList ?_ (Nat.zero_le _))
    refine wpAny_holding ?_
    have z4 : (h3.push (seqObj "tuple" vs.toArray 0)).objs.size = a0 + 2 := by rw [size_push', z3]
    have k5 : ∀ b o, h3.get? b = some o → ((h3.push (seqObj "tuple" vs.toArray 0)).push (seqObj "list" #[] 0)).get? b = some o := fun b o q => Heap.get?_push_of_some _ (Heap.get?_push_of_some _ q)
    have gk : ((h3.push (seqObj "tuple" vs.toArray 0)).push (seqObj "list" #[] 0)).get? (h3.push (seqObj "tuple" vs.toArray 0)).objs.size = some (seqObj "list" #[] 0) := Heap.get?_push_size _ rfl
    have ga := k5 _ _ g3
    generalize hkS : (h3.push (seqObj "tuple" vs.toArray 0)).objs.size = kS at gk
    have hkS2 : kS = a0 + 2 := by rw [← hkS]; exact z4
    have h5k : ∀ b o, s.heap.get? b = some o → ((h3.push (seqObj "tuple" vs.toArray 0)).push (seqObj "list" #[] 0)).get? b = some o := fun b o q => k5 b o (k3 b o q)
    show wpAny _ _ (ksk_rest a0 (.ref f) false vs.toArray e1 (.ref kS)) _ _ { s with heap := (h3.push (seqObj "tuple" vs.toArray 0)).push (seqObj "list" #[] 0) }
    generalize (h3.push (seqObj "tuple" vs.toArray 0)).push (seqObj "list" #[] 0) = h5 at gk ga h5k
    have I5 : Inv X pins σ H { s with heap := h5 } := I.kept (t' := s.toks) h5k
    have na : H a0 = none := I.hok.fresh a0s
    have nk : H kS = none := I.hok.fresh (by omega)
    have fa := I.fpOk a0s na
    have fk := I.fpOk (b := kS) (by omega) nk
    have hka : kS ≠ a0 := by omega
    obtain ⟨m, hm, _⟩ := I5.loc
    have nstk : ∀ b, FpOk X pins H b → b ∉ frs X.stack := fun b fb hb => by
      rcases List.mem_cons.mp (I.stkSub b hb) with z | z
      · exact fb.2.1 z
      · exact fb.2.2.1 z
    have nsOne : ∀ {g : Heap} {m1 m2 : Str → Option Value}, g.Ns X.env.locals m1 → g.Ns X.env.locals m2 → m1 = m2 := by
      rintro g m1 m2 ⟨o, es, ep, q1, q2, _, q3⟩ ⟨o', es', ep', r1, r2, _, r3⟩
      rw [q1] at r1
      cases r1
      rw [q2] at r2
      cases r2
      funext y
      rw [← q3, ← r3]
    refine sortkey_rest (kz := kz) (m := m) (L := X.env.locals) (fun s' => Inv X pins σ H s' ∧ s'.heap.Ns X.env.locals m) fk.2.1 fa.2.1 hka hlv hZv ⟨I5, hm⟩ (fun s' q => q.2) gk ga (fun s' g q => ?_) (fun i v n hv hn s' q => ?_)
      fun s' h' tk out c q n1 n2 n3 n4 => ?_
    · have sb := Heap.SameBut.update s'.heap kS (Obj.mapSeq g)
      refine ⟨q.1.turned (t' := s'.toks) (fun b o hb e => (sb.2 b hb).trans e) nk fk.2.1 fk.2.2.2.1 fk.2.2.2.2.1 fk.2.2.2.2.2, ?_⟩
      exact q.2.sameBut sb (Ne.symm fk.2.1)
    · obtain ⟨I', hm'⟩ := q
      obtain ⟨y, hy⟩ : ∃ y, ys[i]? = some y := by
        cases e : ys[i]? with
        | some y => exact ⟨y, rfl⟩
        | none =>
          rw [rv.none_of e] at hv
          cases hv
      obtain ⟨v2, hv2, ry⟩ := rv.get hy
      rw [hv] at hv2
      cases hv2
      have e0 := I'.env0.in1.in1
      have room : Room k X.A.in1.in1 := (((hr.mono (show k + 2 ≤ k + 3 by omega)).in1).in1).mono (Nat.le_refl _)
      have run := hkey X.A.in1.in1 X.stack s' i y n v room e0 hy hn ry
      refine wpAny_call (codeAny_mono run fun r s2 hq2 => ?_)
      cases r with
      | error e => exact False.elim hq2
      | ok fl =>
        cases fl with
        | ret u =>
          have hq3 : CE X.stack X.prog X.w H s' (fun r H' => r = .int n ∧ H' = H) u s2 := hq2
          have un := hq3
          obtain ⟨_, _, _, _, un, _⟩ := un
          obtain ⟨w2, H2, I2, r2, rfl, rfl⟩ := I'.after hq3
          obtain ⟨t, rfl⟩ := (show ∃ t, u = Value.int n t from r2)
          refine ⟨t, rfl, ⟨I2, ?_⟩, fun o e => un.keep kS o e nk (nstk kS fk) (by simp), fun o e => un.keep a0 o e na (nstk a0 fa) (by simp)⟩
          obtain ⟨o, es, ep, ho, hd, hs, hf'⟩ := hm'
          by_cases hL : X.env.locals ∈ frs X.stack
          · obtain ⟨sl, e2⟩ := un.slot _ o ho I'.free hL (by simp)
            exact ⟨_, es, ep, e2, hd, hs, hf'⟩
          · exact ⟨o, es, ep, un.keep _ o ho I'.free hL (by simp), hd, hs, hf'⟩
        | next => exact False.elim hq2
        | brk => exact False.elim hq2
        | cont => exact False.elim hq2
    · obtain ⟨I', hm'⟩ := q
      have rout : Vals (sortV kz ys) out.toList := out_sorted rv hlv n4
      have ex : ∀ b o, b ≠ X.env.locals → b ∉ [kS, a0] → s'.heap.get? b = some o → h'.get? b = some o := fun b o b1 b2 e => by
        simp only [List.mem_cons, List.not_mem_nil, or_false, not_or] at b2
        exact n2 b o b1 b2.1 b2.2 e
      have tr : ∀ b u, H b = some u → b ≠ a0 := fun b u e z => by rw [z, na] at e; cases e
      have up : ∀ b u, H b = some u → upd H a0 (.lst (sortV kz ys)) b = some u := fun b u e => by rw [upd_ne (tr b u e)]; exact e
      have off : ∀ b u, H b = some u → b ≠ X.env.locals ∧ b ∉ [kS, a0] := fun b u e => by
        refine ⟨fun z => ?_, fun z => ?_⟩
        · rw [z, I'.free] at e
          cases e
        · simp only [List.mem_cons, List.not_mem_nil, or_false] at z
          rcases z with z | z
          · rw [z, nk] at e
            cases e
          · exact tr b u e z
      refine ⟨_, rfl, ?_⟩
      refine wpAny_pure ⟨_, rfl, .ref a0, upd H a0 (.lst (sortV kz ys)), ?_, rfl, hq a0 na⟩
      refine I'.step (g' := s'.gens) (d' := s'.drawn) (t' := tk) (h' := h') (ch := [kS, a0]) (fun b hb => ?_) (fun b o b1 _ b3 e _ => ex b o b1 b3 e) (fun b o b1 _ b3 e _ => ⟨o.slots, ex b o b1 b3 e⟩)
        (fun b o b3 e n => ?_) (fun b o b3 e => ?_) (fun b u e => up b _ e) (fun b o u e => up b _ e) (fun b ps e => ⟨#[], by rw [up b _ e]; simp⟩) (fun m' hm2 => ?_) (fun b u e => ?_) I'.bare
      · simp only [List.mem_cons, List.not_mem_nil, or_false] at hb
        rcases hb with rfl | rfl
        · exact ⟨fk.2.2.2.1, fk.2.1, fk.2.2.2.2.1, fk.2.2.2.2.2⟩
        · exact ⟨fa.2.2.2.1, fa.2.1, fa.2.2.2.2.1, fa.2.2.2.2.2⟩
      · simp only [List.mem_cons, List.not_mem_nil, or_false, not_or] at b3
        rw [upd_ne b3.2]
        exact n
      · by_cases bL : b = X.env.locals
        · rw [bL]
          obtain ⟨o', _, _, q, _⟩ := n1
          exact ⟨o', q⟩
        · exact ⟨o, ex b o bL b3 e⟩
      · rw [nsOne hm2 hm']
        exact n1
      · by_cases hb : b = a0
        · subst hb
          rw [upd_same] at e
          cases e
          have el : (sortV kz ys).length ≤ sizeLine := by
            rw [sortV_length hlen]
            exact hZ
          exact ⟨el, out.toList, c, rout, by rw [n3]⟩
        · rw [upd_ne hb] at e
          refine (I'.hok b u e).stay (fun d v hd q => ?_) (fun d q => up d _ q) fun d xs q => up d _ q
          rcases hd with rfl | hd
          · exact ex _ v (off _ _ e).1 (off _ _ e).2 q
          · exact ex _ v (off _ _ hd).1 (off _ _ hd).2 q
end
end Sho
set_option Elab.async false
set_option linter.all false
set_option maxRecDepth 100000
set_option maxHeartbeats 4000000
/-! Rows (name, come, go, ..); bottom_up, lifted_from. -/
namespace Sh1
open PySem L2 Sho NdefX Shg
/-! ### the stable sort commutes with maps -/
theorem insK_map {α β : Type} (f : α → β) (p : Int × α) : ∀ l : List (Int × α), insK (p.1, f p.2) (l.map fun q => (q.1, f q.2)) = (insK p l).map fun q => (q.1, f q.2)
  | [] => rfl
  | q :: r => by
    show (if p.1 ≤ q.1 then (p.1, f p.2) :: (q.1, f q.2) :: _ else (q.1, f q.2) :: insK (p.1, f p.2) (r.map fun q => (q.1, f q.2))) = (if p.1 ≤ q.1 then p :: q :: r else q :: insK p r).map _
    split
    · rfl
    · rw [insK_map f p r]
      rfl
theorem sortK_map {α β : Type} (f : α → β) : ∀ l : List (Int × α), sortK (l.map fun q => (q.1, f q.2)) = (sortK l).map fun q => (q.1, f q.2)
  | [] => rfl
  | p :: r => by
    show insK (p.1, f p.2) (sortK (r.map fun q => (q.1, f q.2))) = (insK p (sortK r)).map _
    rw [sortK_map f r, insK_map]
theorem sortV_map {α β : Type} (f : α → β) (kz : List Int) (ys : List α) : sortV kz (ys.map f) = (sortV kz ys).map f := by
  unfold sortV
  have e : kz.zip (ys.map f) = (kz.zip ys).map fun q => (q.1, f q.2) := by
    rw [List.zip_map_right]
    rfl
  rw [e, sortK_map, List.map_map, List.map_map]
  rfl
/-! ### rows -/
structure Rw where
  nm : Str
  come : Int
  go : Int
  more : List Int
  deriving DecidableEq
def rwV (r : Rw) : List V := .str r.nm :: .int r.come :: .int r.go :: r.more.map V.int
def RwAt (H : Hp) (v : V) (r : Rw) : Prop := ∃ t, v = .ref t ∧ H t = some (.tup (rwV r))
theorem RwAt.ext {H H' : Hp} (e : LamX.ExtN H H') {v : V} {r : Rw} (h : RwAt H v r) : RwAt H' v r := by
  obtain ⟨t, rfl, ht⟩ := h
  exact ⟨t, rfl, e _ _ ht fun _ z => nomatch z⟩
theorem RwAt.same {H H' : Hp} (e : Same H H') {v : V} {r : Rw} (h : RwAt H v r) : RwAt H' v r := h.ext (LamX.ExtN.of e)
def rwD (r : Rw) : PyData := .tuple (.str r.nm :: .int r.come :: .int r.go :: r.more.map PyData.int)
theorem eqv_ints : ∀ xs ys : List Int, PyData.eqvAll (xs.map PyData.int) (ys.map PyData.int) = decide (xs = ys)
  | [], [] => rfl
  | [], _ :: _ => rfl
  | _ :: _, [] => rfl
  | x :: xs, y :: ys => by
    show ((x == y) && PyData.eqvAll (xs.map PyData.int) (ys.map PyData.int)) = _
    rw [eqv_ints xs ys, Bool.eq_iff_iff]
    simp
theorem eqv_rw (a b : Rw) : PyData.eqv (rwD a) (rwD b) = decide (a = b) := by
  obtain ⟨a1, a2, a3, a4⟩ := a
  obtain ⟨b1, b2, b3, b4⟩ := b
  show ((a1 == b1) && ((a2 == b2) && ((a3 == b3) && PyData.eqvAll (a4.map PyData.int) (b4.map PyData.int)))) = _
  rw [eqv_ints, Bool.eq_iff_iff]
  simp
abbrev OkRw (r : Rw) : Prop := r.nm.cps.all (· < 0x110000) = true
theorem lay_ints : ∀ xs : List Int, PyData.canLayAll0 (xs.map PyData.int) = true
  | [] => rfl
  | x :: xs => by
    show (true && PyData.canLayAll0 (xs.map PyData.int)) = true
    rw [lay_ints xs]
    rfl
theorem depth_ints : ∀ xs : List Int, PyData.depthAll (xs.map PyData.int) = 0
  | [] => rfl
  | x :: xs => by
    show max (PyData.depth (.int x)) (PyData.depthAll (xs.map PyData.int)) = 0
    rw [depth_ints xs]
    rfl
theorem depth_rw (r : Rw) : PyData.depth (rwD r) = 1 := by
  show PyData.depthAll (.str r.nm :: .int r.come :: .int r.go :: r.more.map PyData.int) + 1 = 1
  have e : PyData.depthAll (.str r.nm :: .int r.come :: .int r.go :: r.more.map PyData.int) = 0 := by
    show max (PyData.depth (.str r.nm)) (max (PyData.depth (.int r.come)) (max (PyData.depth (.int r.go)) (PyData.depthAll (r.more.map PyData.int)))) = 0
    rw [depth_ints]
    rfl
  rw [e]
theorem lay_rw {r : Rw} (h : OkRw r) : PyData.canLay0 (rwD r) = true := by
  show (PyData.canLay0 (.str r.nm) && (true && (true && PyData.canLayAll0 (r.more.map PyData.int)))) = true
  rw [lay_ints]
  simp only [Bool.and_true]
  exact h
theorem shaped_rw {r : Rw} (h : OkRw r) : SeqAt.shaped (rwD r) = true := by
  unfold SeqAt.shaped
  rw [lay_rw h, depth_rw]
  rfl
theorem lay_rws : ∀ {rs : List Rw}, (∀ r ∈ rs, OkRw r) → PyData.canLayAll0 (rs.map rwD) = true
  | [], _ => rfl
  | r :: rs, h => by
    show (PyData.canLay0 (rwD r) && PyData.canLayAll0 (rs.map rwD)) = true
    rw [lay_rw (h r List.mem_cons_self), lay_rws fun x hx => h x (List.mem_cons_of_mem _ hx)]
    rfl
theorem depth_rws : ∀ rs : List Rw, PyData.depthAll (rs.map rwD) ≤ 1
  | [] => Nat.zero_le _
  | r :: rs => by
    show max (PyData.depth (rwD r)) (PyData.depthAll (rs.map rwD)) ≤ 1
    have := depth_rws rs
    rw [depth_rw]
    omega
theorem shaped_rws {rs : List Rw} (h : ∀ r ∈ rs, OkRw r) : SeqAt.shaped (.list (rs.map rwD)) = true := by
  unfold SeqAt.shaped
  have h1 : PyData.canLay0 (.list (rs.map rwD)) = true := lay_rws h
  have h2 : PyData.depth (.list (rs.map rwD)) ≤ 64 := Nat.le_trans (Nat.succ_le_succ (depth_rws rs)) (by decide)
  rw [h1, decide_eq_true h2]
  rfl
end Sh1
set_option Elab.async false
set_option linter.all false
set_option maxRecDepth 100000
set_option maxHeartbeats 4000000
namespace Sh1
open PySem L2 Sho NdefX Shg
abbrev qBot : Str := "bottom_up.<locals>.<lambda>"
theorem sql_grows {K : PySem.W.Frag} {H H' : Hp} {a : Addr} {xs : List V} (e : LamX.ExtN H H') (h : SqL K H a xs) : SqL K H' a xs := by
  rcases h with (h | ⟨o, h⟩) | h
  · exact .inl (.inl (e _ _ h fun _ z => nomatch z))
  · exact .inl (.inr ⟨o, e _ _ h fun _ z => nomatch z⟩)
  · exact .inr h
theorem sqt_grows {K : PySem.W.Frag} {H H' : Hp} {a : Addr} {xs : List V} (e : LamX.ExtN H H') (h : SqT K H a xs) : SqT K H' a xs := by
  rcases h with (h | ⟨o, h⟩) | h
  · exact .inl (.inl (e _ _ h fun _ z => nomatch z))
  · exact .inl (.inr ⟨o, e _ _ h fun _ z => nomatch z⟩)
  · exact .inr h
/-- a key lambda: its tuple's item j -/
theorem key_item {P : Program} {w : World} {K : PySem.W.Frag} {mg : Str → Option Value} {base : Heap} {Z : LF} {f : Addr} {H : Hp} {j : Nat} {x : Str} (l : LamAt H f Z) (S : NScope [x] [x] [] Z.F.scope) (hcl : Z.F.cl = []) (hb : ∀ (pm ctv u : Value), bindArgs (Z.fd pm ctv) ⟨[u], []⟩ = pure [(x, u)])
    (body : ∀ (A : Around) (outer : List Env) (s : Shared), PE (lcx CX0 P w K mg base [x] Z f A outer s H E0) Z.e (tOp (rIxT K) (tVar 0) (tC (.int (j : Int)))))
    {A : Around} {outer : List Env} {s : Shared} {v : V} {n : Int} {u : Value} (hr : Room 1 A) (e0 : Env0 P w K mg base A outer s H) (hv : ∃ t ws, v = .ref t ∧ H t = some (.tup ws) ∧ ws[j]? = some (.int n)) (ru : RelV v u) :
    codeAny (model P w) A (.call (.ref f) ⟨[u], []⟩) (CR CX0 outer P w H s (fun r H' => r = .int n ∧ H' = H) E0) s := by
  obtain ⟨pm, ctv, ho⟩ := lamO_at e0.hok l.o
  obtain ⟨t, ws, rfl, ht, hw⟩ := hv
  have C : CellsAt Z.F.cl [] [] s.heap H := by
    rw [hcl]
    exact ⟨rfl, fun _ _ e => (nomatch e), fun _ _ _ e => (nomatch e), fun i y e => (nomatch e)⟩
  refine lam_call (ps := [x]) (us := [u]) (vs := [.ref t]) S hr e0 ho (codeO_at e0.hok l.c) (.of_eq (hb pm ctv u)) rfl C (.cons ru .nil) (fun _ => body A outer s) ?_
  exact ⟨_, rfl, t, ws, _, .int n, rfl, rfl, SqT.of ht, atI_nat hw, rfl, rfl⟩
section
variable {P : Program} {w : World} {K : PySem.W.Frag} {mg : Str → Option Value} {base : Heap}
def spBottom (K : PySem.W.Frag) (T : List (Addr × Str)) : Sp := fun vs H Q _ => ∃ (a : Addr) (ys : List V) (kz : List Int), vs = [.ref a] ∧ (SqL K H a ys ∨ SqT K H a ys) ∧ kz.length = ys.length ∧
  (∀ (i : Nat) (v : V) (n : Int), ys[i]? = some v → kz[i]? = some n → ∃ t ws, v = .ref t ∧ H t = some (.tup ws) ∧ ws[1]? = some (.int n)) ∧ LamX.Tabs T H ∧
  ∀ p H', Grows T H H' → H' p = some (.lst (sortV kz ys)) → Q (.ref p) H'
theorem scBottom : FnScope ["stays"] ["stays"] (defScope sBottomUp) := ⟨rfl, rfl, rfl, by decide +kernel, rfl, by decide +kernel, by decide +kernel⟩
theorem ok_bottom {f c TP : Addr} {fd : FuncData} {T : List (Addr × Str)} (F : Shg.FunL K "bottom_up" "bottom_up" sBottomUp f c fd) (B : Shg.Blt mg) (TB : LamX.TabB base mg c TP) (hm : (TP, qBot) ∈ T) (hu : ∀ p ∈ T, p.1 = TP → p.2 = qBot) :
    FnOk P w K mg base CX0 5 f fd ["stays"] (spBottom K T) := by
  refine Shg.FunL.ok0 F scBottom (fun vs H Q E h => ?_) (fun A outer s H vs Q E hr h => ?_)
  · obtain ⟨a, ys, kz, rfl, _⟩ := h
    rfl
  · obtain ⟨a, ys, kz, rfl, ha, hl, hk, hT, k⟩ := h
    refine ⟨_, pss_one (ps_ret (pe_callBK (cr_sortedLam (k := 1) hr) (by rfl) B.sorted (by decide +kernel) (pa_cons (pv 0) pa_nil) (pk_cons (pe_lam TB rfl hm hu (Shg.free_by (os := (defScope sBottomUp).names) (by decide +kernel))) pk_nil))), ?_⟩
    refine ⟨_, rfl, hT, fun f0 c0 H1 G1 n0 l0 => ⟨a, f0, _, ys, kz, rfl, rfl, ha.imp (sql_grows G1.ext) (sqt_grows G1.ext), l0, hl, fun A' outer' s' i v n u hr' e0 hv hn ru => ?_, fun p hp => ?_⟩⟩
    · obtain ⟨t, ws, e, ht, hw⟩ := hk i v n hv hn
      exact key_item (j := 1) l0 (nscope_by (sc := Shg.scL [("stay", .local)]) (by decide +kernel)) rfl (fun _ _ _ => rfl) (fun A outer s => pe_ix ix_tup (pv 0) pe_int (fun _ _ => rfl)) hr' e0 ⟨t, ws, e, G1.ext _ _ ht (fun _ z => nomatch z), hw⟩ ru
    · exact k p _ (G1.trans (Grows.upd hp)) upd_same
end
end Sh1
/-! bottom_up: told in P2b0, which a law without parties can use too. -/
set_option Elab.async false
set_option linter.all false
set_option maxRecDepth 100000
set_option maxHeartbeats 4000000
namespace Sh1
open PySem L2 Sho NdefX Shg
theorem Grows.of {T : List (Addr × Str)} {H H' : Hp} (s : Same H H') : Grows T H H' := ⟨LamX.ExtN.of s, fun t => LamX.Tabs.ext t s⟩
/-- paired in another order: what a list of pairs says -/
theorem zip_paired {α β : Type} {R : α → β → Prop} {as : List α} {bs : List β} (h : PySem.Paired R as bs) : ∀ q ∈ as.zip bs, R q.1 q.2 := by
  induction h with
  | nil => intro q hq; cases hq
  | cons x r ih =>
    intro q hq
    rcases List.mem_cons.mp hq with rfl | hq
    · exact x
    · exact ih q hq
theorem paired_of {α β : Type} {R : α → β → Prop} : ∀ {l : List (α × β)}, (∀ q ∈ l, R q.1 q.2) → PySem.Paired R (l.map (·.1)) (l.map (·.2))
  | [], _ => .nil
  | q :: l, h => .cons (h q List.mem_cons_self) (paired_of fun x hx => h x (List.mem_cons_of_mem _ hx))
theorem insK_mem {α : Type} {p : Int × α} : ∀ {l : List (Int × α)} {q : Int × α}, q ∈ insK p l ↔ q = p ∨ q ∈ l
  | [], q => by simp [insK]
  | r :: l, q => by
    unfold insK
    split
    · simp
    · rw [List.mem_cons, insK_mem]
      simp only [List.mem_cons]
      constructor
      · rintro (h | h | h)
        · exact .inr (.inl h)
        · exact .inl h
        · exact .inr (.inr h)
      · rintro (h | h | h)
        · exact .inr (.inl h)
        · exact .inl h
        · exact .inr (.inr h)
theorem sortK_mem {α : Type} : ∀ {l : List (Int × α)} {q : Int × α}, q ∈ sortK l ↔ q ∈ l
  | [], q => by simp [sortK]
  | r :: l, q => by
    unfold sortK
    rw [insK_mem, sortK_mem, List.mem_cons]
theorem insK_length {α : Type} {p : Int × α} : ∀ {l : List (Int × α)}, (insK p l).length = l.length + 1
  | [] => rfl
  | r :: l => by
    unfold insK
    split
    · rfl
    · rw [List.length_cons, insK_length, List.length_cons]
theorem sortK_length {α : Type} : ∀ {l : List (Int × α)}, (sortK l).length = l.length
  | [] => rfl
  | r :: l => by
    unfold sortK
    rw [insK_length, sortK_length, List.length_cons]
/-- rows in the order of coming -/
def bot (rs : List Rw) : List Rw := sortV (rs.map Rw.come) rs
def RwsV (H : Hp) (ws : List V) (rs : List Rw) : Prop := PySem.Paired (RwAt H) ws rs
theorem RwsV.ext {H H' : Hp} (e : LamX.ExtN H H') {ws : List V} {rs : List Rw} (h : RwsV H ws rs) : RwsV H' ws rs := pair_mono (fun _ _ k => k.ext e) h
theorem zip_self_snd {α β : Type} : ∀ {as : List α} {bs : List β}, as.length = bs.length → (as.zip bs).map (·.2) = bs ∧ (as.zip bs).map (·.1) = as
  | [], [], _ => ⟨rfl, rfl⟩
  | [], _ :: _, h => by simp at h
  | _ :: _, [], h => by simp at h
  | a :: as, b :: bs, h => by
    obtain ⟨h1, h2⟩ := zip_self_snd (as := as) (bs := bs) (by simpa using h)
    exact ⟨by rw [List.zip_cons_cons, List.map_cons, h1], by rw [List.zip_cons_cons, List.map_cons, h2]⟩
theorem bot_paired {H : Hp} {ws : List V} {rs : List Rw} (h : RwsV H ws rs) : RwsV H (sortV (rs.map Rw.come) ws) (bot rs) := by
  have hl := pair_len h
  obtain ⟨e2, e1⟩ := zip_self_snd hl
  have a : sortV (rs.map Rw.come) ws = (sortV (rs.map Rw.come) (ws.zip rs)).map (·.1) := by
    rw [← sortV_map, e1]
  have b : bot rs = (sortV (rs.map Rw.come) (ws.zip rs)).map (·.2) := by
    unfold bot
    rw [← sortV_map, e2]
  rw [a, b]
  refine paired_of fun q hq => ?_
  unfold sortV at hq
  obtain ⟨x, hx, rfl⟩ := List.mem_map.mp hq
  have := sortK_mem.mp hx
  exact zip_paired h _ (List.of_mem_zip this).2
theorem bot_mem {rs : List Rw} {r : Rw} : r ∈ bot rs ↔ r ∈ rs := by
  unfold bot sortV
  constructor
  · intro h
    obtain ⟨x, hx, rfl⟩ := List.mem_map.mp h
    exact (List.of_mem_zip (sortK_mem.mp hx)).2
  · intro h
    refine List.mem_map.mpr ⟨(r.come, r), sortK_mem.mpr ?_, rfl⟩
    induction rs with
    | nil => cases h
    | cons x rs ih =>
      rw [List.map_cons, List.zip_cons_cons]
      rcases List.mem_cons.mp h with rfl | h
      · exact List.mem_cons_self
      · exact List.mem_cons_of_mem _ (ih h)
theorem bot_length {rs : List Rw} : (bot rs).length = rs.length := by
  unfold bot sortV
  rw [List.length_map, sortK_length, List.length_zip, List.length_map]
  exact Nat.min_self _
/-- those that lie higher than the first x -/
def above (x : Rw) : List Rw → List Rw
  | [] => []
  | r :: rs => if r = x then rs else above x rs
theorem above_ix {x : Rw} : ∀ {l : List Rw}, x ∈ l → ∃ j, l[j]? = some x ∧ (∀ m, m < j → ∀ z, l[m]? = some z → z ≠ x) ∧ l.drop (j + 1) = above x l
  | [], h => nomatch h
  | r :: l, h => by
    by_cases e : r = x
    · refine ⟨0, by rw [e]; rfl, fun m hm => absurd hm (Nat.not_lt_zero _), ?_⟩
      unfold above
      rw [if_pos e]
      rfl
    · obtain ⟨j, h1, h2, h3⟩ := above_ix (x := x) (l := l) ((List.mem_cons.mp h).resolve_left fun z => e z.symm)
      refine ⟨j + 1, by simpa using h1, fun m hm z hz => ?_, ?_⟩
      · cases m with
        | zero =>
          simp at hz
          rw [← hz]
          exact e
        | succ m => exact h2 m (by omega) z (by simpa using hz)
      · unfold above
        rw [if_neg e, ← h3]
        rfl
def crosses (x r : Rw) : Bool := decide (r.come < x.go) && decide (x.go < r.go)
/-- who is lifted when x goes, from the top -/
def lifted (rs : List Rw) (x : Rw) : List Rw := (above x (bot rs)).reverse.filter (crosses x)
theorem paired_drop {α β : Type} {R : α → β → Prop} : ∀ (n : Nat) {as : List α} {bs : List β}, PySem.Paired R as bs → PySem.Paired R (as.drop n) (bs.drop n)
  | 0, _, _, h => h
  | _ + 1, _, _, .nil => .nil
  | n + 1, _, _, .cons _ r => paired_drop n r
theorem paired_rev {α β : Type} {R : α → β → Prop} : ∀ {as : List α} {bs : List β}, PySem.Paired R as bs → PySem.Paired R as.reverse bs.reverse
  | _, _, .nil => .nil
  | _, _, .cons x r => by
    rw [List.reverse_cons, List.reverse_cons]
    exact pair_app (paired_rev r) (.cons x .nil)
theorem paired_filter {α β : Type} {R : α → β → Prop} (p : β → Bool) : ∀ {ws : List α} {xs : List β}, PySem.Paired R ws xs → PySem.Paired R ((ws.zip xs).filterMap fun q => if p q.2 = true then some q.1 else none) (xs.filter p)
  | _, _, .nil => .nil
  | _, _, .cons (a := v) (b := x) h r => by
    have ih := paired_filter p r
    rw [List.zip_cons_cons, List.filterMap_cons, List.filter_cons]
    by_cases e : p x = true
    · simp only [e, if_true]
      exact .cons h ih
    · simp only [e, if_false]
      exact ih
theorem dp_rw {K : PySem.W.Frag} {H : Hp} {v : V} {r : Rw} (h : RwAt H v r) : Dp K H v (rwD r) := by
  obtain ⟨t, rfl, ht⟩ := h
  refine .tup (SqT.of ht) (.cons (.str _) (.cons (.int _) (.cons (.int _) ?_)))
  generalize r.more = l
  induction l with
  | nil => exact .nil
  | cons x l ih => exact .cons (.int _) ih
theorem dp_rws {K : PySem.W.Frag} {H : Hp} : ∀ {ws : List V} {rs : List Rw}, RwsV H ws rs → DpAll K H ws (rs.map rwD)
  | [], [], _ => .nil
  | _ :: _, _ :: _, h => by
    cases h with
    | cons x r => exact .cons (dp_rw x) (dp_rws r)
  | [], _ :: _, h => nomatch h
  | _ :: _, [], h => nomatch h
section
variable {P : Program} {w : World} {K : PySem.W.Frag} {mg : Str → Option Value} {base : Heap}
theorem units65 {k : Nat} {A : Around} (r : Room k A) : A.units + 65 < cLine := by have := r.un; omega
def spLifted (K : PySem.W.Frag) (T : List (Addr × Str)) : Sp := fun vs H Q _ => ∃ (a : Addr) (v : V) (ws : List V) (rs : List Rw) (x : Rw), vs = [.ref a, v] ∧ (SqL K H a ws ∨ SqT K H a ws) ∧ RwsV H ws rs ∧ RwAt H v x ∧ x ∈ rs ∧ (∀ r ∈ rs, OkRw r) ∧ rs.length ≤ 1000 ∧ LamX.Tabs T H ∧
  ∀ p H' ys, Grows T H H' → H' p = some (.lst ys) → RwsV H' ys (lifted rs x) → Q (.ref p) H'
/-- nothing but a table was tracked there -/
def NewN (H : Hp) (p : Addr) : Prop := ∀ o, H p = some o → ∃ ps, o = .tbl ps
def spLiftedN (K : PySem.W.Frag) (T : List (Addr × Str)) : Sp := fun vs H Q _ => ∃ (a : Addr) (v : V) (ws : List V) (rs : List Rw) (x : Rw), vs = [.ref a, v] ∧ (SqL K H a ws ∨ SqT K H a ws) ∧ RwsV H ws rs ∧ RwAt H v x ∧ x ∈ rs ∧ (∀ r ∈ rs, OkRw r) ∧ rs.length ≤ 1000 ∧ LamX.Tabs T H ∧
  ∀ p H' ys, NewN H p → Grows T H H' → H' p = some (.lst ys) → RwsV H' ys (lifted rs x) → Q (.ref p) H'
theorem scLifted : FnScope ["stays", "taker", "pile", "later", "stay"] ["stays", "taker"] (defScope sLiftedFrom) := ⟨rfl, rfl, rfl, by decide +kernel, rfl, by decide +kernel, by decide +kernel⟩
theorem ok_liftedN {f fB : Addr} {fd fdB : FuncData} {T : List (Addr × Str)} (F : Fun K "lifted_from" "lifted_from" sLiftedFrom f fd) (GB : FnOk P w K mg base CX0 5 fB fdB ["stays"] (spBottom K T)) (mB : mg "bottom_up" = some (.ref fB)) (kB : PySem.W.keepIn K (.ref fB) = true) (bB : Binds K fdB ["stays"] []) :
    FnOk P w K mg base CX0 6 f fd ["stays", "taker"] (spLiftedN K T) := by
  refine F.ok scLifted (fun vs H Q E h => ?_) (fun cdv A outer s H vs Q E hr h => ?_)
  · obtain ⟨a, v, ws, rs, x, rfl, _⟩ := h
    rfl
  · obtain ⟨a, v, ws, rs, x, rfl, ha, hw, hv, hx, hok, hlen, hT, k⟩ := h
    have nd := scLifted.nd
    refine ⟨_, pss_cons (ps_set (i := 2) nd rfl (Or.inl rfl) (pe_call GB hr rfl mB kB bB .nil pass0 (pa_cons (pv 0) pa_nil)))
      (pss_cons (ps_set (i := 3) nd rfl (Or.inl rfl) (pe_slice sl_list (pv 2) (po_some (pe_op op_add (pe_bm PySem.F.plainAttrs_list PySem.F.slot_list_index PySem.F.type_list_index (mt_indexD (units65 hr)) (pv 2) (pa_cons (pv 1) pa_nil)) pe_int)) po_none))
      (pss_one (ps_ret (pe_lc (own := [("stay", 4)]) (g := gName 4) (tt := tTest (tChain (rI0 fun i j => .bl (decide (i < j))) (rI0 fun i j => .bl (decide (i < j))) (tOp (rIxT K) (tVar 4) (tC (.int 1))) (tOp (rIxT K) (tVar 1) (tC (.int 2))) (tOp (rIxT K) (tVar 4) (tC (.int 2))))) (te := tVar 4) rfl nd (pi_list (pe_revL (pv 3))) (blkOk_by (own := [("stay", 4)]) (N := ["stays", "taker", "pile", "later", "stay"]) (sc := defScope sLiftedFrom) (by decide +kernel))
        (fun _ _ _ _ _ => pg_name (i := 4) nd rfl (Or.inl rfl)) (fun _ _ _ _ _ => pts_one (pt_chain op_lt op_lt (pe_ix ix_tup (pv 4) pe_int (fun _ _ => rfl)) (pe_ix ix_tup (pv 1) pe_int (fun _ _ => rfl)) (pe_ix ix_tup (pv 4) pe_int (fun _ _ => rfl)))) (fun _ _ _ _ _ => pv 4))))), ?_⟩
    refine ⟨_, rfl, a, ws, rs.map Rw.come, rfl, ha, ?_, ?_, hT, fun pb H1 G1 e1 => ?_⟩
    · rw [List.length_map, pair_len hw]
    · intro i y n hy hn
      obtain ⟨r, hr', t, rfl, ht⟩ := pair_get hw hy
      rw [List.getElem?_map, hr'] at hn
      exact ⟨t, _, rfl, ht, congrArg (Option.map V.int) hn⟩
    · have hb := bot_paired (hw.ext G1.ext)
      have lb := pair_len hb
      have hokb : ∀ r ∈ bot rs, OkRw r := fun r hr' => hok r (bot_mem.mp hr')
      obtain ⟨j, hj1, hj2, hj3⟩ := above_ix (bot_mem.mpr hx)
      have hjlt : j < (bot rs).length := (List.getElem?_eq_some_iff.mp hj1).1
      refine ⟨_, rfl, _, rfl, .inl ⟨rfl, _, SqL.of e1⟩, _, rfl, pb, v, rwD x, (bot rs).map rwD, j, rwD x, rfl, rfl, .lst (SqL.of e1) (dp_rws hb), dp_rw (hv.ext G1.ext), shaped_rws hokb, shaped_rw (hok x hx), ?_, ?_, ?_, ?_⟩
      · rw [List.getElem?_map, hj1]
        rfl
      · rw [eqv_rw]
        exact decide_eq_true rfl
      · intro m z' hm hz
        rw [List.getElem?_map] at hz
        obtain ⟨z, hz1, rfl⟩ := Option.map_eq_some_iff.mp hz
        rw [eqv_rw]
        exact decide_eq_false (hj2 m hm z hz1)
      · refine ⟨_, _, rfl, rfl, _, rfl, pb, _, rfl, SqL.of e1, fun p2 hp2 => ?_⟩
        have ec : cutV (sortV (rs.map Rw.come) ws) (some ((j : Int) + 1)) none = (sortV (rs.map Rw.come) ws).drop (j + 1) := by
          unfold cutV
          rw [show (some ((j : Int) + 1)) = some ((j + 1 : Nat) : Int) from rfl, HT.sIx_nat, HT.sIx_none, Nat.min_eq_left (by omega)]
          exact List.take_of_length_le (by rw [List.length_drop]; exact Nat.le_refl _)
        rw [ec]
        generalize hys : (sortV (rs.map Rw.come) ws).drop (j + 1) = ys
        have s2 : Same H1 (upd H1 p2 (.lst ys)) := same_upd hp2
        have y1 : RwsV H1 ys (above x (bot rs)) := by
          rw [← hys, ← hj3]
          exact paired_drop _ hb
        have g2 : (upd H1 p2 (.lst ys)) p2 = some (.lst ys) := upd_same
        generalize upd H1 p2 (.lst ys) = H2 at s2 g2 ⊢
        refine ⟨_, rfl, p2, ys, rfl, SqL.of g2, fun p3 hp3 => ?_⟩
        have s3 : Same H2 (upd H2 p3 (.lst ys.reverse)) := same_upd hp3
        have g3 : (upd H2 p3 (.lst ys.reverse)) p3 = some (.lst ys.reverse) := upd_same
        have s4 := s2.trans s3
        generalize upd H2 p3 (.lst ys.reverse) = H3 at s3 g3 s4 ⊢
        have y3 : RwsV H3 ys.reverse (above x (bot rs)).reverse := paired_rev (y1.ext (LamX.ExtN.of s4))
        generalize hZ : (above x (bot rs)).reverse = Z at y3
        refine ⟨p3, rfl, ⟨_, SqL.of g3⟩, fun D hD => ?_⟩
        obtain ⟨tx, rfl, htx⟩ := hv.ext (G1.ext.trans (LamX.ExtN.of s4))
        have lz : ys.reverse.length = Z.length := pair_len y3
        have ly : ys.length ≤ 1000 := by
          have := pair_len y1
          rw [← hys, List.length_drop]
          have := pair_len hw
          rw [lb, bot_length]
          omega
        refine lc_gather walk_list (fun i => ((ys.reverse.zip Z)[i]?).bind fun q => if crosses x q.2 = true then some q.1 else none) hD (by rw [List.length_reverse]; exact Nat.le_trans ly (by decide)) (fun H4 s5 => SqL.of (s5 _ _ g3)) (fun i v H4 H5 hi s5 y R k1 => ?_) fun H4 s5 e4 => ?_
        · obtain ⟨rfl, e2⟩ := y
          obtain ⟨r, hr', t', rfl, ht'⟩ := pair_get y3 e2
          have k2 := k1 _ (Same.refl _)
          have ez : (ys.reverse.zip Z)[i]? = some (.ref t', r) := by
            rw [List.getElem?_zip_eq_some]
            exact ⟨e2, hr'⟩
          rw [ez] at k2
          simp only [Option.bind_some] at k2
          have t1 := SqT.of (K := K) (s5 _ _ ht')
          have t2 := SqT.of (K := K) (s5 _ _ htx)
          refine ⟨rfl, _, rfl, t', _, 1, .int r.come, rfl, rfl, t1, atI_nat (j := 1) rfl, _, rfl, tx, _, 2, .int x.go, rfl, rfl, t2, atI_nat (j := 2) rfl, _, _, rfl, rfl, _, rfl, ?_⟩
          by_cases c1 : r.come < x.go
          · rw [if_pos (decide_eq_true c1)]
            refine ⟨_, rfl, t', _, 2, .int r.go, rfl, rfl, t1, atI_nat (j := 2) rfl, _, _, rfl, rfl, ?_⟩
            by_cases c2 : x.go < r.go
            · have e : crosses x r = true := by
                unfold crosses
                rw [decide_eq_true c1, decide_eq_true c2]
                rfl
              rw [if_pos e] at k2
              exact ⟨_, rfl, ite2 (fun _ => ⟨_, rfl, k2⟩) (fun h => absurd (decide_eq_true c2) h)⟩
            · have e : crosses x r = false := by
                unfold crosses
                rw [decide_eq_true c1, decide_eq_false c2]
                rfl
              rw [if_neg (by rw [e]; exact Bool.false_ne_true)] at k2
              exact ⟨_, rfl, ite2 (fun h => absurd (of_decide_eq_true h) c2) (fun _ => k2)⟩
          · have e : crosses x r = false := by
              unfold crosses
              rw [decide_eq_false c1]
              rfl
            rw [if_neg (by rw [e]; exact Bool.false_ne_true)] at k2
            rw [if_neg (by rw [decide_eq_false c1]; exact Bool.false_ne_true)]
            exact ⟨_, rfl, iteF k2⟩
        · have ez : (ys.reverse.zip Z).length = ys.reverse.length := by
            rw [List.length_zip, lz]
            exact Nat.min_self _
          rw [← ez, gather_list] at e4
          have sv := paired_filter (crosses x) (pair_mono (fun _ _ k => RwAt.same s5 k) y3)
          rw [← hZ] at sv
          rw [← hZ] at e4
          refine k D _ _ (fun o e => Classical.byContradiction fun hn => ?_) ((G1.trans (Sh1.Grows.of s4)).trans (Sh1.Grows.of s5)) e4 sv
          have e2 := s4 _ _ (G1.ext D o e fun ps z => hn ⟨ps, z⟩)
          rw [hD] at e2
          cases e2
theorem ok_lifted {f fB : Addr} {fd fdB : FuncData} {T : List (Addr × Str)} (F : Fun K "lifted_from" "lifted_from" sLiftedFrom f fd) (GB : FnOk P w K mg base CX0 5 fB fdB ["stays"] (spBottom K T)) (mB : mg "bottom_up" = some (.ref fB)) (kB : PySem.W.keepIn K (.ref fB) = true) (bB : Binds K fdB ["stays"] []) :
    FnOk P w K mg base CX0 6 f fd ["stays", "taker"] (spLifted K T) :=
  (ok_liftedN F GB mB kB bB).imp fun vs H Q E ⟨a, v, ws, rs, x, h1, h2, h3, h4, h5, h6, h7, h8, k⟩ => ⟨a, v, ws, rs, x, h1, h2, h3, h4, h5, h6, h7, h8, fun p H' ys _ => k p H' ys⟩
end
end Sh1
set_option Elab.async false
set_option linter.all false
set_option maxRecDepth 100000
set_option maxHeartbeats 2000000
/-! bool(x), len(x), x[i], x == y of own instances by promises. -/
namespace ShB
open PySem
theorem meets_bool {prog : Program} {w : World} (v : Value) :
    MeetsIn prog w (Builtin.«bool.__new__» ⟨[.type "bool", v], []⟩) (fun A R s => wpAny (model prog w) A.in1 (truthy v) (fun b s' => R (.ok (.ret (.bool b))) s') (fun e s' => R (.error e) s') s) := by
  intro A R s h
  obtain ⟨hp, g, d, tk, os⟩ := s
  have f1 := F.conv_sub_bool
  unfold Builtin.«bool.__new__»
  repeat (any_goals (first | assumption | (with_reducible refine wpAny_mono h (fun b s' z => ?_) fun _ _ z => z) | wp_step))
  all_goals first | exact ⟨_, rfl, z⟩ | exact z | skip
theorem call_boolT {prog : Program} {w : World} {A : Around} {E : Value → Shared → Prop} {s : Shared} {v : Value} {Q : Value → Shared → Prop}
    (h : wpAny (model prog w) A.in1.in1 (truthy v) (fun b s' => Q (.bool b) s') E s) : wpAny (model prog w) A (call (.type "bool") [v]) Q E s :=
  callType_newIn F.called_bool F.newNe_bool (F.typeCall_bool_1 v) (F.newCall_bool_1 v) (fun obj => F.args_object_init_2 obj v) F.entry_bool_new (meets_bool v)
    (wpAny_mono h (fun b s' z => ⟨by rfl, z⟩) fun _ _ z => z)
end ShB

namespace Sho
open PySem PySem.Spec PyProof.Rows L2 StX
section
variable {X : Cx} {CX : CXT} {k : Nat} {f C : Addr} {sp : Sp} {E : XK}
/-- a promise, run around A (which bears the frames of X) -/
theorem run_at {A : Around} {pins : List (Addr × Obj)} {σ : L2.St} {H : Hp} {s : Shared} {Q : VK} {us : List Value} {vs : List V} (F : FnR X.prog X.w X.K X.mg X.base CX k f sp) (hr : Room k A) (e0 : Env0 X.prog X.w X.K X.mg X.base A X.stack s H) (hx : Passes CX X E)
    (I : Inv X pins σ H s) (r : Vals vs us) (h : sp vs H Q E) : wpAny (model X.prog X.w) A (call (.ref f) us) (EP X pins σ Q) X.xe s := by
  refine wpAny_call (codeAny_mono (F A X.stack s H us vs Q E hr e0 r h) fun r s' hq => ?_)
  cases r with
  | error e => exact hx pins σ H s e s' I hq
  | ok fl =>
    cases fl with
    | ret u => exact I.after hq
    | next => exact hq.elim
    | brk => exact hq.elim
    | cont => exact hq.elim
theorem inst_of {pins : List (Addr × Obj)} {σ : L2.St} {H : Hp} {s : Shared} {a : Addr} (I : Inv X pins σ H s) (h : InsAt H a C) : ∃ ox od, PySem.W.InstAt s.heap a ox C od := by
  obtain ⟨dx, fs, h⟩ := h
  obtain ⟨mA, J, _⟩ := ins_get I.hok h
  obtain ⟨od, J, _⟩ := J.look
  exact ⟨_, _, J⟩
/-- len(a), a's own __len__ -/
def rLenO (C : Addr) (sp : Sp) (E : XK) : List V → Hp → VK → Prop := fun xs H Q => ∃ a, xs = [.ref a] ∧ InsAt H a C ∧ sp [.ref a] H (fun r H' => ∃ n : Int, r = .int n ∧ 0 ≤ n ∧ n < 2 ^ 63 ∧ Q (.int n) H') E
theorem call_lenO (F : FnR X.prog X.w X.K X.mg X.base CX k f sp) (hr : Room (k + 1) X.A) (hx : Passes CX X E) (hs : PySem.W.findIn X.K (.ref C) "__len__" = some (some (.ref f))) (hf : PySem.W.isFn X.K (.ref f) = true) :
    CallR X (.builtin "len") (rLenO C sp E) := by
  rintro pins s σ H xs us Q I r ⟨a, rfl, ha, h⟩
  obtain rfl := Vals.ref1 r
  obtain ⟨ox, od, J⟩ := inst_of I ha
  obtain ⟨m, hF⟩ := I.fr
  refine PySem.W.len_K hF I.ok.mod.kin J hs hf (thn (run_at (vs := [.ref a]) F hr.in1 I.env0.in1 hx I (.cons rfl .nil) h) fun u s' q => ?_)
  obtain ⟨v, H', I', rv, n, rfl, n0, n1, q⟩ := q
  obtain ⟨t, rfl⟩ := rv
  exact ⟨⟨n0, n1⟩, .int n, H', I'.tok _, ⟨_, rfl⟩, q⟩
/-- bool(a), a's own __bool__ -/
def rBoolO (C : Addr) (sp : Sp) (E : XK) : List V → Hp → VK → Prop := fun xs H Q => ∃ a, xs = [.ref a] ∧ InsAt H a C ∧ sp [.ref a] H (fun r H' => ∃ b : Bool, r = .bl b ∧ Q (.bl b) H') E
theorem call_boolO (F : FnR X.prog X.w X.K X.mg X.base CX k f sp) (hr : Room (k + 2) X.A) (hx : Passes CX X E) (hs : PySem.W.findIn X.K (.ref C) "__bool__" = some (some (.ref f))) (hf : PySem.W.isFn X.K (.ref f) = true) :
    CallR X (.type "bool") (rBoolO C sp E) := by
  rintro pins s σ H xs us Q I r ⟨a, rfl, ha, h⟩
  obtain rfl := Vals.ref1 r
  obtain ⟨ox, od, J⟩ := inst_of I ha
  obtain ⟨m, hF⟩ := I.fr
  refine ShB.call_boolT (PySem.W.truthy_K hF I.ok.mod.kin J hs hf (thn (run_at (vs := [.ref a]) F hr.in1.in1 I.env0.in1.in1 hx I (.cons rfl .nil) h) fun u s' q => ?_))
  obtain ⟨v, H', I', rv, b, rfl, q⟩ := q
  cases rv
  exact ⟨.bl b, H', I', rfl, q⟩
/-- bool(a tuple) -/
theorem call_boolTup : CallR X (.type "bool") (fun xs H Q => ∃ (a : Addr) (zs : List V), xs = [.ref a] ∧ SqT X.K H a zs ∧ Q (.bl (!zs.isEmpty)) H) := by
  rintro pins s σ H xs us Q I r ⟨a, zs, rfl, hq, q⟩
  obtain rfl := Vals.ref1 r
  obtain ⟨its, rv, pl, hz⟩ := I.tuple hq
  have hl := line63
  have hlen := rv.length
  refine ShB.call_boolT (truthy_tuple pl (by simp only [List.size_toArray]; omega) ?_)
  exact ⟨.bl (!zs.isEmpty), H, I.tok _, by rw [isEmpty_of rv]; rfl, q⟩
/-- a[i], a's own __getitem__ -/
theorem pe_ixO {ea eb : Expr} {ta tb : TE} {pos : Pos} (F : FnR X.prog X.w X.K X.mg X.base CX k f sp) (hr : Room (k + 1) X.A) (hx : Passes CX X E) (hs : PySem.W.findIn X.K (.ref C) "__getitem__" = some (some (.ref f))) (hfn : PySem.W.fnIn X.K f = true) (hf : PySem.W.isFn X.K (.ref f) = true)
    (ha : PE X ea ta) (hb : PE X eb tb) (hsl : ∀ (a : Addr) (u : Value), subscripted eb true (.ref a) u = runValue (.builtin "lifetime.subscript" ⟨[.ref a, u], []⟩)) : PE X (.Subscript ea eb pos) (tOp (rOwnIx C sp E) ta tb) := by
  refine ⟨fun pins s σ H Q I h => ?_⟩
  refine Subscript_ (binT ha hb I h fun v u s2 x y H2 I2 rx ry q => ?_)
  obtain ⟨a, rfl, hi, h2⟩ := q
  cases rx
  obtain ⟨ox, od, J⟩ := inst_of I2 hi
  obtain ⟨m, hF⟩ := I2.fr
  exact PySem.W.sub_K hF I2.ok.mod.kin J hs hfn hf (run_at (vs := [.ref a, y]) F hr.in1 I2.env0.in1 hx I2 (.cons rfl (.cons ry .nil)) h2) (hsl a u)
/-- a == y, a's own __eq__; y of the own class, or of a built-in type -/
def TyEq (K : PySem.W.Frag) (H : Hp) (C : Addr) (y : V) : Prop := (∃ b, y = .ref b ∧ InsAt H b C) ∨ ∃ (b : Addr) (zs : List V), y = .ref b ∧ SqT K H b zs ∧ PySem.W.subIn K (.type "tuple") (.ref C) = some false
def rOwnEq (K : PySem.W.Frag) (C : Addr) (sp : Sp) (E : XK) : R2 := fun x y H Q => ∃ a, x = .ref a ∧ InsAt H a C ∧ TyEq K H C y ∧ sp [.ref a, y] H (fun r H' => ∃ b : Bool, r = .bl b ∧ Q (.bl b) H') E
theorem op_ownEq (F : FnR X.prog X.w X.K X.mg X.base CX k f sp) (hr : Room k X.A) (hx : Passes CX X E) (hs : PySem.W.findIn X.K (.ref C) "__eq__" = some (some (.ref f))) (hf : PySem.W.isFn X.K (.ref f) = true) :
    OpR X (compareOp .Eq) (rOwnEq X.K C sp E) := by
  rintro pins s σ H x y u v Q I rx ry ⟨a, rfl, ha, ht, h⟩
  cases rx
  obtain ⟨ox, od, J⟩ := inst_of I ha
  obtain ⟨m, hF⟩ := I.fr
  show wpAny (model X.prog X.w) X.A (richCompare .Eq (.ref a) v) (EP X pins σ Q) X.xe s
  have fin : ∀ (u : Value) (s' : Shared), EP X pins σ (fun r H' => ∃ b : Bool, r = .bl b ∧ Q (.bl b) H') u s' → PySem.W.CmpBack (EP X pins σ Q) u s' := fun u s' q => by
    obtain ⟨w2, H', I', rv, b, rfl, q⟩ := q
    cases rv
    exact ⟨.bl b, H', I', rfl, q⟩
  have run := run_at (vs := [.ref a, y]) F hr I.env0 hx I (.cons rfl (.cons ry .nil)) h
  rcases ht with ⟨b, rfl, hb⟩ | ⟨b, zs, rfl, hq, hsub⟩
  · cases ry
    obtain ⟨oy, od', J'⟩ := inst_of I hb
    exact PySem.W.cmp_K (op := .Eq) (tb := .ref C) hr.units0 hF I.ok.mod.kin J J'.type (by simp [PySem.W.notFirst]) hs hf (thn run fin)
  · cases ry
    obtain ⟨its, rv, ⟨o, ho, hc, _⟩, hz⟩ := I.tuple hq
    refine PySem.W.cmp_K (op := .Eq) (tb := .type "tuple") hr.units0 hF I.ok.mod.kin J (fun A Q E s k q => wpAny_typeOf_ref (k _ _ ho) (by rw [hc]; exact q)) ?_ hs hf (thn run fin)
    unfold PySem.W.notFirst
    rw [hsub]
    simp
end
end Sho
set_option Elab.async false
set_option linter.all false
set_option maxRecDepth 100000
set_option maxHeartbeats 2000000
namespace Sh1
open PySem L2 Sho NdefX
section
variable {P : Program} {w : World} {K : PySem.W.Frag} {mg : Str → Option Value} {base : Heap}
theorem no_meth (a : V) {m : Str} (h : (m == ("_stays" : Str)) = false) : List.lookup m [(("_stays" : Str), a)] = none := by simp [List.lookup, h]
/-! ### _stay_of -/
def guest (xs : List Stay) (z : Str) : Option Stay := xs.find? fun x => x.1 == z
def spStayOf (C CU : Addr) : Sp := fun vs H Q E => ∃ (p : Addr) (z : Str) (xs : List Stay), vs = [.ref p, .str z] ∧ PartyAt C H p xs ∧ z.length ≤ 100000 ∧
  (∀ x t, guest xs z = some x → H t = some (.tup [.str x.1, .int x.2.1, .int x.2.2]) → Q (.ref t) H) ∧
  (guest xs z = none → ∀ (H' : Hp) (d : Addr), Same H H' → H d = none → H' d = some (.xd [(("name" : Str), .str z)]) → E (.ref CU) (some d) H')
theorem scPStayOf : FnScope ["self", "name", "stay"] ["self", "name"] (defScope sPStayOf) := ⟨rfl, rfl, rfl, by decide +kernel, rfl, by decide +kernel, by decide +kernel⟩
theorem dec_str {a b : Str} : decide (V.str a = V.str b) = (a == b) := by
  rw [Bool.eq_iff_iff]
  simp
theorem ok_stayOf {f C CU : Addr} {fd : FuncData} (F : Fun K "_stay_of" "Party._stay_of" sPStayOf f fd) (PC : PartyC K mg C) (EC : ErrC P K mg "UnknownGuest" "name" nfUnk CU) : FnOk P w K mg base (L2.CX P w) 3 f fd ["self", "name"] (spStayOf C CU) := by
  refine F.okX scPStayOf (fun vs H Q E h => ?_) (fun cdv A outer s H vs Q E hr h => ?_)
  · obtain ⟨p, z, xs, rfl, _⟩ := h
    rfl
  · obtain ⟨p, z, xs, rfl, ⟨dx, a, ws, h1, h2, h3⟩, hz, kOk, kBad⟩ := h
    have nd := scPStayOf.nd
    refine ⟨_, pss_cons (ps_for (passes_of rfl) rfl (pi_tup (pe_fld (pv 0) rfl)) (pg_name (i := 2) nd rfl (Or.inl rfl))
        (pss_one (ps_if (pt_cmpR op_eq (pe_ix ix_tup (pv 2) pe_int (fun _ _ => rfl)) (pv 1) (nomark _)) (pss_one (ps_ret (pv 2))) pss_nil)))
      (pss_one (ps_raise rfl (takes_of rfl rfl rfl rfl) (pmk_unk (k := 0) EC (hr.mono (by decide)) passL (by rfl) (pk_cons (pv 1) pk_nil) rfl rfl rfl))), ?_⟩
    refine ⟨_, rfl, p, C, dx, _, .ref a, rfl, h1, PC.cl, PC.nS, lk_stays _, a, rfl, ⟨_, SqT.of h2⟩, for_it walk_tup (fun i σ H2 => ∃ o, σ = [some (.ref p), some (.str z), o] ∧ H2 = H ∧ guest (xs.take i) z = none)
      ⟨none, rfl, rfl, rfl⟩ (fun i σ H2 _ ⟨_, _, e, _⟩ => by rw [e]; exact SqT.of h2) ?_ ?_⟩
    · rintro i y σ H2 H3 hi ⟨o, rfl, rfl, hb⟩ ⟨rfl, e2⟩
      obtain ⟨x, hx, t, rfl, ht⟩ := pair_get h3 e2
      refine ⟨_, rfl, t, _, 0, .str x.1, rfl, rfl, SqT.of ht, atI_nat (j := 0) rfl, _, rfl, rfl, _, rfl, ?_⟩
      rw [dec_str]
      have take1 : xs.take (i + 1) = xs.take i ++ [x] := by rw [List.take_add_one, hx]; rfl
      cases e : (x.1 == z) with
      | true =>
        refine iteT ⟨_, rfl, kOk x t ?_ ht⟩
        have q : guest (xs.take (i + 1)) z = some x := by
          unfold guest at hb ⊢
          rw [take1, List.find?_append, hb]
          simp [e]
        have q2 : xs = xs.take (i + 1) ++ xs.drop (i + 1) := (List.take_append_drop _ _).symm
        unfold guest at q ⊢
        rw [q2, List.find?_append, q]
        rfl
      | false =>
        refine iteF ⟨_, rfl, rfl, ?_⟩
        unfold guest at hb ⊢
        rw [take1, List.find?_append, hb]
        simp [e]
    · rintro σ H2 ⟨o, rfl, rfl, hb⟩
      rw [pair_len h3, List.take_length] at hb
      refine ⟨_, rfl, _, rfl, .inl ⟨z, rfl, hz⟩, fun d hd => kBad hb _ d (fun b o e => ?_) hd upd_same⟩
      rw [upd_ne (ne_of_none e hd)]
      exact e
/-! ### __len__, __bool__, __contains__, __getitem__ -/
def spPLen (C : Addr) : Sp := fun vs H Q _ => ∃ (p : Addr) (xs : List Stay), vs = [.ref p] ∧ PartyAt C H p xs ∧ Q (.int (xs.length : Nat)) H
theorem scPLen : FnScope ["self"] ["self"] (defScope sPLen) := ⟨rfl, rfl, rfl, by decide +kernel, rfl, by decide +kernel, by decide +kernel⟩
theorem ok_plen {f C : Addr} {fd : FuncData} (F : Fun K "__len__" "Party.__len__" sPLen f fd) (B : Blt mg) (PC : PartyC K mg C) : FnOk P w K mg base CX0 1 f fd ["self"] (spPLen C) := by
  refine F.ok scPLen (fun vs H Q E h => ?_) (fun cdv A outer s H vs Q E hr h => ?_)
  · obtain ⟨p, xs, rfl, _⟩ := h
    rfl
  · obtain ⟨p, xs, rfl, ⟨dx, a, ws, h1, h2, h3⟩, k⟩ := h
    refine ⟨_, pss_one (ps_ret (pe_callB call_len_seq (by rfl) B.len PySem.boot_len (pa_cons (pe_fld (pv 0) rfl) pa_nil))), ?_⟩
    refine ⟨_, rfl, p, C, dx, _, .ref a, rfl, h1, PC.cl, PC.nS, lk_stays _, a, ws, rfl, .inr (SqT.of h2), ?_⟩
    rw [pair_len h3]
    exact k
def spPBool (C : Addr) : Sp := fun vs H Q _ => ∃ (p : Addr) (xs : List Stay), vs = [.ref p] ∧ PartyAt C H p xs ∧ Q (.bl (!xs.isEmpty)) H
theorem scPBool : FnScope ["self"] ["self"] (defScope sPBool) := ⟨rfl, rfl, rfl, by decide +kernel, rfl, by decide +kernel, by decide +kernel⟩
theorem ok_pbool {f C : Addr} {fd : FuncData} (F : Fun K "__bool__" "Party.__bool__" sPBool f fd) (B : Blt mg) (PC : PartyC K mg C) : FnOk P w K mg base CX0 1 f fd ["self"] (spPBool C) := by
  refine F.ok scPBool (fun vs H Q E h => ?_) (fun cdv A outer s H vs Q E hr h => ?_)
  · obtain ⟨p, xs, rfl, _⟩ := h
    rfl
  · obtain ⟨p, xs, rfl, ⟨dx, a, ws, h1, h2, h3⟩, k⟩ := h
    refine ⟨_, pss_one (ps_ret (pe_callTy call_boolTup (by rfl) B.bool (by decide +kernel) (pa_cons (pe_fld (pv 0) rfl) pa_nil))), ?_⟩
    refine ⟨_, rfl, p, C, dx, _, .ref a, rfl, h1, PC.cl, PC.nS, lk_stays _, a, ws, rfl, SqT.of h2, ?_⟩
    have e : ws.isEmpty = xs.isEmpty := by
      have := pair_len h3
      cases ws <;> cases xs <;> simp at this <;> rfl
    rw [e]
    exact k
def named (xs : List Stay) (z : Str) : Bool := xs.any fun x => x.1 == z
def spPIn (C : Addr) : Sp := fun vs H Q _ => ∃ (p : Addr) (z : Str) (xs : List Stay), vs = [.ref p, .str z] ∧ PartyAt C H p xs ∧ xs.length ≤ sizeLine ∧ ∀ H', Same H H' → Q (.bl (named xs z)) H'
theorem scPIn : FnScope ["self", "name"] ["self", "name"] (defScope sPIn) := ⟨rfl, rfl, rfl, by decide +kernel, rfl, by decide +kernel, by decide +kernel⟩
theorem ok_pin {f C fN pN : Addr} {fd fdN : FuncData} (F : Fun K "__contains__" "Party.__contains__" sPIn f fd) (PC : PartyC K mg C) (GN : FnOk P w K mg base CX0 1 fN fdN ["self"] (spPNames C)) (hN : PropOf K C "names" pN fN) (bN : Binds K fdN ["self"] []) :
    FnOk P w K mg base CX0 3 f fd ["self", "name"] (spPIn C) := by
  refine F.ok scPIn (fun vs H Q E h => ?_) (fun cdv A outer s H vs Q E hr h => ?_)
  · obtain ⟨p, z, xs, rfl, _⟩ := h
    rfl
  · obtain ⟨p, z, xs, rfl, PA, hz, k⟩ := h
    refine ⟨_, pss_one (ps_ret (pe_cmpR op_in_seq (pv 1) (pe_prop (pv 0) PC.cl hN GN hr bN .nil pass0 rfl) rfl)), ?_⟩
    obtain ⟨dx, a, ws, h1, h2, h3⟩ := id PA
    refine ⟨_, rfl, _, rfl, p, dx, _, rfl, h1, p, xs, rfl, PA, hz, fun H' t s' nt e => ?_⟩
    refine ⟨t, _, rfl, .inr (SqT.of e), rfl, ?_, ?_⟩
    · have := flat_strs (xs.map fun x => x.1)
      rw [List.map_map] at this
      exact this
    · have e2 : inV (.str z) (xs.map fun x => V.str x.1) = named xs z := by
        have := inV_strs z (xs.map fun x => x.1)
        rw [List.map_map, List.any_map] at this
        exact this
      rw [if_neg Bool.false_ne_true, e2]
      exact k _ s'
def spPIx (C CU : Addr) : Sp := fun vs H Q E => ∃ (p : Addr) (z : Str) (xs : List Stay), vs = [.ref p, .str z] ∧ PartyAt C H p xs ∧ z.length ≤ 100000 ∧
  (∀ x, guest xs z = some x → ∀ H' t, Same H H' → H t = none → H' t = some (.tup [.int x.2.1, .int x.2.2]) → Q (.ref t) H') ∧
  (guest xs z = none → ∀ (H' : Hp) (d : Addr), Same H H' → H d = none → H' d = some (.xd [(("name" : Str), .str z)]) → E (.ref CU) (some d) H')
theorem scPIx : FnScope ["self", "name"] ["self", "name"] (defScope sPIx) := ⟨rfl, rfl, rfl, by decide +kernel, rfl, by decide +kernel, by decide +kernel⟩
theorem guest_at {C : Addr} {H : Hp} {p : Addr} {xs : List Stay} {z : Str} (h : PartyAt C H p xs) : ∀ {x : Stay}, guest xs z = some x → ∃ t, H t = some (.tup [.str x.1, .int x.2.1, .int x.2.2]) := by
  obtain ⟨dx, a, ws, _, _, h3⟩ := h
  intro x hx
  have key : ∀ {ws : List V} {xs : List Stay}, StaysV H ws xs → x ∈ xs → ∃ t, H t = some (.tup [.str x.1, .int x.2.1, .int x.2.2]) := by
    intro ws xs r
    induction r with
    | nil => intro hm; cases hm
    | cons h r ih =>
      intro hm
      rcases List.mem_cons.mp hm with rfl | hm
      · obtain ⟨t, _, ht⟩ := h
        exact ⟨t, ht⟩
      · exact ih hm
  exact key h3 (List.mem_of_find?_eq_some hx)
theorem ok_pix {f C CU fS : Addr} {fd fdS : FuncData} (F : Fun K "__getitem__" "Party.__getitem__" sPIx f fd) (PC : PartyC K mg C) (GS : FnOk P w K mg base (L2.CX P w) 3 fS fdS ["self", "name"] (spStayOf C CU)) (mS : Meth K C "_stay_of" fS) (bS : Binds K fdS ["self", "name"] []) :
    FnOk P w K mg base (L2.CX P w) 4 f fd ["self", "name"] (spPIx C CU) := by
  refine F.okX scPIx (fun vs H Q E h => ?_) (fun cdv A outer s H vs Q E hr h => ?_)
  · obtain ⟨p, z, xs, rfl, _⟩ := h
    rfl
  · obtain ⟨p, z, xs, rfl, PA, hz, kOk, kBad⟩ := h
    refine ⟨_, pss_one (ps_ret (pe_slice sl_tup (pe_meth (pv 0) PC.cl mS GS hr bS .nil (passes_call (takes_of rfl rfl rfl rfl) fun _ _ _ _ z => z) (pa_cons (pv 1) pa_nil)) (po_some pe_int) po_none)), ?_⟩
    obtain ⟨dx, a, ws, h1, h2, h3⟩ := id PA
    refine ⟨_, rfl, p, dx, _, rfl, h1, no_meth _ (by decide +kernel), _, rfl, p, z, xs, rfl, PA, hz, fun x t hx ht => ?_, kBad⟩
    refine ⟨1, rfl, t, _, rfl, SqT.of ht, ?_, fun q hq => ?_⟩
    · exact fun h => absurd h.1 (by show ¬ HT.sIx 3 0 (some 1) = 0; decide +kernel)
    · refine kOk x hx _ q (fun b o e => ?_) hq ?_
      · rw [upd_ne (ne_of_none e hq)]
        exact e
      · rw [upd_same]
        rfl
end
end Sh1
set_option Elab.async false
set_option linter.all false
/-! What is asked of an own error class without an own __init__. -/
namespace Sho
open PySem L2
structure ErrO (K : PySem.W.Frag) (mg : Str → Option Value) (x : Str) (C : Addr) : Prop where
  ex : PySem.W.excIn K C [.type "ValueError", .type "Exception", .type "BaseException", .type "object"] "ValueError.__new__" = true
  gm : mg x = some (.ref C)
  kp : PySem.W.keepIn K (.ref C) = true
  be : PySem.W.subIn K (.ref C) (.type "BaseException") = some true
  ty : PySem.W.typeIn K (.ref C) = some (.type "type")
  exm : PySem.W.exmOne K (.ref C) (.ref C) = some true
theorem cat_le {a b : Str} {n m : Nat} (ha : a.length ≤ n) (hb : b.length ≤ m) : (a ++ b).length ≤ n + m := by
  rw [PySem.Str.length_append]
  omega
end Sho
set_option Elab.async false
set_option linter.all false
set_option maxRecDepth 100000
set_option maxHeartbeats 4000000
/-! Party.__call__. -/
namespace Sh1
open PySem L2 Sho NdefX Shg
def rw3 (x : Stay) : Rw := ⟨x.1, x.2.1, x.2.2, []⟩
theorem above_len (x : Rw) : ∀ l : List Rw, (above x l).length ≤ l.length
  | [] => Nat.le_refl _
  | y :: l => by
    unfold above
    split
    · simp
    · exact Nat.le_trans (above_len x l) (by simp)
theorem lifted_len (rs : List Rw) (x : Rw) : (lifted rs x).length ≤ rs.length := by
  unfold lifted
  refine Nat.le_trans (List.length_filter_le ..) ?_
  rw [List.length_reverse, ← bot_length (rs := rs)]
  exact above_len x _
theorem rws_of {H : Hp} : ∀ {ws : List V} {xs : List Stay}, StaysV H ws xs → RwsV H ws (xs.map rw3)
  | _, _, .nil => .nil
  | _, _, .cons h r => .cons h (rws_of r)
section
variable {P : Program} {w : World} {K : PySem.W.Frag} {mg : Str → Option Value} {base : Heap}
def spCallP (C CU : Addr) (T : List (Addr × Str)) : Sp := fun vs H Q E => ∃ (p : Addr) (z : Str) (xs : List Stay), vs = [.ref p, .str z] ∧ PartyAt C H p xs ∧ Short xs ∧ xs.length ≤ 100 ∧ z.length ≤ 100000 ∧ LamX.Tabs T H ∧
  (∀ x, guest xs z = some x → ∀ H', Grows T H H' → Q (.int ((lifted (xs.map rw3) (rw3 x)).length : Nat)) H') ∧
  (guest xs z = none → ∀ (H' : Hp) (d : Addr), Same H H' → H d = none → H' d = some (.xd [(("name" : Str), .str z)]) → E (.ref CU) (some d) H')
theorem scCallP : FnScope ["self", "name"] ["self", "name"] (defScope sPCall) := ⟨rfl, rfl, rfl, by decide +kernel, rfl, by decide +kernel, by decide +kernel⟩
theorem rws_ok {xs : List Stay} (hs : Short xs) : ∀ r ∈ xs.map rw3, OkRw r := fun r hr => by
  obtain ⟨x, hx, rfl⟩ := List.mem_map.mp hr
  exact (hs x hx).2
theorem ok_callP {f C CU fS fL : Addr} {fd fdS fdL : FuncData} {T : List (Addr × Str)} (F : Fun K "__call__" "Party.__call__" sPCall f fd) (B : Shg.Blt mg) (PC : PartyC K mg C)
    (GS : FnOk P w K mg base (L2.CX P w) 3 fS fdS ["self", "name"] (spStayOf C CU)) (mS : Meth K C "_stay_of" fS) (bS : Binds K fdS ["self", "name"] [])
    (GL : FnOk P w K mg base CX0 6 fL fdL ["stays", "taker"] (spLifted K T)) (mL : mg "lifted_from" = some (.ref fL)) (kL : PySem.W.keepIn K (.ref fL) = true) (bL : Binds K fdL ["stays", "taker"] []) : FnOk P w K mg base (L2.CX P w) 8 f fd ["self", "name"] (spCallP C CU T) := by
  refine F.okX scCallP (fun vs H Q E h => ?_) (fun cdv A outer s H vs Q E hr h => ?_)
  · obtain ⟨p, z, xs, rfl, _⟩ := h
    rfl
  · obtain ⟨p, z, xs, rfl, PA, hs, hl, hz, hT, kOk, kBad⟩ := h
    have pass : Passes (L2.CX P w) (cxOf (L2.CX P w) P w K mg base ["self", "name"] "Party.__call__" (defScope sPCall) f cdv A outer s H E) E := passes_call (takes_of rfl rfl rfl rfl) fun _ _ _ _ z => z
    refine ⟨_, pss_one (ps_ret (pe_callB call_len_seq (by rfl) B.len PySem.boot_len (pa_cons (pe_call GL (hr.mono (by decide)) rfl mL kL bL .nil pass0
      (pa_cons (pe_fld (pv 0) rfl) (pa_cons (pe_meth (pv 0) PC.cl mS GS (hr.mono (by decide)) bS .nil pass (pa_cons (pv 1) pa_nil)) pa_nil))) pa_nil))), ?_⟩
    obtain ⟨dx, a, ws, h1, h2, h3⟩ := id PA
    refine ⟨_, rfl, p, C, dx, _, .ref a, rfl, h1, PC.cl, PC.nS, lk_stays _, _, rfl, p, dx, _, rfl, h1, no_meth _ (by decide +kernel), _, rfl, p, z, xs, rfl, PA, hz, fun x t hx ht => ?_, kBad⟩
    refine ⟨a, .ref t, ws, xs.map rw3, rw3 x, rfl, .inr (SqT.of h2), rws_of h3, ⟨t, rfl, ht⟩, List.mem_map.mpr ⟨x, List.mem_of_find?_eq_some hx, rfl⟩, rws_ok hs, by rw [List.length_map]; omega, hT, fun pl H' ys G e r => ⟨pl, _, rfl, .inl (SqL.of e), ?_⟩⟩
    rw [pair_len r]
    exact kOk x hx H' G
end
end Sh1
set_option Elab.async false
set_option linter.all false
set_option maxRecDepth 100000
set_option maxHeartbeats 2000000
/-! `for` within the body of a generator. -/
namespace PySem
open Sem (wp)
section
variable {M : Model} {A : Around} {R : GenEnd} {Y : Protocol} {n : Nat} {s₀ : Shared} {c : Code} {fs : List Frame} {s : Shared} {env : Env}
  {K : Flow → Sem Fin} {H : Value → Sem Fin} {gd : Bool → Bool} {lv : List Value → List Value}
theorem seg_For {target iter : Expr} {body orelse : List Stmt} {pos : Pos} (hfold : ∀ x, foldedSetIterable iter env x = pure x)
    (h : wpAny M (A.over c fs) (eval iter env) (fun x s1 => wpAny M (A.over c fs) (pyIter x) (fun it s2 => ∀ p, Seg M A R Y n s₀ (.forLoop target it body orelse env) (M.den (.forLoop target it body orelse env))
      (.ret (fun r => ((match r with | .ok f => (.pure f : Sem Flow) | .error e => .raise e).onRaise fun (x : Value) => do
        if (← field x 1) == Value.none then unsupported "frame.own-activation:exception-without-traceback"
        setFlight x env.frame).wrap K H gd lv) none (gd false) (lv []) c p [] :: fs) s2) (fun x s' => Seg M A R Y n s₀ c (H x) fs s') s1) (fun x s' => Seg M A R Y n s₀ c (H x) fs s') s) :
    Seg M A R Y n s₀ c ((exec (.For target iter body orelse pos) env).wrap K H gd lv) fs s := by
  rw [exec_For]
  rw [Sem.bind_eq_wrap', Sem.wrap_wrap]
  refine seg_wrap (wpAny_standAt ?_)
  rw [Sem.bind_eq_wrap', Sem.wrap_wrap]
  refine seg_wrap (wpAny_mono h (fun x s1 h1 => ?_) fun _ _ h' => h')
  rw [Sem.bind_eq_wrap', Sem.wrap_wrap]
  refine seg_wrap ?_
  rw [hfold x]
  refine wpAny_pure ?_
  rw [Sem.bind_eq_wrap', Sem.wrap_wrap]
  refine seg_wrap (wpAny_standAt ?_)
  rw [Sem.bind_eq_wrap', Sem.wrap_wrap]
  refine seg_wrap (wpAny_holding (wpAny_mono h1 (fun it s2 h2 => ?_) fun _ _ h' => h'))
  exact seg_call h2
end
section
variable {prog : Program} {w : World} {A : Around} {R : GenEnd} {Y : Protocol} {n : Nat} {s₀ : Shared} {fs : List Frame} {s : Shared} {env : Env}
theorem seg_forLoop {target : Expr} {it : Value} {body : List Stmt}
    (h : wpAny (model prog w) (A.over (.forLoop target it body [] env) fs) (pyNext it) (fun r s1 => match r with
      | none => Seg (model prog w) A R Y n s₀ (.block [] env) (leafOf (.ok .next)) fs s1
      | some v => wpAny (model prog w) (A.over (.forLoop target it body [] env) fs) (letOwnedTupleGo target it v) (fun _ s1' => wpAny (model prog w) (A.over (.forLoop target it body [] env) fs) (assign target env v) (fun _ s2 =>
          Seg (model prog w) A R Y n s₀ (.forLoop target it body [] env) ((execs body env).wrap (fun f => match f with
            | .next | .cont => .pure (.again (.forLoop target it body [] env))
            | .brk => .pure (.done .next)
            | .ret v => .pure (.done (.ret v))) (fun e => (do noteFrame e env; theTreesLotGoes e : Sem Unit).wrap (fun _ => .raise e) .raise id id) id id) fs s2)
        (fun x s' => Seg (model prog w) A R Y n s₀ (.forLoop target it body [] env) ((do noteFrame x env; theTreesLotGoes x : Sem Unit).wrap (fun _ => .raise x) .raise id id) fs s') s1')
        (fun x s' => Seg (model prog w) A R Y n s₀ (.forLoop target it body [] env) ((do noteFrame x env; theTreesLotGoes x : Sem Unit).wrap (fun _ => .raise x) .raise id id) fs s') s1)
      (fun x s' => Seg (model prog w) A R Y n s₀ (.forLoop target it body [] env) ((do noteFrame x env; theTreesLotGoes x : Sem Unit).wrap (fun _ => .raise x) .raise id id) fs s') s) :
    Seg (model prog w) A R Y n s₀ (.forLoop target it body [] env) ((model prog w).den (.forLoop target it body [] env)) fs s := by
  show Seg _ A R Y n s₀ _ ((forTurn target it body [] env).onRaise (fun x => do noteFrame x env; theTreesLotGoes x)) fs s
  unfold forTurn
  have ce : ∀ e : Value, (do noteFrame e env; theTreesLotGoes e : Sem Unit).bind (fun _ => (.raise e : Sem Fin)) = (do noteFrame e env; theTreesLotGoes e : Sem Unit).wrap (fun _ => .raise e) .raise id id := fun e => Sem.bind_eq_wrap _ _
  rw [Sem.onRaise_eq_wrap, Sem.bind_eq_wrap', Sem.wrap_wrap]
  refine seg_wrap (wpAny_standAt ?_)
  rw [Sem.bind_eq_wrap', Sem.wrap_wrap]
  refine seg_wrap (wpAny_onRaise (wpAny_mono h (fun r s1 h1 => ?_) fun x s' hx => wpAny_standAt ?_))
  · cases r with
    | none => exact seg_again rfl h1
    | some v =>
      dsimp only
      rw [Sem.bind_eq_wrap', Sem.wrap_wrap]
      refine seg_wrap (wpAny_mono h1 (fun _ s1' h1' => ?_) fun x s' hx => ?_)
      · rw [Sem.bind_eq_wrap', Sem.wrap_wrap]
        refine seg_wrap (wpAny_mono h1' (fun _ s2 h2 => ?_) fun x s' hx => ?_)
        · rw [Sem.bind_eq_wrap', Sem.wrap_wrap]
          rw [Sem.wrap_congr (execs body env) _ _ (K' := fun f => match f with
            | .next | .cont => .pure (.again (.forLoop target it body [] env))
            | .brk => .pure (.done .next)
            | .ret v => .pure (.done (.ret v))) (H' := (fun e => (do noteFrame e env; theTreesLotGoes e : Sem Unit).wrap (fun _ => .raise e) .raise id id))
            (fun f => by cases f <;> rfl) (fun e => by exact ce e)]
          exact h2
        · show Seg _ _ _ _ _ _ _ ((do noteFrame x env; theTreesLotGoes x : Sem Unit).bind (fun _ => (.raise x : Sem Fin))) _ _
          rw [ce]
          exact hx
      · show Seg _ _ _ _ _ _ _ ((do noteFrame x env; theTreesLotGoes x : Sem Unit).bind (fun _ => (.raise x : Sem Fin))) _ _
        rw [ce]
        exact hx
  · show Seg _ _ _ _ _ _ _ ((do noteFrame x env; theTreesLotGoes x : Sem Unit).bind (fun _ => (.raise x : Sem Fin))) _ _
    rw [ce]
    exact hx
end
end PySem
namespace L2
open PySem PySem.Spec PyProof.Rows
section
variable {X : Cx} {tg : Expr}
def tGFor (wi : TI) (g : TG) (tb : TGn) : TGn := fun D ys σ H => wi σ H fun J H1 => ∃ W : Nat → Nat → List V → St → Hp → Prop, (∃ m, W 0 m ys σ H1) ∧ ∀ i m ys σ H, W i m ys σ H →
  (J.stop i H ∧ D.nx ys σ H) ∨ (J.go i H ∧ ∃ N : List V → St → Hp → Prop, (∀ ys' σ' H', N ys' σ' H' → ∃ m', m' < m ∧ W (i + 1) m' ys' σ' H') ∧ ∀ x H', J.yld i H x H' → g x σ H' fun σ2 H2 => tb { D with nx := N, ct := N, bk := D.nx } ys σ2 H2)
/-- for within the body of a generator -/
theorem gs_for {iter : Expr} {body : List Stmt} {wi : TI} {g : TG} {tb : TGn} {pos : Pos} (hp : PassesOwn (model X.prog X.w) X.A X.env X.xe) (hc : X.calm = true) (hi : PI X tg iter wi) (hg : PG X tg g) (hb : GSs X body tb)
    (hs : ∀ x, foldedSetIterable iter X.env x = pure x := by intro _; rfl) : GS X (.For tg iter body [] pos) (tGFor wi g tb) := by
  refine ⟨fun A S ip R n ys s₀ c fs K Jx gd lv s σ H D gc hn k hI ht => ?_⟩
  obtain ⟨acc, cc, r, I⟩ := hI
  refine seg_For hs ?_
  rw [gc.over]
  refine wpAny_mono (hi.run _ s σ H _ I ht) (fun v s1 h1 => wpAny_mono h1 (fun itv s2 h2 p => ?_) fun x s' hx => k.exc n s₀ x s' hx) fun x s' hx => k.exc n s₀ x s' hx
  obtain ⟨it, fp, tn, J, H2, e, I2, T, st2, f2, W, ⟨m0, w0⟩, turn⟩ := h2
  subst e
  have stat : ∀ {H' : Hp} {acc' : Array Value} {c' : Nat}, (∀ b ∈ fp, H' b = none) → ∀ b ∈ fp, FpOk X ((S, lstObj acc' c') :: ip) H' b := fun {H' acc' c'} hn b hb => by
    obtain ⟨_, f1, f3, f4, f5, f6⟩ := f2 b hb
    refine ⟨hn b hb, f1, f3, f4, f5, fun q hq => ?_⟩
    rcases List.mem_append.mp hq with hq | hq
    · exact f6 q (List.mem_append_left _ hq)
    · rcases List.mem_cons.mp hq with rfl | hq
      · exact f6 (S, lstObj acc cc) (List.mem_append_right _ List.mem_cons_self)
      · exact f6 q (List.mem_append_right _ (List.mem_cons_of_mem _ hq))
  have neS : ∀ b ∈ fp, b ≠ S := fun b hb z => by
    obtain ⟨_, _, _, _, _, f6⟩ := f2 b hb
    exact f6 (S, lstObj acc cc) (List.mem_append_right _ List.mem_cons_self) z.symm
  have gl := fun (ip' : List (Addr × Obj)) (hip : ∀ p ∈ ip', p.1 ≠ S) (kk : Result → Sem PySem.Fin) => gc_loop (ip := ip') (k := kk) (c' := .forLoop tg (.ref it) body [] X.env) (l := lv []) (kp := []) (p := p) ⟨gc.pn, hip, gc.apart, gc.over, gc.split, gc.guard, gc.gd⟩ rfl rfl
  have loop : ∀ (m i n : Nat) (ys : List V) (s₀ s : Shared) (σ : St) (H : Hp), n + ys.length = sizeLine → W i m ys σ H → GI X S ip ys σ H s → tn i s.heap → (∀ b ∈ fp, H b = none) →
      Seg (model X.prog X.w) A R (GY X S) n s₀ (.forLoop tg (.ref it) body [] X.env) ((model X.prog X.w).den (.forLoop tg (.ref it) body [] X.env))
        (.ret (fun r => ((match r with | .ok f => (.pure f : Sem Flow) | .error e => .raise e).onRaise (cameBack X.env)).wrap K Jx gd lv) none (gd false) (lv []) c p [] :: fs) s := by
    intro m
    induction m using Nat.strongRecOn with
    | ind m ih =>
      intro i n ys s₀ s σ H hn w hI st fr
      have ee : ∀ (n : Nat) (s₀ : Shared) (x : Value) (s' : Shared), X.xe x s' → Seg (model X.prog X.w) A R (GY X S) n s₀ (.forLoop tg (.ref it) body [] X.env)
          ((do noteFrame x X.env; theTreesLotGoes x : Sem Unit).wrap (fun _ => .raise x) .raise id id)
          (.ret (fun r => ((match r with | .ok f => (.pure f : Sem Flow) | .error e => .raise e).onRaise (cameBack X.env)).wrap K Jx gd lv) none (gd false) (lv []) c p [] :: fs) s' := fun n s₀ x s' hx => by
        refine seg_wrap ?_
        rw [(gl ip gc.ip _).over]
        refine wpAny_bind (wpAny_mono (hp x s' hx) (fun _ s'' hcb => wpAny_theTreesLotGoes ?_) fun y s'' hcb => ?_)
        · exact seg_leaf (.error x) (seg_cameBack gc k hcb)
        · exact seg_leaf (.error y) (seg_cameBack gc k hcb)
      refine seg_forLoop ?_
      rw [(gl ip gc.ip _).over]
      obtain ⟨acc, cc, r, I⟩ := hI
      rcases turn i m ys σ H w with ⟨stop, qn⟩ | ⟨go, N, hN, step⟩
      · refine wpAny_mono (T.done X rfl rfl rfl hc i _ s σ H X.xe I (stat fr) st stop) (fun r' s4 ⟨hr, I4⟩ => ?_) fun x s' hx => ee n s₀ x s' hx
        subst hr
        exact seg_leaf (.ok .next) (k.ok n ys s₀ s4 .next hn ⟨σ, H, ⟨acc, cc, r, I4⟩, qn⟩)
      · refine wpAny_mono (T.item X rfl rfl rfl hc i _ s σ H X.xe I (stat fr) st go) (fun r' s4 ⟨u, hr, h4⟩ => ?_) fun x s' hx => ee n s₀ x s' hx
        subst hr
        refine wpAny_mono h4 (fun _ s5 ⟨x, H5, I5, r5, y5, st5, fr5⟩ => ?_) fun x s' hx => ee n s₀ x s' hx
        have I5' := I5.pinned (stat fr5) (T.obj _ _ st5)
        refine wpAny_mono (hg.run _ s5 σ H5 x u _ I5' r5 (step x H5 y5)) (fun _ s6 ⟨σ6, H6, I6, q6⟩ => ?_) fun x s' hx => ee n s₀ x s' hx
        have hip' : ∀ p ∈ ip ++ pinsAt fp s5.heap, p.1 ≠ S := fun q hq => by
          rcases List.mem_append.mp hq with hq | hq
          · exact gc.ip q hq
          · exact neS _ (of_pinsAt hq).1
        have again : ∀ {n' : Nat} {ys' : List V} {s₀' s3 : Shared} {σ3 : St} {H3 : Hp}, n' + ys'.length = sizeLine → GI X S (ip ++ pinsAt fp s5.heap) ys' σ3 H3 s3 → N ys' σ3 H3 →
            Seg (model X.prog X.w) A R (GY X S) n' s₀' (.forLoop tg (.ref it) body [] X.env) (.pure (.again (.forLoop tg (.ref it) body [] X.env)))
              (.ret (fun r => ((match r with | .ok f => (.pure f : Sem Flow) | .error e => .raise e).onRaise (cameBack X.env)).wrap K Jx gd lv) none (gd false) (lv []) c p [] :: fs) s3 := fun {n' ys' s₀' s3 σ3 H3} hn' I3 n3 => by
          obtain ⟨acc3, c3, r3, I3⟩ := I3
          obtain ⟨m', hm, w3⟩ := hN ys' σ3 H3 n3
          refine seg_again rfl (ih m' hm (i + 1) n' ys' s₀' s3 σ3 H3 hn' w3 ⟨acc3, c3, r3, I3.unpinned (pins := (S, lstObj acc3 c3) :: ip)⟩ (T.keep _ _ _ st5 fun b hb o e => (I3.pin (b, o) (List.mem_append_right _ (List.mem_cons_of_mem _ (List.mem_append_right _ (mem_pinsAt hb e))))).1) fun b hb => ?_)
          obtain ⟨o, e, d⟩ := T.obj _ _ st5 b hb
          exact (I3.pin (b, o) (List.mem_append_right _ (List.mem_cons_of_mem _ (List.mem_append_right _ (mem_pinsAt hb e))))).2.1
        have weak : ∀ {ys' : List V} {σ3 : St} {H3 : Hp} {s3 : Shared}, GI X S (ip ++ pinsAt fp s5.heap) ys' σ3 H3 s3 → GI X S ip ys' σ3 H3 s3 := fun ⟨acc3, c3, r3, I3⟩ => ⟨acc3, c3, r3, I3.unpinned (pins := (S, lstObj acc3 c3) :: ip)⟩
        refine hb.run A S (ip ++ pinsAt fp s5.heap) R n ys s₀ _ _ _ _ id id s6 σ6 H6 { D with nx := N, ct := N, bk := D.nx } (gl _ hip' _) hn ⟨fun n' ys' s₀' s3 f hn' hs => ?_, fun n' s₀' x s3 hx => ee n' s₀' x s3 hx⟩ ⟨acc, cc, r, I6⟩ q6
        cases f with
        | next =>
          obtain ⟨σ3, H3, I3, n3⟩ := hs
          exact again hn' I3 n3
        | cont =>
          obtain ⟨σ3, H3, I3, n3⟩ := hs
          exact again hn' I3 n3
        | brk =>
          obtain ⟨σ3, H3, I3, q3⟩ := hs
          exact seg_leaf (.ok .next) (k.ok n' ys' s₀' s3 .next hn' ⟨σ3, H3, weak I3, q3⟩)
        | ret v =>
          obtain ⟨x3, σ3, H3, I3, r3, q3⟩ := hs
          exact seg_leaf (.ok (.ret v)) (k.ok n' ys' s₀' s3 (.ret v) hn' ⟨x3, σ3, H3, weak I3, r3, q3⟩)
  exact loop m0 0 n ys s₀ s2 σ H2 hn w0 ⟨acc, cc, r, I2⟩ st2 fun b hb => (f2 b hb).1
/-- one lemma for loops within generators -/
theorem gloop_any {J : It} {n : Nat} {G : Hp → Prop} {Y : Nat → Hp → V → Hp → Prop} (w : Walk J n G Y) {ys0 : List V} {σ0 : St} {H0 : Hp} {Qd : List V → St → Hp → Prop} {B : List V → St → V → Hp → (List V → St → Hp → Prop) → Prop} (Pv : Nat → List V → St → Hp → Prop) (h0 : Pv 0 ys0 σ0 H0)
    (hG : ∀ i ys σ H, i ≤ n → Pv i ys σ H → G H) (hs : ∀ i x ys σ H H', i < n → Pv i ys σ H → Y i H x H' → B ys σ x H' (Pv (i + 1))) (hd : ∀ ys σ H, Pv n ys σ H → Qd ys σ H) :
    ∃ W : Nat → Nat → List V → St → Hp → Prop, (∃ m, W 0 m ys0 σ0 H0) ∧ ∀ i m ys σ H, W i m ys σ H →
      (J.stop i H ∧ Qd ys σ H) ∨ (J.go i H ∧ ∃ N : List V → St → Hp → Prop, (∀ ys' σ' H', N ys' σ' H' → ∃ m', m' < m ∧ W (i + 1) m' ys' σ' H') ∧ ∀ x H', J.yld i H x H' → B ys σ x H' N) := by
  refine ⟨fun i m ys σ H => m = n - i ∧ i ≤ n ∧ Pv i ys σ H, ⟨n, (Nat.sub_zero n).symm, Nat.zero_le _, h0⟩, ?_⟩
  rintro i m ys σ H ⟨rfl, hi, p⟩
  have q := hG i ys σ H hi p
  rcases Nat.lt_or_ge i n with hlt | hge
  · exact .inr ⟨w.goes i H hlt q, Pv (i + 1), fun ys' σ' H' p' => ⟨n - (i + 1), by omega, rfl, hlt, p'⟩, fun x H' y => hs i x ys σ H H' hlt p (w.yields i H x H' hlt q y)⟩
  · obtain rfl : i = n := by omega
    exact .inl ⟨w.stops H q, hd ys σ H p⟩
end
end L2
set_option Elab.async false
set_option linter.all false
set_option maxRecDepth 100000
/-! One lemma for the loops of all comprehensions. -/
namespace Shg
open PySem L2
theorem loop_any {J : It} {n : Nat} {G : Hp → Prop} {Y : Nat → Hp → V → Hp → Prop} (w : Walk J n G Y) {H0 : Hp} {Qd : Hp → Prop} {B : V → Hp → (Hp → Prop) → Prop} (Pv : Nat → Hp → Prop) (h0 : Pv 0 H0) (hG : ∀ i H, i ≤ n → Pv i H → G H)
    (hs : ∀ i x H H', i < n → Pv i H → Y i H x H' → B x H' (Pv (i + 1))) (hd : ∀ H, Pv n H → Qd H) :
    ∃ W : Nat → Nat → Hp → Prop, (∃ m, W 0 m H0) ∧ ∀ i m H, W i m H →
      (J.stop i H ∧ Qd H) ∨ (J.go i H ∧ ∃ Nx : Hp → Prop, (∀ H', Nx H' → ∃ m', m' < m ∧ W (i + 1) m' H') ∧ ∀ x H', J.yld i H x H' → B x H' Nx) := by
  refine ⟨fun i m H => m = n - i ∧ i ≤ n ∧ Pv i H, ⟨n, (Nat.sub_zero n).symm, Nat.zero_le _, h0⟩, ?_⟩
  rintro i m H ⟨rfl, hi, p⟩
  have q := hG i H hi p
  rcases Nat.lt_or_ge i n with hlt | hge
  · exact .inr ⟨w.goes i H hlt q, Pv (i + 1), fun H' p' => ⟨n - (i + 1), by omega, rfl, hlt, p'⟩, fun x H' y => hs i x H H' hlt p (w.yields i H x H' hlt q y)⟩
  · obtain rfl : i = n := by omega
    exact .inl ⟨w.stops H q, hd H p⟩
end Shg
set_option Elab.async false
set_option linter.all false
set_option maxRecDepth 100000
set_option maxHeartbeats 4000000
/-! Party.crossings: a generator. -/
namespace Sh1
open PySem L2 Sho NdefX Shg
abbrev qCross : Str := "Party.crossings.<locals>.<lambda>"
/-- the takers in the order of going, who lie higher first -/
def takers (rs : List Rw) : List Rw := sortV ((bot rs).reverse.map Rw.go) (bot rs).reverse
def crossed (rs : List Rw) : List (Str × Str) := (takers rs).flatMap fun x => (lifted rs x).map fun y => (x.nm, y.nm)
def PairAt (H : Hp) (v : V) (q : Str × Str) : Prop := ∃ t, v = .ref t ∧ H t = some (.tup [.str q.1, .str q.2])
theorem flat_le {α β : Type} {f : α → List β} {n : Nat} (h : ∀ x, (f x).length ≤ n) : ∀ l : List α, (l.flatMap f).length ≤ l.length * n
  | [] => by simp
  | x :: l => by
    rw [List.flatMap_cons, List.length_append, List.length_cons, Nat.succ_mul]
    have := flat_le h l
    have := h x
    omega
theorem takers_length (rs : List Rw) : (takers rs).length = rs.length := by
  unfold takers sortV
  rw [List.length_map, sortK_length, List.length_zip, List.length_map, Nat.min_self, List.length_reverse, bot_length]
theorem takers_mem {rs : List Rw} {r : Rw} (h : r ∈ takers rs) : r ∈ rs := by
  unfold takers sortV at h
  obtain ⟨x, hx, rfl⟩ := List.mem_map.mp h
  exact bot_mem.mp (List.mem_reverse.mp (List.of_mem_zip (sortK_mem.mp hx)).2)
theorem sort_paired {H : Hp} {ws : List V} {rs : List Rw} (f : Rw → Int) (h : RwsV H ws rs) : RwsV H (sortV (rs.map f) ws) (sortV (rs.map f) rs) := by
  have hl := pair_len h
  obtain ⟨e2, e1⟩ := zip_self_snd hl
  have a : sortV (rs.map f) ws = (sortV (rs.map f) (ws.zip rs)).map (·.1) := by
    rw [← sortV_map, e1]
  have b : sortV (rs.map f) rs = (sortV (rs.map f) (ws.zip rs)).map (·.2) := by
    rw [← sortV_map, e2]
  rw [a, b]
  refine paired_of fun q hq => ?_
  unfold sortV at hq
  obtain ⟨x, hx, rfl⟩ := List.mem_map.mp hq
  have := sortK_mem.mp hx
  exact zip_paired h _ (List.of_mem_zip this).2
theorem PairAt.ext {H H' : Hp} (e : LamX.ExtN H H') {v : V} {q : Str × Str} (h : PairAt H v q) : PairAt H' v q := by
  obtain ⟨t, rfl, ht⟩ := h
  exact ⟨t, rfl, e _ _ ht fun _ z => nomatch z⟩
section
variable {P : Program} {w : World} {K : PySem.W.Frag} {mg : Str → Option Value} {base : Heap}
def spCross (C : Addr) (T : List (Addr × Str)) : SpG := fun vs H cont _ => ∃ (p : Addr) (xs : List Stay), vs = [.ref p] ∧ PartyAt C H p xs ∧ Short xs ∧ xs.length ≤ 100 ∧ LamX.Tabs T H ∧
  ∀ H' out, Grows T H H' → PySem.Paired (PairAt H') out (crossed (xs.map rw3)) → cont out H'
theorem scCross : GScope ["self", "from_top", "taker", "stay"] ["self"] (defScope sPCross) := ⟨rfl, rfl, rfl, by decide +kernel, rfl, by decide +kernel, by decide +kernel⟩
theorem ok_cross {f c TP C fB fL : Addr} {fd fdB fdL : FuncData} {T : List (Addr × Str)} (F : Shg.FunL K "crossings" "Party.crossings" sPCross f c fd) (B : Shg.Blt mg) (PC : PartyC K mg C) (TB : LamX.TabB base mg c TP) (hm : (TP, qCross) ∈ T) (hu : ∀ p ∈ T, p.1 = TP → p.2 = qCross)
    (GB : FnOk P w K mg base CX0 5 fB fdB ["stays"] (spBottom K T)) (mB : mg "bottom_up" = some (.ref fB)) (kB : PySem.W.keepIn K (.ref fB) = true) (bB : Binds K fdB ["stays"] [])
    (GL : FnOk P w K mg base CX0 6 fL fdL ["stays", "taker"] (spLifted K T)) (mL : mg "lifted_from" = some (.ref fL)) (kL : PySem.W.keepIn K (.ref fL) = true) (bL : Binds K fdL ["stays", "taker"] []) :
    GFn P w K mg base 8 f fd ["self"] (spCross C T) := by
  obtain ⟨oc, od, kV, doc, pm, an, ct, osl, rfl, lk, hcd⟩ := F.ex
  refine gfn_of lk hcd scCross (fun vs H Q E h => ?_) fun A outer s H vs Q E pn hr h => ?_
  · obtain ⟨p, xs, rfl, _⟩ := h
    rfl
  · obtain ⟨p, xs, rfl, PA, hsh, hlen, hT, k⟩ := h
    have nd := scCross.nd
    refine ⟨_, gss_cons (gs_ps (ps_set (i := 1) nd rfl (Or.inl rfl) (pe_revL (pe_call GB (hr.mono (by decide)) rfl mB kB bB .nil pass0 (pa_cons (pe_fld (pv 0) rfl) pa_nil)))))
      (gss_cons (gs_for owns_gcx rfl (pi_list (pe_callBK (cr_sortedLam (k := 1) (hr.mono (by decide))) (by rfl) B.sorted (by decide +kernel) (pa_cons (pv 1) pa_nil) (pk_cons (pe_lam TB rfl hm hu (Shg.free_by (os := (defScope sPCross).names) (by decide +kernel))) pk_nil))) (pg_name (i := 2) nd rfl (Or.inl rfl))
        (gss_cons (gs_for owns_gcx rfl (pi_list (pe_call GL (hr.mono (by decide)) rfl mL kL bL .nil pass0 (pa_cons (pe_fld (pv 0) rfl) (pa_cons (pv 2) pa_nil)))) (pg_name (i := 3) nd rfl (Or.inl rfl))
          (gss_cons (gs_yield (pe_tup (pa_cons (pe_ix ix_tup (pv 2) pe_int (fun _ _ => rfl)) (pa_cons (pe_ix ix_tup (pv 3) pe_int (fun _ _ => rfl)) pa_nil)))) gss_nil)) gss_nil)) gss_nil), ?_⟩
    obtain ⟨dx, a, ws, h1, h2, h3⟩ := id PA
    generalize hrs : xs.map rw3 = rs at k
    have hw : RwsV H ws rs := by rw [← hrs]; exact rws_of h3
    have lrs : rs.length ≤ 100 := by rw [← hrs, List.length_map]; exact hlen
    have hok : ∀ r ∈ rs, OkRw r := fun r hr => by
      rw [← hrs] at hr
      obtain ⟨x, hx, rfl⟩ := List.mem_map.mp hr
      exact (hsh x hx).2
    refine ⟨_, rfl, p, C, dx, _, .ref a, rfl, h1, PC.cl, PC.nS, lk_stays _, a, ws, rs.map Rw.come, rfl, .inr (SqT.of h2), ?_, ?_, hT, fun pb H1 G1 e1 => ⟨pb, _, rfl, SqL.of e1, fun pt hpt => ?_⟩⟩
    · rw [List.length_map, pair_len hw]
    · intro i y n hy hn
      obtain ⟨r, hr', t, rfl, ht⟩ := pair_get hw hy
      rw [List.getElem?_map, hr'] at hn
      exact ⟨t, _, rfl, ht, congrArg (Option.map V.int) hn⟩
    · have hb1 : RwsV H1 (sortV (rs.map Rw.come) ws).reverse (bot rs).reverse := paired_rev (bot_paired (hw.ext G1.ext))
      have s2 : Same H1 (upd H1 pt (.lst (sortV (rs.map Rw.come) ws).reverse)) := same_upd hpt
      have e2 : (upd H1 pt (.lst (sortV (rs.map Rw.come) ws).reverse)) pt = some (.lst (sortV (rs.map Rw.come) ws).reverse) := upd_same
      have G2 := G1.trans (Sh1.Grows.of s2)
      have hb2 : RwsV (upd H1 pt (.lst (sortV (rs.map Rw.come) ws).reverse)) (sortV (rs.map Rw.come) ws).reverse (bot rs).reverse := pair_mono (fun _ _ k => RwAt.same s2 k) hb1
      generalize (sortV (rs.map Rw.come) ws).reverse = ts at s2 e2 G2 hb2 ⊢
      generalize upd H1 pt (.lst ts) = H2 at s2 e2 G2 hb2 ⊢
      refine ⟨_, rfl, G2.tab hT, fun f0 c0 H3 G3 n0 l0 => ⟨pt, f0, _, ts, (bot rs).reverse.map Rw.go, rfl, rfl, .inl (SqL.of (G3.ext _ _ e2 fun _ z => nomatch z)), l0, ?_, fun A' outer' s' i v n u hr' e0 hv hn ru => ?_, fun ps hps => ?_⟩⟩
      · rw [List.length_map, pair_len hb2]
      · obtain ⟨r, hr1, t, rfl, ht⟩ := pair_get hb2 hv
        rw [List.getElem?_map, hr1] at hn
        exact key_item (j := 2) l0 (nscope_by (sc := Shg.scL [("stay", .local)]) (by decide +kernel)) rfl (fun _ _ _ => rfl) (fun A outer s => pe_ix ix_tup (pv 0) pe_int (fun _ _ => rfl)) hr' e0 ⟨t, _, rfl, G3.ext _ _ ht (fun _ z => nomatch z), congrArg (Option.map V.int) hn⟩ ru
      · have hb4 : RwsV (upd H3 ps (.lst (sortV ((bot rs).reverse.map Rw.go) ts))) (sortV ((bot rs).reverse.map Rw.go) ts) (takers rs) := pair_mono (fun _ _ k => RwAt.same (same_upd hps) k) (sort_paired Rw.go (hb2.ext G3.ext))
        have e4 : (upd H3 ps (.lst (sortV ((bot rs).reverse.map Rw.go) ts))) ps = some (.lst (sortV ((bot rs).reverse.map Rw.go) ts)) := upd_same
        have G4 := (G2.trans G3).trans (Grows.upd hps (o := .lst (sortV ((bot rs).reverse.map Rw.go) ts)))
        generalize sortV ((bot rs).reverse.map Rw.go) ts = zs at hb4 e4 G4 ⊢
        generalize upd H3 ps (.lst zs) = H4 at hb4 e4 G4 ⊢
        have lz : zs.length = rs.length := by rw [pair_len hb4, takers_length]
        have big : 20000 < sizeLine := by decide
        have hle : ∀ l : List Rw, l.length ≤ 100 → (l.flatMap fun x => (lifted rs x).map fun y => (x.nm, y.nm)).length ≤ 10000 := fun l hl => by
          have := flat_le (f := fun x : Rw => (lifted rs x).map fun y => (x.nm, y.nm)) (n := 100) (fun x => by rw [List.length_map]; exact Nat.le_trans (lifted_len rs x) lrs) l
          have := Nat.mul_le_mul_right 100 hl
          omega
        refine ⟨ps, rfl, ⟨_, SqL.of e4⟩, gloop_any (walk_list (K := K) (a := ps) (xs := zs)) (fun i ys σ H' => Grows T H4 H' ∧ (∃ o2 o3, σ = [some (.ref p), some (.ref pt), o2, o3]) ∧ PySem.Paired (PairAt H') ys (((takers rs).take i).flatMap fun x => (lifted rs x).map fun y => (x.nm, y.nm)))
          ⟨Grows.rfl' _, ⟨none, none, rfl⟩, .nil⟩ (fun i ys σ H' _ q => SqL.of (q.1.ext _ _ e4 fun _ z => nomatch z)) (fun i v ys σ H5 H6 hi s5 yy => ?_) fun ys σ H5 s5 => ?_⟩
        · obtain ⟨G5, ⟨o2, o3, rfl⟩, q5⟩ := s5
          obtain ⟨rfl, e5⟩ := yy
          obtain ⟨x, hx, t, rfl, ht⟩ := pair_get hb4 e5
          have G05 := G4.trans G5
          have ht6 := G5.ext _ _ ht fun _ z => nomatch z
          have hxr : x ∈ rs := takers_mem (List.mem_of_getElem? hx)
          have ex : (takers rs).take (i + 1) = (takers rs).take i ++ [x] := by
            rw [List.take_succ, hx]
            rfl
          refine ⟨_, rfl, p, C, dx, _, .ref a, rfl, G05.ext _ _ h1 (fun _ z => nomatch z), PC.cl, PC.nS, lk_stays _, _, rfl, a, .ref t, ws, rs, x, rfl, .inr (SqT.of (G05.ext _ _ h2 fun _ z => nomatch z)), hw.ext G05.ext, ⟨t, rfl, ht6⟩, hxr, hok, Nat.le_trans lrs (by decide), G05.tab hT, fun pl H7 us G7 e7 r7 => ?_⟩
          have lu := pair_len r7
          refine ⟨pl, rfl, ⟨_, SqL.of e7⟩, gloop_any (walk_list (K := K) (a := pl) (xs := us)) (fun j ys' σ' H' => Grows T H7 H' ∧ (∃ o3, σ' = [some (.ref p), some (.ref pt), some (.ref t), o3]) ∧ PySem.Paired (PairAt H') ys' ((((takers rs).take i).flatMap fun x => (lifted rs x).map fun y => (x.nm, y.nm)) ++ ((lifted rs x).take j).map fun y => (x.nm, y.nm)))
            ⟨Grows.rfl' _, ⟨o3, rfl⟩, by rw [List.take_zero, List.map_nil, List.append_nil]; exact pair_mono (fun _ _ k => PairAt.ext G7.ext k) q5⟩ (fun j ys' σ' H' _ q => SqL.of (q.1.ext _ _ e7 fun _ z => nomatch z)) (fun j v' ys' σ' H8 H9 hj s8 yy => ?_) fun ys' σ' H8 s8 => ?_⟩
          · obtain ⟨G8, ⟨o3', rfl⟩, q8⟩ := s8
            obtain ⟨rfl, e8⟩ := yy
            obtain ⟨y, hy, t', rfl, ht'⟩ := pair_get r7 e8
            have ht9 := (G7.trans G8).ext _ _ ht6 fun _ z => nomatch z
            have hy9 := G8.ext _ _ ht' fun _ z => nomatch z
            refine ⟨?_, _, rfl, t, _, 0, .str x.nm, rfl, rfl, SqT.of ht9, atI_nat (j := 0) rfl, _, rfl, t', _, 0, .str y.nm, rfl, rfl, SqT.of hy9, atI_nat (j := 0) rfl, by show 2 ≤ sizeLine; decide, fun q hq => ?_⟩
            · rw [pair_len q8, List.length_append, List.length_map, List.length_take]
              have a1 := hle ((takers rs).take i) (by rw [List.length_take, takers_length]; omega)
              have a2 := lifted_len rs x
              omega
            · refine ⟨G8.trans (Grows.upd hq), ⟨_, rfl⟩, ?_⟩
              have et : ((lifted rs x).take (j + 1)).map (fun y => (x.nm, y.nm)) = ((lifted rs x).take j).map (fun y => (x.nm, y.nm)) ++ [(x.nm, y.nm)] := by
                rw [List.take_succ, hy]
                simp
              rw [et, ← List.append_assoc]
              exact pair_app (pair_mono (fun _ _ k => PairAt.ext (Grows.upd (T := T) hq).ext k) q8) (.cons ⟨q, rfl, upd_same⟩ .nil)
          · obtain ⟨G8, ⟨o3', rfl⟩, q8⟩ := s8
            refine ⟨G5.trans (G7.trans G8), ⟨_, _, rfl⟩, ?_⟩
            rw [ex, List.flatMap_append, List.flatMap_cons, List.flatMap_nil, List.append_nil]
            rw [lu, List.take_length] at q8
            exact q8
        · obtain ⟨G5, ⟨o2, o3, rfl⟩, q5⟩ := s5
          rw [lz, ← takers_length rs, List.take_length] at q5
          exact k _ _ (G4.trans G5) q5
end
end Sh1
set_option Elab.async false
set_option linter.all false
set_option maxRecDepth 100000
set_option maxHeartbeats 2000000
/-! Generators whose consumer does things of its own between two items: the context is taken anew at each wake. -/
namespace Gq
open PySem L2 PySem.Spec PyProof.Rows GenW
/-- the state without the objects from n on -/
def cut (n : Nat) (s : Shared) : Shared := { s with heap := { s.heap with objs := s.heap.objs.extract 0 n } }
theorem cut_size {n : Nat} {s : Shared} (h : n ≤ s.heap.objs.size) : (cut n s).heap.objs.size = n := by
  show (s.heap.objs.extract 0 n).size = n
  rw [Array.size_extract]
  omega
theorem cut_at {n : Nat} {s : Shared} {b : Addr} (h : b < n) : (cut n s).heap.get? b = s.heap.get? b := by
  show (match (s.heap.objs.extract 0 n)[b]? with | some ⟨_, _, .freed, _⟩ => none | o => o) = (match s.heap.objs[b]? with | some ⟨_, _, .freed, _⟩ => none | o => o)
  have e : (s.heap.objs.extract 0 n)[b]? = s.heap.objs[b]? := by
    have h' : Nat.lt b n := h
    apply Option.ext
    intro o
    rw [Array.getElem?_eq_some_iff, Array.getElem?_eq_some_iff]
    constructor
    · rintro ⟨h1, h2⟩
      have h3 : b < s.heap.objs.size := Nat.lt_of_lt_of_le h1 (by rw [Array.size_extract]; exact Nat.le_trans (Nat.sub_le _ _) (Nat.min_le_right _ _))
      exact ⟨h3, by rw [← h2]; simp⟩
    · rintro ⟨h1, h2⟩
      have h3 : b < (s.heap.objs.extract 0 n).size := by rw [Array.size_extract]; exact Nat.lt_min.mpr ⟨h', h1⟩
      exact ⟨h3, by rw [← h2]; simp⟩
  rw [e]
theorem cut_of {n : Nat} {s : Shared} {b : Addr} {o : Obj} (h : (cut n s).heap.get? b = some o) : b < n ∧ s.heap.get? b = some o := by
  have hl : b < (cut n s).heap.objs.size := Heap.lt_size h
  have hb : b < n := by
    have e : (cut n s).heap.objs.size = min n s.heap.objs.size - 0 := Array.size_extract ..
    rw [e] at hl
    exact Nat.lt_of_lt_of_le hl (Nat.le_trans (Nat.sub_le _ _) (Nat.min_le_left _ _))
  exact ⟨hb, by rw [← cut_at hb]; exact h⟩
theorem cut_funs {n : Nat} {s : Shared} {base : Heap} : ∀ {l : List Env}, (∀ b ∈ frs l, b < n) → s.heap.FunFrames base l → (cut n s).heap.FunFrames base l
  | [], _, _ => trivial
  | env :: r, hf, h => by
    obtain ⟨hk, ⟨L, o, e, hn, ho, hd⟩, hr⟩ := h
    have hL : L < n := hf L (by unfold frs; rw [List.filterMap_cons, e]; exact List.mem_cons_self)
    refine ⟨hk, ⟨L, o, e, hn, by rw [cut_at hL]; exact ho, hd⟩, cut_funs (fun b hb => hf b ?_) hr⟩
    unfold frs
    rw [List.filterMap_cons, e]
    exact List.mem_cons_of_mem _ hb
/-- what a consumer knows of a generator: n0: the heap's size at the call, pn: its own object -/
structure Vw where
  P : Program
  w : World
  base : Heap
  outer : List Env
  n0 : Nat
  pn : List (Addr × Obj)
/-- the consumer's turn: what is not tracked stays, but for its own frames and the objects at B -/
structure Back (v : Vw) (B : List Addr) (H1 H2 : Hp) (s1 s2 : Shared) : Prop where
  bare : AllBare s2.gens
  bs : ∀ b o, v.base.get? b = some o → s2.heap.get? b = some o ∧ H2 b = none
  keep : ∀ b o, s1.heap.get? b = some o → H1 b = none → b ∉ frs v.outer → b ∉ B → (∀ x, o.data ≠ .cell x) → s2.heap.get? b = some o ∧ H2 b = none
  funs : s2.heap.FunFrames v.base v.outer
  fsn : ∀ b ∈ frs v.outer, H2 b = none
  bnd : ∀ b ∈ B, ∃ o, s2.heap.get? b = some o ∧ H2 b = none ∧ ∀ x, o.data ≠ .cell x
  hok : HOk v.P v.w H2 s2.heap
/-- what the consumer knows of the resumable state: the items that are to come, the heap, what is tracked -/
abbrev CIT := Nat → Heap → Hp → Prop
/-- the generator's turn, from the resume at s₀ with Hr -/
structure Out (v : Vw) (B : List Addr) (CI : CIT) (n : Nat) (s₀ : Shared) (Hr H1 : Hp) (s1 : Shared) : Prop where
  ci : CI n s₀.heap Hr
  os : s1.os = s₀.os
  bare : AllBare s1.gens
  un : Un (frs v.outer) [] Hr H1 (cut v.n0 s₀).heap s1.heap
  hok : HOk v.P v.w H1 s1.heap
  bk : ∀ b ∈ B, ∀ o, s₀.heap.get? b = some o → s1.heap.get? b = some o ∧ H1 b = none
  pk : ∀ p ∈ v.pn, s1.heap.get? p.1 = some p.2 ∧ H1 p.1 = none
/-- what is agreed: the item, what the consumer may do -/
structure Ct where
  Yd : Nat → Hp → V → Hp → Prop
  Cr : Hp → Hp → Prop
def YQ (v : Vw) (B : List Addr) (CI : CIT) (C : Ct) : Protocol := fun n s₀ u s1 kap =>
  ∃ Hr H1 x, Out v B CI (n + 1) s₀ Hr H1 s1 ∧ RelV x u ∧ C.Yd n Hr x H1 ∧ ∀ s2 H2, Back v B H1 H2 s1 s2 → C.Cr H1 H2 → CI n s2.heap H2 → kap (.send .none) s2
def RQ (v : Vw) (B : List Addr) (CI : CIT) (En : Hp → Hp → Prop) : GenEnd := fun n s₀ r s1 =>
  (r = .ok (.ret .none) ∨ r = .ok .next) ∧ n = 0 ∧ ∃ Hr H1, Out v B CI 0 s₀ Hr H1 s1 ∧ En Hr H1
/-- a generator's frame -/
structure GF where
  v : Vw
  K : PySem.W.Frag
  mg : Str → Option Value
  N : List Str
  env : Env
def GF.X (F : GF) (A : Around) (s : Shared) (H : Hp) : Cx where
  prog := F.v.P
  w := F.v.w
  K := F.K
  mg := F.mg
  base := F.v.base
  A := A
  N := F.N
  s_0 := cut F.v.n0 s
  H_0 := H
  env := F.env
  outer := F.v.outer
  stack := F.env :: F.v.outer
  ex := []
  fn := fun _ => true
  calm := true
  pn := F.v.pn
  xe := fun _ _ => False
structure GFOk (F : GF) : Prop where
  loc : F.v.n0 ≤ F.env.locals
  cel : F.env.cells = []
  bsz : F.v.base.objs.size ≤ F.v.n0
  fr : ∀ b ∈ frs F.v.outer, b < F.v.n0
structure QI (F : GF) (A : Around) (B : List Addr) (CI : CIT) (ip : List (Addr × Obj)) (n : Nat) (s₀ : Shared) (Hr : Hp) (σ : L2.St) (H : Hp) (s : Shared) : Prop where
  ci : CI n s₀.heap Hr
  sz : F.v.n0 ≤ s₀.heap.objs.size
  bx : ∀ b ∈ B, ∃ o, s₀.heap.get? b = some o
  inv : Inv (F.X A s₀ Hr) (pinsAt B s₀.heap ++ ip) σ H s
section
variable {F : GF} {A : Around} {B : List Addr} {CI : CIT} {ip Z : List (Addr × Obj)} {n : Nat} {s₀ s s1 s2 : Shared} {Hr H H1 H2 : Hp} {σ : L2.St}
theorem woken (ok : GFOk F) (bB : ∀ b ∈ B, F.v.n0 ≤ b ∧ b ≠ F.env.locals) (ipB : ∀ p ∈ F.v.pn ++ ip, p.1 ∉ B) (I : Inv (F.X A s₀ Hr) (Z ++ ip) σ H1 s1) (b : Back F.v B H1 H2 s1 s2) :
    Inv (F.X A s2 H2) (pinsAt B s2.heap ++ ip) σ H2 s2 ∧ F.v.n0 ≤ s2.heap.objs.size := by
  obtain ⟨m, hm, hl⟩ := I.loc
  obtain ⟨oL, es, ep, hoL, hdL, rL⟩ := hm
  have nB : F.env.locals ∉ B := fun z => (bB _ z).2 rfl
  have nF : F.env.locals ∉ frs F.v.outer := fun z => absurd (ok.fr _ z) (Nat.not_lt.mpr ok.loc)
  obtain ⟨kL, fL⟩ := b.keep F.env.locals oL hoL I.free nF nB fun x z => by rw [hdL] at z; cases z
  have sz2 : F.v.n0 ≤ s2.heap.objs.size := Nat.le_trans ok.loc (Nat.le_of_lt (Heap.lt_size kL))
  have noC : ∀ x c, F.env.cells.lookup x = some c → False := fun x c e => by rw [ok.cel] at e; cases e
  have noX : ∀ c : Addr, c ∉ (F.X A s2 H2).ex := fun c z => by
    have z : c ∈ ([] : List Addr) := z
    cases z
  refine ⟨⟨⟨I.ok.mod, I.ok.kind, I.ok.glob, I.ok.blt, ?_, I.ok.inj, I.ok.has, fun x c _ e => (noC x c e).elim, I.ok.hd, I.ok.frames, I.ok.stk, fun c z => (noX c z).elim, fun c o e => ?_, ?_, fun c _ _ => noX c, fun c z => (noX c z).elim, cut_funs ok.fr b.funs, b.fsn⟩,
    rfl, b.bare, Un.kept fun c o e => (cut_of e).2, ⟨m, ⟨oL, es, ep, kL, hdL, rL⟩, fun i x v e1 e2 e3 => ?_⟩, fun x c e => (noC x c e).elim, fL, fun x c e => (noC x c e).elim, fun p hp => ?_, b.hok, I.len⟩, sz2⟩
  · show (cut F.v.n0 s2).heap.objs.size ≤ F.env.locals
    rw [cut_size sz2]
    exact ok.loc
  · obtain ⟨h1, h2⟩ := b.bs c o e
    refine ⟨?_, h2⟩
    show (cut F.v.n0 s2).heap.get? c = some o
    rw [cut_at (Nat.lt_of_lt_of_le (Heap.lt_size e) ok.bsz)]
    exact h1
  · show F.v.base.objs.size ≤ (cut F.v.n0 s2).heap.objs.size
    rw [cut_size sz2]
    exact ok.bsz
  · obtain ⟨u, r, q⟩ := hl i x v e1 e2 e3
    refine ⟨u, r, ?_⟩
    rcases q with q | ⟨_, c, e, _⟩
    · exact .inl q
    · exact (noC x c e).elim
  · have old : p ∈ F.v.pn ++ ip → s2.heap.get? p.1 = some p.2 ∧ H2 p.1 = none ∧ p.1 ≠ F.env.locals ∧ p.1 ∉ frs F.v.outer ∧ ∀ v, p.2.data ≠ .cell v := fun hp => by
      obtain ⟨h1, h2, h3, h4, h5⟩ := I.pin p (by
        rcases List.mem_append.mp hp with z | z
        · exact List.mem_append_left _ z
        · exact List.mem_append_right _ (List.mem_append_right _ z))
      obtain ⟨k1, k2⟩ := b.keep p.1 p.2 h1 h2 h4 (ipB p hp) h5
      exact ⟨k1, k2, h3, h4, h5⟩
    rcases List.mem_append.mp hp with z | z
    · exact old (List.mem_append_left _ z)
    · rcases List.mem_append.mp z with z | z
      · obtain ⟨hb, e⟩ := of_pinsAt z
        obtain ⟨o, e', hn, hd⟩ := b.bnd _ hb
        rw [e] at e'
        cases e'
        exact ⟨e, hn, (bB _ hb).2, fun y => absurd (ok.fr _ y) (Nat.not_lt.mpr (bB _ hb).1), hd⟩
      · exact old (List.mem_append_right _ z)
theorem QI.out (q : QI F A B CI ip n s₀ Hr σ H s) : Out F.v B CI n s₀ Hr H s where
  ci := q.ci
  os := q.inv.os
  bare := q.inv.bare
  un := q.inv.base
  hok := q.inv.hok
  bk := fun b hb o e => let z := q.inv.pin (b, o) (List.mem_append_right _ (List.mem_append_left _ (mem_pinsAt hb e))); ⟨z.1, z.2.1⟩
  pk := fun p hp => let z := q.inv.pin p (List.mem_append_left _ hp); ⟨z.1, z.2.1⟩
end
/-- behind a statement: what is wanted (the items that are to come, what was tracked at the resume, the rest) -/
structure QEnds where
  nx : Nat → Hp → L2.St → Hp → Prop
  bk : Nat → Hp → L2.St → Hp → Prop := fun _ _ _ _ => False
  ct : Nat → Hp → L2.St → Hp → Prop := fun _ _ _ _ => False
abbrev TQ := QEnds → Nat → Hp → L2.St → Hp → Prop
def QEnds.at (D : QEnds) (n : Nat) (Hr : Hp) : Ends := { nx := D.nx n Hr, rt := fun _ _ => False, bk := D.bk n Hr, ct := D.ct n Hr }
def QSP (F : GF) (A : Around) (B : List Addr) (CI : CIT) (ip : List (Addr × Obj)) (D : QEnds) (n : Nat) (s₀ : Shared) (f : Flow) (s : Shared) : Prop :=
  match f with
  | .next => ∃ Hr σ H, QI F A B CI ip n s₀ Hr σ H s ∧ D.nx n Hr σ H
  | .brk => ∃ Hr σ H, QI F A B CI ip n s₀ Hr σ H s ∧ D.bk n Hr σ H
  | .cont => ∃ Hr σ H, QI F A B CI ip n s₀ Hr σ H s ∧ D.ct n Hr σ H
  | .ret _ => False
/-- where the code stands: AF the around within the frame -/
structure QC (F : GF) (AF : Around) (B : List Addr) (ip : List (Addr × Obj)) (A : Around) (c : Code) (fs : List Frame) (gd : Bool → Bool) : Prop where
  ok : GFOk F
  bB : ∀ b ∈ B, F.v.n0 ≤ b ∧ b ≠ F.env.locals
  ipB : ∀ p ∈ F.v.pn ++ ip, p.1 ∉ B
  over : A.over c fs = AF
  split : splitAtGen fs = none
  guard : fs.any Frame.guarded = false
  gd : gd false = false
def QK (F : GF) (AF : Around) (B : List Addr) (CI : CIT) (C : Ct) (ip : List (Addr × Obj)) (A : Around) (R : GenEnd) (c : Code) (fs : List Frame) (K : Flow → Sem PySem.Fin) (D : QEnds) : Prop :=
  ∀ (n : Nat) (s₀ s : Shared) (f : Flow), QSP F AF B CI ip D n s₀ f s → Seg (model F.v.P F.v.w) A R (YQ F.v B CI C) n s₀ c (K f) fs s
structure QS (F : GF) (AF : Around) (C : Ct) (st : Stmt) (t : TQ) : Prop where
  run : ∀ (A : Around) (B : List Addr) (CI : CIT) (ip : List (Addr × Obj)) (R : GenEnd) (n : Nat) (s₀ : Shared) (c : Code) (fs : List Frame) (K : Flow → Sem PySem.Fin) (J : Value → Sem PySem.Fin) (gd : Bool → Bool) (lv : List Value → List Value) (s : Shared) (Hr : Hp) (σ : L2.St) (H : Hp) (D : QEnds),
    QC F AF B ip A c fs gd → QK F AF B CI C ip A R c fs K D → QI F AF B CI ip n s₀ Hr σ H s → t D n Hr σ H →
    Seg (model F.v.P F.v.w) A R (YQ F.v B CI C) n s₀ c ((exec st F.env).wrap K J gd lv) fs s
structure QSs (F : GF) (AF : Around) (C : Ct) (st : List Stmt) (t : TQ) : Prop where
  run : ∀ (A : Around) (B : List Addr) (CI : CIT) (ip : List (Addr × Obj)) (R : GenEnd) (n : Nat) (s₀ : Shared) (c : Code) (fs : List Frame) (K : Flow → Sem PySem.Fin) (J : Value → Sem PySem.Fin) (gd : Bool → Bool) (lv : List Value → List Value) (s : Shared) (Hr : Hp) (σ : L2.St) (H : Hp) (D : QEnds),
    QC F AF B ip A c fs gd → QK F AF B CI C ip A R c fs K D → QI F AF B CI ip n s₀ Hr σ H s → t D n Hr σ H →
    Seg (model F.v.P F.v.w) A R (YQ F.v B CI C) n s₀ c ((execs st F.env).wrap K J gd lv) fs s
section
variable {F : GF} {AF : Around} {C : Ct} {st : Stmt} {rest : List Stmt}
def tQPlain (t : TS) : TQ := fun D n Hr σ H => t (D.at n Hr) σ H
theorem sp_qsp {B : List Addr} {CI : CIT} {ip : List (Addr × Obj)} {D : QEnds} {n : Nat} {s₀ s s1 : Shared} {Hr H : Hp} {σ : L2.St} {f : Flow} (q : QI F AF B CI ip n s₀ Hr σ H s) (h : SP (F.X AF s₀ Hr) (pinsAt B s₀.heap ++ ip) (D.at n Hr) f s1) : QSP F AF B CI ip D n s₀ f s1 := by
  cases f with
  | next => obtain ⟨σ, H, I, k⟩ := h; exact ⟨Hr, σ, H, ⟨q.ci, q.sz, q.bx, I⟩, k⟩
  | brk => obtain ⟨σ, H, I, k⟩ := h; exact ⟨Hr, σ, H, ⟨q.ci, q.sz, q.bx, I⟩, k⟩
  | cont => obtain ⟨σ, H, I, k⟩ := h; exact ⟨Hr, σ, H, ⟨q.ci, q.sz, q.bx, I⟩, k⟩
  | ret u => obtain ⟨v, σ, H, I, r1, k⟩ := h; exact k
theorem qs_ps {t : TS} (h : ∀ s H, PS (F.X AF s H) st t) : QS F AF C st (tQPlain t) := by
  refine ⟨fun A B CI ip R n s₀ c fs K J gd lv s Hr σ H D g k q ht => ?_⟩
  refine seg_wrap ?_
  rw [g.over]
  exact wpAny_mono ((h s₀ Hr).run _ s σ H (D.at n Hr) q.inv ht) (fun f s' hs => k n s₀ s' f (sp_qsp q hs)) fun x s' hx => False.elim hx
def tQ0 : TQ := fun D n Hr σ H => D.nx n Hr σ H
theorem qss_nil : QSs F AF C [] tQ0 := by
  refine ⟨fun A B CI ip R n s₀ c fs K J gd lv s Hr σ H D g k q ht => ?_⟩
  exact seg_execs_nil (k n s₀ s .next ⟨Hr, σ, H, q, ht⟩)
def tQThen (t u : TQ) : TQ := fun D n Hr σ H => t { D with nx := fun n' Hr' σ' H' => u D n' Hr' σ' H' } n Hr σ H
theorem qss_cons {t u : TQ} (a : QS F AF C st t) (b : QSs F AF C rest u) : QSs F AF C (st :: rest) (tQThen t u) := by
  refine ⟨fun A B CI ip R n s₀ c fs K J gd lv s Hr σ H D g k q ht => ?_⟩
  refine seg_execs_cons ?_
  refine a.run A B CI ip R n s₀ c fs _ J gd lv s Hr σ H { D with nx := fun n' Hr' σ' H' => u D n' Hr' σ' H' } g (fun n' s₀' s' f hs => ?_) q ht
  cases f with
  | next =>
    obtain ⟨Hr', σ', H', q', z⟩ := hs
    exact b.run A B CI ip R n' s₀' c fs K J gd lv s' Hr' σ' H' D g k q' z
  | brk => exact k n' s₀' s' .brk hs
  | cont => exact k n' s₀' s' .cont hs
  | ret u => exact False.elim hs
/-! ### yield -/
def tQYield (C : Ct) (te : TE) : TQ := fun D n Hr σ H => ∃ m, n = m + 1 ∧ te σ H fun x H1 => C.Yd m Hr x H1 ∧ ∀ H2, C.Cr H1 H2 → D.nx m H2 σ H2
theorem qs_yield {e : Expr} {yp pos : Pos} {te : TE} (he : ∀ s H, PE (F.X AF s H) e te) (hco : F.env.scope.isCoroutine = false := by rfl) (hi : interactive F.env = false := by rfl) : QS F AF C (.Expr (.Yield (some e) yp) pos) (tQYield C te) := by
  refine ⟨fun A B CI ip R n s₀ c fs K J gd lv s Hr σ H D g k q ht => ?_⟩
  obtain ⟨m, rfl, ht⟩ := ht
  refine seg_Expr_Yield g.split g.gd g.guard ?_ hco hi
  rw [g.over]
  refine wpAny_mono ((he s₀ Hr).run _ s σ H _ q.inv ht) (fun u s1 hv => ?_) fun x s' hx => False.elim hx
  obtain ⟨x, H1, I1, rv, yd, nx⟩ := hv
  have q1 : QI F AF B CI ip (m + 1) s₀ Hr σ H1 s1 := ⟨q.ci, q.sz, q.bx, I1⟩
  intro kap hk
  refine ⟨Hr, H1, x, q1.out, rv, yd, fun s2 H2 b cr ci => hk .none s2 ?_⟩
  obtain ⟨I2, z2⟩ := woken g.ok g.bB g.ipB I1 b
  exact k m s2 s2 .next ⟨H2, σ, H2, ⟨ci, z2, (fun b' hb => let ⟨o, e, _⟩ := b.bnd b' hb; ⟨o, e⟩), I2⟩, nx H2 cr⟩
end
end Gq
set_option Elab.async false
set_option linter.all false
set_option maxRecDepth 100000
set_option maxHeartbeats 2000000
/-! `for` and `if` within such a generator. -/
namespace Gq
open PySem L2 PySem.Spec PyProof.Rows GenW
section
variable {F : GF} {AF : Around} {C : Ct} {tg : Expr}
theorem qc_loop {B : List Addr} {ip ip' : List (Addr × Obj)} {A : Around} {c c' : Code} {fs : List Frame} {gd : Bool → Bool} {k : Result → Sem PySem.Fin} {l kp : List Value} {p : Pos} (g : QC F AF B ip A c fs gd) (hip : ∀ p ∈ ip', p.1 ∉ B) (hw : c'.weight = 0) (hu : c'.cUnits = 0) :
    QC F AF B ip' A c' (.ret k none (gd false) l c p kp :: fs) id where
  ok := g.ok
  bB := g.bB
  ipB := fun p hp => (List.mem_append.mp hp).elim (fun z => g.ipB p (List.mem_append_left _ z)) (hip p)
  over := (over_loop hw hu).trans g.over
  split := by
    show (splitAtGen fs).map _ = none
    rw [g.split]; rfl
  guard := by
    show (gd false || fs.any Frame.guarded) = false
    rw [g.gd, g.guard]; rfl
  gd := rfl
def tQFor (wi : TI) (g : TG) (tb : TQ) : TQ := fun D n Hr σ H => wi σ H fun J H1 => ∃ W : Nat → Nat → Nat → Hp → L2.St → Hp → Prop, (∃ m, W 0 m n Hr σ H1) ∧ ∀ i m n Hr σ H, W i m n Hr σ H →
  (J.stop i H ∧ D.nx n Hr σ H) ∨ (J.go i H ∧ ∃ N : Nat → Hp → L2.St → Hp → Prop, (∀ n' Hr' σ' H', N n' Hr' σ' H' → ∃ m', m' < m ∧ W (i + 1) m' n' Hr' σ' H') ∧ ∀ x H', J.yld i H x H' → g x σ H' fun σ2 H2 => tb { D with nx := N, ct := N, bk := D.nx } n Hr σ2 H2)
theorem qs_for {iter : Expr} {body : List Stmt} {wi : TI} {g : TG} {tb : TQ} {pos : Pos} (hi : ∀ s H, PI (F.X AF s H) tg iter wi) (hg : ∀ s H, PG (F.X AF s H) tg g) (hb : QSs F AF C body tb)
    (hs : ∀ x, foldedSetIterable iter F.env x = pure x := by intro _; rfl) : QS F AF C (.For tg iter body [] pos) (tQFor wi g tb) := by
  refine ⟨fun A B CI ip R n s₀ c fs K Jx gd lv s Hr σ H D gc k q ht => ?_⟩
  refine seg_For hs ?_
  rw [gc.over]
  refine wpAny_mono ((hi s₀ Hr).run _ s σ H _ q.inv ht) (fun v s1 h1 => wpAny_mono h1 (fun itv s2 h2 p => ?_) fun x s' hx => False.elim hx) fun x s' hx => False.elim hx
  obtain ⟨it, fp, tn, J, H2, e, I2, T, st2, f2, W, ⟨m0, w0⟩, turn⟩ := h2
  subst e
  -- what stays true of the iterator's objects, whatever the context
  have fix : ∀ b ∈ fp, b ≠ F.env.locals ∧ b ∉ frs F.v.outer ∧ F.v.n0 ≤ b ∧ b ∉ B ∧ ∀ p ∈ F.v.pn ++ ip, p.1 ≠ b := fun b hb => by
    obtain ⟨_, f1, f3, f4, _, f6⟩ := f2 b hb
    refine ⟨f1, f3, ?_, fun z => ?_, fun p hp => ?_⟩
    · rcases f4 with z | z
      · have z : b ∈ ([] : List Addr) := z
        cases z
      · have z : (cut F.v.n0 s₀).heap.objs.size ≤ b := z
        rw [cut_size q.sz] at z
        exact z
    · obtain ⟨o, e⟩ := q.bx b z
      exact f6 (b, o) (List.mem_append_right _ (List.mem_append_left _ (mem_pinsAt z e))) rfl
    · rcases List.mem_append.mp hp with z | z
      · exact f6 p (List.mem_append_left _ z)
      · exact f6 p (List.mem_append_right _ (List.mem_append_right _ z))
  have stat : ∀ {s₀' : Shared} {Hr' H' : Hp}, F.v.n0 ≤ s₀'.heap.objs.size → (∀ b ∈ fp, H' b = none) → ∀ b ∈ fp, FpOk (F.X AF s₀' Hr') (pinsAt B s₀'.heap ++ ip) H' b := fun {s₀' Hr' H'} hz hn b hb => by
    obtain ⟨f1, f3, f4, fB, f6⟩ := fix b hb
    refine ⟨hn b hb, f1, f3, .inr ?_, fun x c e => ?_, fun p hp => ?_⟩
    · show (cut F.v.n0 s₀').heap.objs.size ≤ b
      rw [cut_size hz]
      exact f4
    · have e : F.env.cells.lookup x = some c := e
      rw [gc.ok.cel] at e
      cases e
    · rcases List.mem_append.mp hp with z | z
      · exact f6 p (List.mem_append_left _ z)
      · rcases List.mem_append.mp z with z | z
        · exact fun y => fB (y ▸ (of_pinsAt z).1)
        · exact f6 p (List.mem_append_right _ z)
  have ipB : ∀ p ∈ ip, p.1 ∉ B := fun p hp => gc.ipB p (List.mem_append_right _ hp)
  have gl := fun (ip' : List (Addr × Obj)) (hip : ∀ p ∈ ip', p.1 ∉ B) (kk : Result → Sem PySem.Fin) => qc_loop (ip' := ip') (k := kk) (c' := .forLoop tg (.ref it) body [] F.env) (l := lv []) (kp := []) (p := p) gc hip rfl rfl
  have loop : ∀ (m i n : Nat) (s₀ s : Shared) (Hr : Hp) (σ : L2.St) (H : Hp), W i m n Hr σ H → QI F AF B CI ip n s₀ Hr σ H s → tn i s.heap → (∀ b ∈ fp, H b = none) →
      Seg (model F.v.P F.v.w) A R (YQ F.v B CI C) n s₀ (.forLoop tg (.ref it) body [] F.env) ((model F.v.P F.v.w).den (.forLoop tg (.ref it) body [] F.env))
        (.ret (fun r => ((match r with | .ok f => (.pure f : Sem Flow) | .error e => .raise e).onRaise (cameBack F.env)).wrap K Jx gd lv) none (gd false) (lv []) c p [] :: fs) s := by
    intro m
    induction m using Nat.strongRecOn with
    | ind m ih =>
      intro i n s₀ s Hr σ H w q st fr
      refine seg_forLoop ?_
      rw [(gl ip ipB _).over]
      rcases turn i m n Hr σ H w with ⟨stop, qn⟩ | ⟨go, N, hN, step⟩
      · refine wpAny_mono (T.done (F.X AF s₀ Hr) rfl rfl rfl rfl i _ s σ H (fun _ _ => False) q.inv (stat q.sz fr) st stop) (fun r' s4 ⟨hr, I4⟩ => ?_) fun x s' hx => False.elim hx
        subst hr
        exact seg_leaf (.ok .next) (k n s₀ s4 .next ⟨Hr, σ, H, ⟨q.ci, q.sz, q.bx, I4⟩, qn⟩)
      · refine wpAny_mono (T.item (F.X AF s₀ Hr) rfl rfl rfl rfl i _ s σ H (fun _ _ => False) q.inv (stat q.sz fr) st go) (fun r' s4 ⟨u, hr, h4⟩ => ?_) fun x s' hx => False.elim hx
        subst hr
        refine wpAny_mono h4 (fun _ s5 ⟨x, H5, I5, r5, y5, st5, fr5⟩ => ?_) fun x s' hx => False.elim hx
        have I5' := I5.pinned (stat q.sz fr5) (T.obj _ _ st5)
        rw [List.append_assoc] at I5'
        refine wpAny_mono ((hg s₀ Hr).run _ s5 σ H5 x u _ I5' r5 (step x H5 y5)) (fun _ s6 ⟨σ6, H6, I6, q6⟩ => ?_) fun x s' hx => False.elim hx
        have hip' : ∀ p ∈ ip ++ pinsAt fp s5.heap, p.1 ∉ B := fun p hp => by
          rcases List.mem_append.mp hp with z | z
          · exact ipB p z
          · exact (fix p.1 (of_pinsAt z).1).2.2.2.1
        have weak : ∀ {n' : Nat} {s₀' s3 : Shared} {Hr3 : Hp} {σ3 : L2.St} {H3 : Hp}, QI F AF B CI (ip ++ pinsAt fp s5.heap) n' s₀' Hr3 σ3 H3 s3 → QI F AF B CI ip n' s₀' Hr3 σ3 H3 s3 := fun {n' s₀' s3 Hr3 σ3 H3} z => by
          have I := z.inv
          rw [← List.append_assoc] at I
          exact ⟨z.ci, z.sz, z.bx, I.unpinned⟩
        have again : ∀ {n' : Nat} {s₀' s3 : Shared} {Hr3 : Hp} {σ3 : L2.St} {H3 : Hp}, QI F AF B CI (ip ++ pinsAt fp s5.heap) n' s₀' Hr3 σ3 H3 s3 → N n' Hr3 σ3 H3 →
            Seg (model F.v.P F.v.w) A R (YQ F.v B CI C) n' s₀' (.forLoop tg (.ref it) body [] F.env) (.pure (.again (.forLoop tg (.ref it) body [] F.env)))
              (.ret (fun r => ((match r with | .ok f => (.pure f : Sem Flow) | .error e => .raise e).onRaise (cameBack F.env)).wrap K Jx gd lv) none (gd false) (lv []) c p [] :: fs) s3 := fun {n' s₀' s3 Hr3 σ3 H3} z n3 => by
          obtain ⟨m', hm, w3⟩ := hN n' Hr3 σ3 H3 n3
          have pin : ∀ b ∈ fp, ∀ o, s5.heap.get? b = some o → s3.heap.get? b = some o ∧ H3 b = none := fun b hb o e =>
            let y := z.inv.pin (b, o) (List.mem_append_right _ (List.mem_append_right _ (List.mem_append_right _ (mem_pinsAt hb e))))
            ⟨y.1, y.2.1⟩
          refine seg_again rfl (ih m' hm (i + 1) n' s₀' s3 Hr3 σ3 H3 w3 (weak z) (T.keep _ _ _ st5 fun b hb o e => (pin b hb o e).1) fun b hb => ?_)
          obtain ⟨o, e, d⟩ := T.obj _ _ st5 b hb
          exact (pin b hb o e).2
        refine hb.run A B CI (ip ++ pinsAt fp s5.heap) R n s₀ _ _ _ _ id id s6 Hr σ6 H6 { D with nx := N, ct := N, bk := D.nx } (gl _ hip' _) (fun n' s₀' s3 f hs => ?_) ⟨q.ci, q.sz, q.bx, I6⟩ q6
        cases f with
        | next =>
          obtain ⟨Hr3, σ3, H3, z, n3⟩ := hs
          exact again z n3
        | cont =>
          obtain ⟨Hr3, σ3, H3, z, n3⟩ := hs
          exact again z n3
        | brk =>
          obtain ⟨Hr3, σ3, H3, z, q3⟩ := hs
          exact seg_leaf (.ok .next) (k n' s₀' s3 .next ⟨Hr3, σ3, H3, weak z, q3⟩)
        | ret v => exact False.elim hs
  exact loop m0 0 n s₀ s2 Hr σ H2 w0 ⟨q.ci, q.sz, q.bx, I2⟩ st2 fun b hb => (f2 b hb).1
/-- one lemma for such loops -/
theorem qloop_any {J : It} {n : Nat} {G : Hp → Prop} {Y : Nat → Hp → V → Hp → Prop} (w : Walk J n G Y) {k0 : Nat} {Hr0 : Hp} {σ0 : L2.St} {H0 : Hp} {Qd : Nat → Hp → L2.St → Hp → Prop} {Bd : Nat → Hp → L2.St → V → Hp → (Nat → Hp → L2.St → Hp → Prop) → Prop}
    (Pv : Nat → Nat → Hp → L2.St → Hp → Prop) (h0 : Pv 0 k0 Hr0 σ0 H0)
    (hG : ∀ i k Hr σ H, i ≤ n → Pv i k Hr σ H → G H) (hs : ∀ i x k Hr σ H H', i < n → Pv i k Hr σ H → Y i H x H' → Bd k Hr σ x H' (Pv (i + 1))) (hd : ∀ k Hr σ H, Pv n k Hr σ H → Qd k Hr σ H) :
    ∃ W : Nat → Nat → Nat → Hp → L2.St → Hp → Prop, (∃ m, W 0 m k0 Hr0 σ0 H0) ∧ ∀ i m k Hr σ H, W i m k Hr σ H →
      (J.stop i H ∧ Qd k Hr σ H) ∨ (J.go i H ∧ ∃ N : Nat → Hp → L2.St → Hp → Prop, (∀ k' Hr' σ' H', N k' Hr' σ' H' → ∃ m', m' < m ∧ W (i + 1) m' k' Hr' σ' H') ∧ ∀ x H', J.yld i H x H' → Bd k Hr σ x H' N) := by
  refine ⟨fun i m k Hr σ H => m = n - i ∧ i ≤ n ∧ Pv i k Hr σ H, ⟨n, (Nat.sub_zero n).symm, Nat.zero_le _, h0⟩, ?_⟩
  rintro i m k Hr σ H ⟨rfl, hi, p⟩
  have q := hG i k Hr σ H hi p
  rcases Nat.lt_or_ge i n with hlt | hge
  · exact .inr ⟨w.goes i H hlt q, Pv (i + 1), fun k' Hr' σ' H' p' => ⟨n - (i + 1), by omega, rfl, hlt, p'⟩, fun x H' y => hs i x k Hr σ H H' hlt p (w.yields i H x H' hlt q y)⟩
  · obtain rfl : i = n := by omega
    exact .inl ⟨w.stops H q, hd k Hr σ H p⟩
/-! ### if -/
def tQIf (tc : TT) (ta tb : TQ) : TQ := fun D n Hr σ H => tc σ H fun b H1 => if b = true then ta D n Hr σ H1 else tb D n Hr σ H1
theorem qs_if {test : Expr} {body orelse : List Stmt} {pos : Pos} {tc : TT} {ta tb : TQ} (hc : ∀ s H, PT (F.X AF s H) test tc) (ha : QSs F AF C body ta) (hb : QSs F AF C orelse tb) : QS F AF C (.If test body orelse pos) (tQIf tc ta tb) := by
  refine ⟨fun A B CI ip R n s₀ c fs K J gd lv s Hr σ H D g k q ht => ?_⟩
  rw [exec_If]
  show Seg _ _ _ _ n s₀ c (.at pos fun _ => ((isTrue test F.env (eval test F.env) >>= fun b => if b = true then execs body F.env else execs orelse F.env) : Sem Flow).wrap K J gd lv) fs s
  refine seg_at ?_
  rw [Sem.bind_eq_wrap', Sem.wrap_wrap]
  refine seg_wrap ?_
  rw [g.over]
  refine wpAny_mono ((hc s₀ Hr).run _ s σ H _ q.inv ht) (fun b s1 hb' => ?_) fun x s' hx => False.elim hx
  obtain ⟨H1, I1, q1⟩ := hb'
  cases b with
  | true =>
    rw [if_pos rfl] at q1
    exact ha.run A B CI ip R n s₀ c fs K J gd lv s1 Hr σ H1 D g k ⟨q.ci, q.sz, q.bx, I1⟩ q1
  | false =>
    rw [if_neg Bool.false_ne_true] at q1
    exact hb.run A B CI ip R n s₀ c fs K J gd lv s1 Hr σ H1 D g k ⟨q.ci, q.sz, q.bx, I1⟩ q1
end
end Gq
set_option Elab.async false
set_option linter.all false
set_option maxRecDepth 100000
set_option maxHeartbeats 2000000
/-! The call of such a generator def. -/
namespace Gq
open PySem L2 PySem.Spec PyProof.Rows GenW
/-- a generator def's promise: the arguments, the heap at the first wake; then: how many items, what is agreed, the end (from the last resume) -/
abbrev SpQ := List V → Hp → Nat → Ct → (Hp → Hp → Prop) → Prop
def GMadeQ (P : Program) (w : World) (base : Heap) (k : Nat) (outer : List Env) (n0 : Nat) (sp : SpQ) (vs : List V) (H : Hp) (u : Value) (s' : Shared) : Prop :=
  ∃ (a : Addr) (g : Nat) (c : Code) (go : Obj), u = .ref a ∧ n0 ≤ a ∧ a < s'.heap.objs.size ∧ s'.heap.get? a = some go ∧ (∀ h : Heap, h.get? a = some go → h.IsGen a g) ∧ (∀ v, go.data ≠ .cell v) ∧ s'.gens[g]? = some (.fresh c) ∧
    ∀ (A : Around) (B : List Addr) (CI : CIT) (s2 : Shared) (H2 : Hp) (L : Nat) (C : Ct) (En : Hp → Hp → Prop), Room k A → A.frames = some outer → (∀ b ∈ B, s'.heap.objs.size ≤ b) → Back ⟨P, w, base, outer, n0, [(a, go)]⟩ B H H2 s' s2 → sp vs H2 L C En → CI L s2.heap H2 →
      Seg (model P w) A (RQ ⟨P, w, base, outer, n0, [(a, go)]⟩ B CI En) (YQ ⟨P, w, base, outer, n0, [(a, go)]⟩ B CI C) L s2 c ((model P w).den c) [] s2
structure GFnQ (P : Program) (w : World) (K : PySem.W.Frag) (mg : Str → Option Value) (base : Heap) (k : Nat) (f : Addr) (fd : FuncData) (ps : List Str) (sp : SpQ) : Prop where
  run : ∀ (A : Around) (outer : List Env) (s : Shared) (H : Hp) (args : Args) (us : List Value) (vs : List V), Room k A → Env0 P w K mg base A outer s H → BindsTo s fd args (ps.zip us) → Vals vs us → vs.length = ps.length →
    codeAny (model P w) A (.call (.ref f) args) (fun r s' => match r with | .ok (.ret u) => GMadeQ P w base k outer s.heap.objs.size sp vs H u s' ∧ s'.os = s.os ∧ AllBare s'.gens ∧ ∀ b o, s.heap.get? b = some o → s'.heap.get? b = some o | _ => False) s
theorem inv_conv {P : Program} {w : World} {K : PySem.W.Frag} {mg : Str → Option Value} {base : Heap} {N : List Str} {qual : Str} {scope : Scope} {f : Addr} {cd : Value} {A : Around} {outer : List Env} {s s1 : Shared} {H : Hp} {E : XK} {pn : List (Addr × Obj)} {σ : L2.St}
    (I : Inv (gcxOf P w K mg base N qual scope f cd A outer s H E pn) [] σ H s1) (hcel : (envOfC qual scope s.heap.objs.size f cd).cells = []) :
    GFOk ⟨⟨P, w, base, outer, s.heap.objs.size, pn⟩, K, mg, N, envOfC qual scope s.heap.objs.size f cd⟩ ∧ Inv (GF.X ⟨⟨P, w, base, outer, s.heap.objs.size, pn⟩, K, mg, N, envOfC qual scope s.heap.objs.size f cd⟩ (A.deeper (envOfC qual scope s.heap.objs.size f cd)) s H) ([] ++ []) σ H s1 := by
  have z : ∀ b : Addr, b ∉ ([] : List Addr) := fun b h => by cases h
  have noC : ∀ x c, (envOfC qual scope s.heap.objs.size f cd).cells.lookup x = some c → False := fun x c e => by rw [hcel] at e; cases e
  have fr : ∀ b ∈ frs outer, b < s.heap.objs.size := fun b hb => by
    obtain ⟨_, o, ho, _⟩ := I.ok.funs.mem hb
    exact Heap.lt_size ho
  have kp : ∀ b o, (cut s.heap.objs.size s).heap.get? b = some o → s.heap.get? b = some o := fun b o e => (cut_of e).2
  have hsz : (cut s.heap.objs.size s).heap.objs.size = s.heap.objs.size := cut_size (Nat.le_refl _)
  refine ⟨⟨I.ok.above, hcel, I.ok.bsz, fr⟩, ⟨I.ok.mod, I.ok.kind, I.ok.glob, I.ok.blt, ?_, I.ok.inj, I.ok.has, fun x c _ e => (noC x c e).elim, I.ok.hd, I.ok.frames, I.ok.stk, fun c y => (z c y).elim, fun c o e => ?_, ?_, fun c _ _ => z c, fun c y => (z c y).elim, cut_funs fr I.ok.funs, I.ok.frf⟩,
    I.os, I.bare, ⟨fun b o e => I.base.keep b o (kp b o e), fun b o e => I.base.slot b o (kp b o e), fun b o e => I.base.free b o (kp b o e), fun b o e => I.base.there b o (kp b o e), I.base.tups, I.base.frzs, I.base.tbls⟩, I.loc, I.cell, I.free, I.freeC, I.pin, I.hok, I.len⟩
  · show (cut s.heap.objs.size s).heap.objs.size ≤ _
    rw [hsz]
    exact I.ok.above
  · obtain ⟨h1, h2⟩ := I.ok.bs c o e
    refine ⟨?_, h2⟩
    have h1 : s.heap.get? c = some o := h1
    show (cut s.heap.objs.size s).heap.get? c = some o
    rw [cut_at (Heap.lt_size h1)]
    exact h1
  · show base.objs.size ≤ (cut s.heap.objs.size s).heap.objs.size
    rw [hsz]
    exact I.ok.bsz
/-- a generator def, by its body -/
theorem qfn_of {P : Program} {w : World} {K : PySem.W.Frag} {mg : Str → Option Value} {base : Heap} {k : Nat} {f : Addr} {name qual : Str} {params : Arguments} {body : List Stmt} {scope : Scope} {dV kV doc pm cdv ct oc : Value} {an od : Option Addr}
    {osl : Array (Option Value)} {N ps : List Str} {sp : SpQ} (lk : K.lookup f = some ⟨oc, od, .func (PySem.W.fnOf name qual params body scope dV kV doc pm an cdv ct), osl⟩) (hcd : PySem.W.codeIn K cdv qual = true) (S : GScope N ps scope) (hcel : ∀ n, (envOfC qual scope n f cdv).cells = [])
    (hbody : ∀ (A : Around) (outer : List Env) (n0 : Nat) (pn : List (Addr × Obj)) (H : Hp) (vs : List V) (L : Nat) (C : Ct) (En : Hp → Hp → Prop), Room k (A.deeper (envOfC qual scope n0 f cdv)) → sp vs H L C En →
      ∃ t, QSs ⟨⟨P, w, base, outer, n0, pn⟩, K, mg, N, envOfC qual scope n0 f cdv⟩ (A.deeper (envOfC qual scope n0 f cdv)) C body t ∧ t { nx := fun n Hr _ H' => n = 0 ∧ En Hr H' } L H (start N vs) H) :
    GFnQ P w K mg base (k + 1) f (PySem.W.fnOf name qual params body scope dV kV doc pm an cdv ct) ps sp := by
  refine ⟨fun A outer s H args us vs hr e0 hb r hl => ?_⟩
  have KX : K.In s.heap := e0.mod.kin.keeps fun b o e => (e0.bs b o e).1
  have lim : s.heap.NoLimit := e0.mod.nolimit.keeps fun b o e => (e0.bs b o e).1
  have hkind : ∀ y ∈ ps.zip us, scope.names.lookup y.1 = some .local ∨ (scope.names.lookup y.1 = some .cell ∧ ((cellsFrom (s.heap.objs.size + 1) scope.names []).lookup y.1).isSome = true) := fun ⟨n, v⟩ hy => by
    rcases S.par n (List.of_mem_zip hy).1 with q | q
    · exact .inl q
    · exact .inr ⟨q, PySem.W.cellsFrom_some _ _ _ (.inl q)⟩
  refine codeAny_call_generator hr.depth (KX _ _ lk) rfl S.co S.gen rfl (PySem.W.codeRec_of KX hcd) (hb _ _ _ _ ?_)
  refine wpAny_newFunctionEnv_cells S.kind hkind fun env he s1 x => ?_
  subst he
  have lim1 : s1.heap.NoLimit := lim.keeps x.toInCall.keep
  refine ⟨lim1, ?_⟩
  obtain ⟨h1, tk, es1, hk1⟩ := x.done
  have os1 : s1.os = s.os := by rw [es1]
  have gen1 : s1.gens = s.gens := by rw [es1]
  have kp1 : ∀ b o, s.heap.get? b = some o → s1.heap.get? b = some o := x.toInCall.keep
  have lt1 : s.heap.objs.size < s1.heap.objs.size := x.toInCall.ns.lt
  have main : ∀ (go : Obj) (nm qn : Value) (tk2 : Nat), go.cls = .type "generator" → go.data = .fields #[.int s1.gens.size 0, nm, qn] → go.slots = #[] → (∀ h : Heap, (h.push go).get? h.objs.size = some go) →
      (fun (u : Value) (s' : Shared) => GMadeQ P w base (k + 1) outer s.heap.objs.size sp vs H u s' ∧ s'.os = s.os ∧ AllBare s'.gens ∧ ∀ b o, s.heap.get? b = some o → s'.heap.get? b = some o)
        (.ref s1.heap.objs.size) { s1 with gens := s1.gens.push (.fresh (.func body (envOfC qual scope s.heap.objs.size f cdv))), toks := tk2, heap := s1.heap.push go } := by
    intro go nm qn tk2 hgc hgd0 hgs hgp
    have hgen : ∀ h : Heap, h.get? s1.heap.objs.size = some go → h.IsGen s1.heap.objs.size s1.gens.size := fun h e => ⟨go, nm, qn, e, hgc, hgd0, hgs⟩
    have hpushed : (s1.heap.push go).get? s1.heap.objs.size = some go := hgp _
    have bare' : AllBare (s1.gens.push (.fresh (.func body (envOfC qual scope s.heap.objs.size f cdv)))) := AllBare.push (by rw [gen1]; exact e0.bare) rfl
    have hgd : ∀ v, go.data ≠ .cell v := fun v q => by rw [hgd0] at q; cases q
    refine ⟨⟨s1.heap.objs.size, s1.gens.size, _, go, rfl, Nat.le_of_lt lt1, ?_, hpushed, hgen, hgd, Array.getElem?_push_size .., ?_⟩, os1, bare', fun b o e => Heap.get?_push_of_some _ (kp1 b o e)⟩
    · show _ < (s1.heap.push _).objs.size
      rw [Heap.size_push]; exact Nat.lt_succ_self _
    intro Aw B CI s2 H2 L C En hrw hfr hB bk hsp ci
    have e0w : Env0 P w K mg base Aw outer s H := ⟨hfr, e0.mod, e0.bs, e0.bsz, e0.funs, e0.frf, e0.hok, e0.bare⟩
    have I1 : Inv (gcxOf P w K mg base N qual scope f cdv Aw outer s H (fun _ _ _ => False) []) [] (start N vs) H s1 := inv_startG S hrw.hd e0w hl r x
    generalize hs' : ({ s1 with gens := s1.gens.push (.fresh (.func body (envOfC qual scope s.heap.objs.size f cdv))), toks := tk2, heap := s1.heap.push go } : Shared) = s' at hB bk
    have eh : s'.heap = s1.heap.push go := by rw [← hs']
    have I2 : Inv (gcxOf P w K mg base N qual scope f cdv Aw outer s H (fun _ _ _ => False) []) [] (start N vs) H s' := by
      refine I1.call' (ch := []) (by rw [← hs']) (by rw [eh]; exact Un.kept fun b o e => Heap.get?_push_of_some _ e) (by rw [eh]; exact I1.hok.kept fun b o e => Heap.get?_push_of_some _ e) (by rw [← hs']; exact bare') fun b z => by simp at z
    have I3 : Inv (gcxOf P w K mg base N qual scope f cdv Aw outer s H (fun _ _ _ => False) [(s1.heap.objs.size, go)]) [] (start N vs) H s' := by
      refine Inv.pinnedG I2 fun p hp => ?_
      rw [List.append_nil] at hp
      rw [List.mem_singleton.mp hp]
      refine ⟨by rw [eh]; exact hpushed, I1.hok.fresh (Nat.le_refl _), Nat.ne_of_gt lt1, I1.nofs (Nat.le_refl _), hgd⟩
    obtain ⟨fok, I4⟩ := inv_conv I3 (hcel _)
    obtain ⟨t, ht, hq⟩ := hbody Aw outer s.heap.objs.size [(s1.heap.objs.size, go)] H2 vs L C En (hrw.deeper _) hsp
    have sB : ∀ b ∈ B, s1.heap.objs.size < b := fun b hb => by
      have q := hB b hb
      rw [eh, Heap.size_push] at q
      exact q
    have bB : ∀ b ∈ B, s.heap.objs.size ≤ b ∧ b ≠ (envOfC qual scope s.heap.objs.size f cdv).locals := fun b hb =>
      ⟨Nat.le_of_lt (Nat.lt_trans lt1 (sB b hb)), Nat.ne_of_gt (Nat.lt_trans lt1 (sB b hb))⟩
    have ipB : ∀ p ∈ [(s1.heap.objs.size, go)] ++ ([] : List (Addr × Obj)), p.1 ∉ B := fun p hp hb => by
      rw [List.append_nil] at hp
      rw [List.mem_singleton.mp hp] at hb
      exact absurd (sB _ hb) (Nat.lt_irrefl _)
    obtain ⟨I5, z5⟩ := woken (F := ⟨⟨P, w, base, outer, s.heap.objs.size, [(s1.heap.objs.size, go)]⟩, K, mg, N, envOfC qual scope s.heap.objs.size f cdv⟩) fok bB ipB I4 bk
    refine seg_func ?_
    refine ht.run Aw B CI [] _ L s2 _ [] _ _ id id s2 H2 (start N vs) H2 _ ⟨fok, bB, ipB, over_func, rfl, rfl, rfl⟩ (fun n s₀ s3 fl hs => ?_) ⟨ci, z5, fun b hb => let ⟨o, e, _⟩ := bk.bnd b hb; ⟨o, e⟩, I5⟩ hq
    cases fl with
    | next =>
      obtain ⟨Hr, σ, H3, q, n0, en⟩ := hs
      subst n0
      exact seg_end (.ok (.ret .none)) ⟨.inl rfl, rfl, Hr, H3, q.out, en⟩
    | brk => obtain ⟨_, _, _, _, q⟩ := hs; exact False.elim q
    | cont => obtain ⟨_, _, _, _, q⟩ := hs; exact False.elim q
    | ret u => exact False.elim hs
  exact main _ _ _ _ rfl rfl rfl fun h => Heap.get?_push_size _ rfl
end Gq
set_option Elab.async false
set_option linter.all false
set_option maxRecDepth 100000
set_option maxHeartbeats 2000000
/-! The same rules, the reading told for each context. -/
namespace Gq
open PySem L2 PySem.Spec PyProof.Rows GenW
abbrev H00 : Hp := fun _ => none
section
variable {F : GF} {AF : Around} {C : Ct} {st : Stmt} {tg : Expr}
theorem qs_psF {t : Shared → Hp → TS} (h : ∀ s H, PS (F.X AF s H) st (t s H)) (ht : ∀ s H, t s H = t {} H00 := by intro _ _; rfl) : QS F AF C st (tQPlain (t {} H00)) :=
  qs_ps fun s H => by rw [← ht s H]; exact h s H
theorem qs_yieldF {e : Expr} {yp pos : Pos} {te : Shared → Hp → TE} (he : ∀ s H, PE (F.X AF s H) e (te s H)) (ht : ∀ s H, te s H = te {} H00 := by intro _ _; rfl) (hco : F.env.scope.isCoroutine = false := by rfl) (hi : interactive F.env = false := by rfl) : QS F AF C (.Expr (.Yield (some e) yp) pos) (tQYield C (te {} H00)) :=
  qs_yield (fun s H => by rw [← ht s H]; exact he s H) hco hi
theorem qs_forF {iter : Expr} {body : List Stmt} {wi : Shared → Hp → TI} {g : Shared → Hp → TG} {tb : TQ} {pos : Pos} (hi : ∀ s H, PI (F.X AF s H) tg iter (wi s H)) (hg : ∀ s H, PG (F.X AF s H) tg (g s H)) (hb : QSs F AF C body tb)
    (hw : ∀ s H, wi s H = wi {} H00 := by intro _ _; rfl) (hgw : ∀ s H, g s H = g {} H00 := by intro _ _; rfl) (hs : ∀ x, foldedSetIterable iter F.env x = pure x := by intro _; rfl) : QS F AF C (.For tg iter body [] pos) (tQFor (wi {} H00) (g {} H00) tb) :=
  qs_for (fun s H => by rw [← hw s H]; exact hi s H) (fun s H => by rw [← hgw s H]; exact hg s H) hb hs
theorem qs_ifF {test : Expr} {body orelse : List Stmt} {pos : Pos} {tc : Shared → Hp → TT} {ta tb : TQ} (hc : ∀ s H, PT (F.X AF s H) test (tc s H)) (ha : QSs F AF C body ta) (hb : QSs F AF C orelse tb) (ht : ∀ s H, tc s H = tc {} H00 := by intro _ _; rfl) : QS F AF C (.If test body orelse pos) (tQIf (tc {} H00) ta tb) :=
  qs_if (fun s H => by rw [← ht s H]; exact hc s H) ha hb
end
/-- what may change amid a generator: lists, dicts, sets, instances of other classes than C -/
def Fre (C : Addr) : HO → Prop
  | .lst _ => True
  | .dK _ => True
  | .dT _ => True
  | .set _ _ => True
  | .ext _ => True
  | .ins C' _ _ => C' ≠ C
  | _ => False
theorem Fre.tbl {C : Addr} {ps : Array Value} : ¬ Fre C (.tbl ps) := fun h => h
/-- all but what M names (and the tables) stays -/
structure Km (M : Addr → Prop) (C : Addr) (T : List (Addr × Str)) (H H' : Hp) : Prop where
  keep : ∀ a o, H a = some o → ¬ M a → (∀ ps, o ≠ .tbl ps) → H' a = some o
  old : ∀ a, M a → ∃ o, H a = some o ∧ Fre C o
  new : ∀ a, M a → ∃ o, H' a = some o ∧ Fre C o
  tab : LamX.Tabs T H → LamX.Tabs T H'
section
variable {M : Addr → Prop} {C : Addr} {T : List (Addr × Str)} {H H1 H2 : Hp}
theorem Km.trans (a : Km M C T H H1) (b : Km M C T H1 H2) : Km M C T H H2 := ⟨fun c o e n t => b.keep c o (a.keep c o e n t) n t, a.old, b.new, fun t => b.tab (a.tab t)⟩
theorem Km.refl (h : ∀ a, M a → ∃ o, H a = some o ∧ Fre C o) : Km M C T H H := ⟨fun _ _ e _ _ => e, h, h, id⟩
theorem Km.fix (k : Km M C T H H1) {a : Addr} {o : HO} (e : H a = some o) (hn : ¬ Fre C o) (ht : ∀ ps, o ≠ .tbl ps) : H1 a = some o :=
  k.keep a o e (fun z => by
    obtain ⟨o', e', f⟩ := k.old a z
    rw [e] at e'
    cases e'
    exact hn f) ht
theorem Km.tup (k : Km M C T H H1) {a : Addr} {xs : List V} (e : H a = some (.tup xs)) : H1 a = some (.tup xs) := k.fix e (fun h => h) fun _ z => nomatch z
theorem Km.own (k : Km M C T H H1) {a : Addr} (e : H1 a = none) : ¬ M a := fun z => by
  obtain ⟨o, e', _⟩ := k.new a z
  rw [e] at e'
  cases e'
theorem Km.then (k : Km M C T H H1) (e : LamX.ExtN H1 H2) (t : LamX.Tabs T H1 → LamX.Tabs T H2) : Km M C T H H2 :=
  ⟨fun a o h n z => e a o (k.keep a o h n z) z, k.old, fun a m => let ⟨o, h, f⟩ := k.new a m; ⟨o, e a o h (fun ps z => by subst z; exact f), f⟩, fun y => t (k.tab y)⟩
end
end Gq
set_option Elab.async false
set_option linter.all false
set_option maxRecDepth 100000
set_option maxHeartbeats 4000000
/-! Party.crossings for a consumer with turns of its own. -/
namespace Gq
open PySem L2 Sho NdefX Shg Sh1
theorem flat_at {α β : Type} (f : α → List β) : ∀ {l : List α} {i j : Nat} {x : α}, l[i]? = some x → j < (f x).length → ((l.take i).flatMap f).length + j < (l.flatMap f).length ∧ (l.flatMap f)[((l.take i).flatMap f).length + j]? = (f x)[j]?
  | [], _, _, _, e, _ => by simp at e
  | y :: l, 0, j, x, e, h => by
    obtain rfl : y = x := by simpa using e
    simp only [List.take_zero, List.flatMap_nil, List.length_nil, Nat.zero_add, List.flatMap_cons, List.length_append]
    exact ⟨by omega, List.getElem?_append_left h⟩
  | y :: l, i + 1, j, x, e, h => by
    have ih := flat_at f (l := l) (i := i) (j := j) (x := x) (by simpa using e) h
    simp only [List.take_succ_cons, List.flatMap_cons, List.length_append]
    refine ⟨by omega, ?_⟩
    rw [List.getElem?_append_right (by omega), ← ih.2]
    congr 1
    omega
section
variable {P : Program} {w : World} {K : PySem.W.Frag} {mg : Str → Option Value} {base : Heap}
def spCrossQ (C : Addr) (T : List (Addr × Str)) : SpQ := fun vs H L Ct En => ∃ (p : Addr) (xs : List Stay) (M : Addr → Prop), vs = [.ref p] ∧ PartyAt C H p xs ∧ Short xs ∧ xs.length ≤ 100 ∧ LamX.Tabs T H ∧ L = (crossed (xs.map rw3)).length ∧ (∀ a, M a → ∃ o, H a = some o ∧ Fre C o) ∧
  (∀ m Hr x H1 q, m < L → Km M C T H Hr → Grows T Hr H1 → (crossed (xs.map rw3))[L - 1 - m]? = some q → PairAt H1 x q → Ct.Yd m Hr x H1) ∧ (∀ H1 H2, Ct.Cr H1 H2 → Km M C T H1 H2) ∧ (∀ Hr H1, Km M C T H Hr → Grows T Hr H1 → En Hr H1)
theorem rws_km {M : Addr → Prop} {C : Addr} {T : List (Addr × Str)} {H H' : Hp} (k : Km M C T H H') {ws : List V} {rs : List Rw} (h : RwsV H ws rs) : RwsV H' ws rs := Shg.pair_mono (fun _ _ ⟨t, e, ht⟩ => ⟨t, e, k.tup ht⟩) h
theorem ok_crossQ {f c TP C fB fL : Addr} {fd fdB fdL : FuncData} {T : List (Addr × Str)} (F : Shg.FunL K "crossings" "Party.crossings" sPCross f c fd) (B : Shg.Blt mg) (PC : PartyC K mg C) (TB : LamX.TabB base mg c TP) (hm : (TP, qCross) ∈ T) (hu : ∀ p ∈ T, p.1 = TP → p.2 = qCross)
    (GB : FnOk P w K mg base CX0 5 fB fdB ["stays"] (spBottom K T)) (mB : mg "bottom_up" = some (.ref fB)) (kB : PySem.W.keepIn K (.ref fB) = true) (bB : Binds K fdB ["stays"] [])
    (GL : FnOk P w K mg base CX0 6 fL fdL ["stays", "taker"] (spLiftedN K T)) (mL : mg "lifted_from" = some (.ref fL)) (kL : PySem.W.keepIn K (.ref fL) = true) (bL : Binds K fdL ["stays", "taker"] []) :
    GFnQ P w K mg base 8 f fd ["self"] (spCrossQ C T) := by
  obtain ⟨oc, od, kV, doc, pm, an, ct, osl, rfl, lk, hcd⟩ := F.ex
  refine qfn_of lk hcd scCross (fun n => rfl) fun A outer n0 pn H vs L Ct En hr h => ?_
  obtain ⟨p, xs, M, rfl, PA, hsh, hlen, hT, rfl, hM, kY, kC, kE⟩ := h
  have nd := scCross.nd
  refine ⟨_, qss_cons (qs_psF (fun s H => ps_set (i := 1) nd rfl (Or.inl rfl) (pe_revL (pe_call GB (hr.mono (by decide)) rfl mB kB bB .nil pass0 (pa_cons (pe_fld (pv 0) rfl) pa_nil)))))
    (qss_cons (qs_forF (fun s H => pi_list (pe_callBK (cr_sortedLam (k := 1) (hr.mono (by decide))) (by rfl) B.sorted (by decide +kernel) (pa_cons (pv 1) pa_nil) (pk_cons (pe_lam TB rfl hm hu (Shg.free_by (os := (defScope sPCross).names) (by decide +kernel))) pk_nil))) (fun s H => pg_name (i := 2) nd rfl (Or.inl rfl))
      (qss_cons (qs_forF (fun s H => pi_list (pe_call GL (hr.mono (by decide)) rfl mL kL bL .nil pass0 (pa_cons (pe_fld (pv 0) rfl) (pa_cons (pv 2) pa_nil)))) (fun s H => pg_name (i := 3) nd rfl (Or.inl rfl))
        (qss_cons (qs_yieldF (fun s H => pe_tup (pa_cons (pe_ix ix_tup (pv 2) pe_int (fun _ _ => rfl)) (pa_cons (pe_ix ix_tup (pv 3) pe_int (fun _ _ => rfl)) pa_nil)))) qss_nil)) qss_nil)) qss_nil), ?_⟩
  obtain ⟨dx, a, ws, h1, h2, h3⟩ := id PA
  have hw : RwsV H ws (xs.map rw3) := rws_of h3
  have lrs : (xs.map rw3).length ≤ 100 := by rw [List.length_map]; exact hlen
  have hok : ∀ r ∈ xs.map rw3, OkRw r := fun r hr => by
    obtain ⟨x, hx, rfl⟩ := List.mem_map.mp hr
    exact (hsh x hx).2
  generalize xs.map rw3 = rs at kY hw lrs hok ⊢
  have ncl : ∀ {dx' : Addr} {fs : List (Str × V)}, ¬ Fre C (.ins C dx' fs) := fun h => h rfl
  refine ⟨_, rfl, p, C, dx, _, .ref a, rfl, h1, PC.cl, PC.nS, lk_stays _, a, ws, rs.map Rw.come, rfl, .inr (SqT.of h2), ?_, ?_, hT, fun pb H1 G1 e1 => ⟨pb, _, rfl, SqL.of e1, fun pt hpt => ?_⟩⟩
  · rw [List.length_map, Shg.pair_len hw]
  · intro i y n hy hn
    obtain ⟨r, hr', t, rfl, ht⟩ := Shg.pair_get hw hy
    rw [List.getElem?_map, hr'] at hn
    exact ⟨t, _, rfl, ht, congrArg (Option.map V.int) hn⟩
  · have hb1 : RwsV H1 (sortV (rs.map Rw.come) ws).reverse (bot rs).reverse := paired_rev (bot_paired (hw.ext G1.ext))
    have s2 : Same H1 (upd H1 pt (.lst (sortV (rs.map Rw.come) ws).reverse)) := same_upd hpt
    have e2 : (upd H1 pt (.lst (sortV (rs.map Rw.come) ws).reverse)) pt = some (.lst (sortV (rs.map Rw.come) ws).reverse) := upd_same
    have G2 := G1.trans (Sh1.Grows.of s2)
    have hb2 : RwsV (upd H1 pt (.lst (sortV (rs.map Rw.come) ws).reverse)) (sortV (rs.map Rw.come) ws).reverse (bot rs).reverse := Shg.pair_mono (fun _ _ k => RwAt.same s2 k) hb1
    generalize (sortV (rs.map Rw.come) ws).reverse = ts at s2 e2 G2 hb2 ⊢
    generalize upd H1 pt (.lst ts) = H2 at s2 e2 G2 hb2 ⊢
    refine ⟨_, rfl, G2.tab hT, fun f0 c0 H3 G3 n0 l0 => ⟨pt, f0, _, ts, (bot rs).reverse.map Rw.go, rfl, rfl, .inl (SqL.of (G3.ext _ _ e2 fun _ z => nomatch z)), l0, ?_, fun A' outer' s' i v n u hr' e0 hv hn ru => ?_, fun ps hps => ?_⟩⟩
    · rw [List.length_map, Shg.pair_len hb2]
    · obtain ⟨r, hr1, t, rfl, ht⟩ := Shg.pair_get hb2 hv
      rw [List.getElem?_map, hr1] at hn
      exact key_item (j := 2) l0 (nscope_by (sc := Shg.scL [("stay", .local)]) (by decide +kernel)) rfl (fun _ _ _ => rfl) (fun A outer s => pe_ix ix_tup (pv 0) pe_int (fun _ _ => rfl)) hr' e0 ⟨t, _, rfl, G3.ext _ _ ht (fun _ z => nomatch z), congrArg (Option.map V.int) hn⟩ ru
    · have hb4 : RwsV (upd H3 ps (.lst (sortV ((bot rs).reverse.map Rw.go) ts))) (sortV ((bot rs).reverse.map Rw.go) ts) (takers rs) := Shg.pair_mono (fun _ _ k => RwAt.same (same_upd hps) k) (sort_paired Rw.go (hb2.ext G3.ext))
      have e4 : (upd H3 ps (.lst (sortV ((bot rs).reverse.map Rw.go) ts))) ps = some (.lst (sortV ((bot rs).reverse.map Rw.go) ts)) := upd_same
      have G23 := G2.trans G3
      have nM4 : ¬ M ps := fun z => by
        obtain ⟨o, e, f⟩ := hM ps z
        have := G23.ext ps o e fun qs y => by subst y; exact f
        rw [hps] at this
        cases this
      have G4 := G23.trans (Grows.upd hps (o := .lst (sortV ((bot rs).reverse.map Rw.go) ts)))
      generalize sortV ((bot rs).reverse.map Rw.go) ts = zs at hb4 e4 G4 ⊢
      generalize upd H3 ps (.lst zs) = H4 at hb4 e4 G4 ⊢
      have lz : zs.length = rs.length := by rw [Shg.pair_len hb4, takers_length]
      have K0 : Km M C T H H := Km.refl hM
      have K4 : Km M C T H4 H4 := Km.refl (K0.then G4.ext G4.tab).new
      have fl : ∀ (i : Nat), (((takers rs).take i).flatMap fun x => (lifted rs x).map fun y => (x.nm, y.nm)).length = (((takers rs).take i).flatMap fun x => (lifted rs x).map fun y => (x.nm, y.nm)).length := fun _ => rfl
      refine ⟨ps, rfl, ⟨_, SqL.of e4⟩, qloop_any (walk_list (K := K) (a := ps) (xs := zs)) (fun i n Hr σ H' => Km M C T H4 H' ∧ Km M C T H Hr ∧ Grows T Hr H' ∧ (∃ o2 o3, σ = [some (.ref p), some (.ref pt), o2, o3]) ∧ n + (((takers rs).take i).flatMap fun x => (lifted rs x).map fun y => (x.nm, y.nm)).length = (crossed rs).length)
        ⟨K4, K0, G4, ⟨none, none, rfl⟩, rfl⟩ (fun i n Hr σ H' _ q => SqL.of (q.1.keep _ _ e4 nM4 fun _ z => nomatch z)) (fun i v n Hr σ H5 H6 hi s5 yy => ?_) fun n Hr σ H5 s5 => ?_⟩
      · obtain ⟨K45, K0r, Gr5, ⟨o2, o3, rfl⟩, q5⟩ := s5
        obtain ⟨rfl, e5⟩ := yy
        obtain ⟨x, hx, t, rfl, ht⟩ := Shg.pair_get hb4 e5
        have K05 := K0r.then Gr5.ext Gr5.tab
        have ht6 := K45.tup ht
        have hxr : x ∈ rs := takers_mem (List.mem_of_getElem? hx)
        have ex : (takers rs).take (i + 1) = (takers rs).take i ++ [x] := by
          rw [List.take_succ, hx]
          rfl
        refine ⟨_, rfl, p, C, dx, _, .ref a, rfl, K05.fix h1 ncl (fun _ z => nomatch z), PC.cl, PC.nS, lk_stays _, _, rfl, a, .ref t, ws, rs, x, rfl, .inr (SqT.of (K05.tup h2)), rws_km K05 hw, ⟨t, rfl, ht6⟩, hxr, hok, Nat.le_trans lrs (by decide), K05.tab hT, fun pl H7 us hN G7 e7 r7 => ?_⟩
        have nM7 : ¬ M pl := fun z => by
          obtain ⟨o, e, f⟩ := K05.new pl z
          obtain ⟨qs, y⟩ := hN o e
          subst y
          exact f
        have lu := Shg.pair_len r7
        have K07 := K05.then G7.ext G7.tab
        have ht7 := G7.ext _ _ ht6 fun _ z => nomatch z
        refine ⟨pl, rfl, ⟨_, SqL.of e7⟩, qloop_any (walk_list (K := K) (a := pl) (xs := us)) (fun j n Hr σ' H' => Km M C T H7 H' ∧ Km M C T H Hr ∧ Grows T Hr H' ∧ (∃ o3, σ' = [some (.ref p), some (.ref pt), some (.ref t), o3]) ∧ n + ((((takers rs).take i).flatMap fun x => (lifted rs x).map fun y => (x.nm, y.nm)).length + j) = (crossed rs).length)
          ⟨Km.refl K07.new, K0r, Gr5.trans G7, ⟨o3, rfl⟩, q5⟩ (fun j n Hr σ' H' _ q => SqL.of (q.1.keep _ _ e7 nM7 fun _ z => nomatch z)) (fun j v' n Hr σ' H8 H9 hj s8 yy => ?_) fun n Hr σ' H8 s8 => ?_⟩
        · obtain ⟨K78, K0r', Gr8, ⟨o3', rfl⟩, q8⟩ := s8
          obtain ⟨rfl, e8⟩ := yy
          obtain ⟨y, hy, t', rfl, ht'⟩ := Shg.pair_get r7 e8
          have ht9 := K78.tup ht7
          have hy9 := K78.tup ht'
          obtain ⟨l1, l2⟩ := flat_at (fun x : Rw => (lifted rs x).map fun y => (x.nm, y.nm)) (l := takers rs) (i := i) (j := j) hx (by rw [List.length_map, ← lu]; exact hj)
          have l1 : (((takers rs).take i).flatMap fun x => (lifted rs x).map fun y => (x.nm, y.nm)).length + j < (crossed rs).length := l1
          have l2 : (crossed rs)[(((takers rs).take i).flatMap fun x => (lifted rs x).map fun y => (x.nm, y.nm)).length + j]? = some (x.nm, y.nm) := by
            refine l2.trans ?_
            rw [List.getElem?_map, hy]
            rfl
          refine ⟨n - 1, by omega, _, rfl, t, _, 0, .str x.nm, rfl, rfl, SqT.of ht9, atI_nat (j := 0) rfl, _, rfl, t', _, 0, .str y.nm, rfl, rfl, SqT.of hy9, atI_nat (j := 0) rfl, by show 2 ≤ sizeLine; decide, fun q hq => ?_⟩
          have Gq := Grows.upd (T := T) hq (o := .tup [.str x.nm, .str y.nm])
          refine ⟨kY _ _ _ _ (x.nm, y.nm) (by omega) K0r' (Gr8.trans Gq) ?_ ⟨q, rfl, upd_same⟩, fun H12 cr => ?_⟩
          · rw [show (crossed rs).length - 1 - (n - 1) = (((takers rs).take i).flatMap fun x => (lifted rs x).map fun y => (x.nm, y.nm)).length + j from by omega]
            exact l2
          · have K12 := kC _ _ cr
            exact ⟨(K78.then Gq.ext Gq.tab).trans K12, (K0r'.then (Gr8.trans Gq).ext (Gr8.trans Gq).tab).trans K12, Grows.rfl' _, ⟨_, rfl⟩, by omega⟩
        · obtain ⟨K78, K0r', Gr8, ⟨o3', rfl⟩, q8⟩ := s8
          refine ⟨(K45.then G7.ext G7.tab).trans K78, K0r', Gr8, ⟨_, _, rfl⟩, ?_⟩
          rw [ex, List.flatMap_append, List.flatMap_cons, List.flatMap_nil, List.append_nil, List.length_append, List.length_map, ← lu]
          exact q8
      · obtain ⟨K45, K0r, Gr5, ⟨o2, o3, rfl⟩, q5⟩ := s5
        rw [lz, ← takers_length rs, List.take_length] at q5
        have z : n = 0 := by
          have : (crossed rs).length = ((takers rs).flatMap fun x => (lifted rs x).map fun y => (x.nm, y.nm)).length := rfl
          omega
        exact ⟨z, kE _ _ K0r Gr5⟩
end
end Gq
set_option Elab.async false
set_option linter.all false
set_option maxRecDepth 100000
set_option maxHeartbeats 2000000
/-! Sleeping generators that a run does not wake stay as they are. -/
namespace Gq
open PySem
open Sem (wp)
abbrev dead : Resume → Sem PySem.Fin := fun _ => .unsupported ""
theorem no_run {M : Model} {Γ : Ctx} {p : Pos} {t : Sem PySem.Fin} {fs : List Frame} {s s' : Shared} {e : End} (h : Runs M Γ p t fs s e s') : ∀ w, t ≠ .unsupported w := by
  induction h <;> intro w z <;> first | (cases z; done) | (rename_i ih _; exact ih _ z) | (rename_i ih; exact ih _ z) | (rename_i ih _ _; exact ih _ z)
/-- no generator's frame -/
def NoGen (fs : List Frame) : Prop := ∀ F ∈ fs, ∃ k h g l c p kp, F = Frame.ret k h g l c p kp
theorem NoGen.split : ∀ {fs : List Frame}, NoGen fs → splitAtGen fs = none
  | [], _ => rfl
  | F :: fs, h => by
    obtain ⟨k, hh, g, l, c, p, kp, rfl⟩ := h F List.mem_cons_self
    show (splitAtGen fs).map _ = none
    rw [NoGen.split fun G hG => h G (List.mem_cons_of_mem _ hG)]
    rfl
theorem NoGen.of_split : ∀ {fs : List Frame}, splitAtGen fs = none → NoGen fs
  | [], _ => fun F h => nomatch h
  | .gen g k l c p :: fs, h => by cases h
  | .ret k hh g l c p kp :: fs, h => fun F hF => by
    rcases List.mem_cons.mp hF with rfl | hF
    · exact ⟨_, _, _, _, _, _, _, rfl⟩
    · refine NoGen.of_split (fs := fs) ?_ F hF
      cases q : splitAtGen fs with
      | none => rfl
      | some x =>
        have h' : (splitAtGen fs).map _ = none := h
        rw [q] at h'
        cases h'
theorem NoGen.app {a b : List Frame} (x : NoGen a) (y : NoGen b) : NoGen (a ++ b) := fun F h => (List.mem_append.mp h).elim (x F) (y F)
def EndNo : End → Prop
  | .ret _ => True
  | .susp _ _ _ _ _ _ fs => NoGen fs
/-- all that sleep hold no generator's frame -/
def Cl (s : Shared) : Prop := ∀ (i : Nat) k l c p fs cl, s.gens[i]? = some (GenState.suspended k l c p fs cl) → NoGen fs
theorem Cl.set {s : Shared} (h : Cl s) {g : Nat} {x : GenState} (hx : ∀ k l c p fs cl, x = .suspended k l c p fs cl → NoGen fs) : Cl (s.setGen g x) := fun i k l c p fs cl e => by
  have e : (s.gens.setIfInBounds g x)[i]? = _ := e
  rw [Array.getElem?_setIfInBounds] at e
  split at e
  · split at e
    · exact hx _ _ _ _ _ _ (Option.some.inj e)
    · cases e
  · exact h i k l c p fs cl e
theorem Cl.fin {s : Shared} (h : Cl s) {g : Nat} {e : End} (he : EndNo e) : Cl (s.setGen g e.genState) := h.set fun k l c p fs cl z => by
  cases e with
  | ret r => cases z
  | susp v g l k c p fs => cases z; exact he
section
variable {M : Model} {DS : Nat → Option GenState} {RS : Nat → GenState}
/-- the real ones in the place of the dead ones -/
def ov (DS : Nat → Option GenState) (RS : Nat → GenState) (s : Shared) : Shared := { s with gens := s.gens.mapIdx fun i x => if (DS i).isSome = true then RS i else x }
/-- the dead ones stand there -/
def Dd (DS : Nat → Option GenState) (s : Shared) : Prop := ∀ i d, DS i = some d → s.gens[i]? = some d
structure Fix (DS : Nat → Option GenState) (RS : Nat → GenState) : Prop where
  dead : ∀ i d, DS i = some d → ∃ l c p fs cl, d = .suspended Gq.dead l c p fs cl
  seen : ∀ i d, DS i = some d → (RS i).seen = d.seen
theorem ov_size {s : Shared} : (ov DS RS s).gens.size = s.gens.size := Array.size_mapIdx ..
theorem ov_no {s : Shared} {i : Nat} (h : DS i = none) : (ov DS RS s).gens[i]? = s.gens[i]? := by
  show (s.gens.mapIdx _)[i]? = _
  rw [Array.getElem?_mapIdx, h]
  cases s.gens[i]? <;> rfl
theorem ov_at {s : Shared} {i : Nat} {d : GenState} (hd : Dd DS s) (h : DS i = some d) : (ov DS RS s).gens[i]? = some (RS i) := by
  show (s.gens.mapIdx _)[i]? = _
  rw [Array.getElem?_mapIdx, hd i d h, h]
  rfl
theorem ov_set {s : Shared} {g : Nat} {x : GenState} (h : DS g = none) : ov DS RS (s.setGen g x) = (ov DS RS s).setGen g x := by
  unfold ov Shared.setGen
  simp only [Shared.mk.injEq, true_and, and_true]
  apply Array.ext_getElem?
  intro i
  rw [Array.getElem?_mapIdx, Array.getElem?_setIfInBounds, Array.getElem?_setIfInBounds, Array.getElem?_mapIdx, Array.size_mapIdx]
  by_cases e : g = i
  · subst e
    rw [if_pos rfl, if_pos rfl, h]
    by_cases e2 : g < s.gens.size
    · rw [if_pos e2]; rfl
    · rw [if_neg e2]; rfl
  · rw [if_neg e, if_neg e]
theorem ov_push {s : Shared} {x : GenState} (hd : Dd DS s) : ov DS RS { s with gens := s.gens.push x } = { ov DS RS s with gens := (ov DS RS s).gens.push x } := by
  unfold ov
  simp only [Shared.mk.injEq, true_and, and_true]
  apply Array.ext_getElem?
  intro i
  rw [Array.getElem?_mapIdx, Array.getElem?_push, Array.getElem?_push, Array.getElem?_mapIdx, Array.size_mapIdx]
  by_cases e : i = s.gens.size
  · subst e
    rw [if_pos rfl, if_pos rfl]
    have hn : DS s.gens.size = none := by
      cases q : DS s.gens.size with
      | none => rfl
      | some d =>
        have := hd _ d q
        simp at this
    simp [hn]
  · rw [if_neg e, if_neg e]
theorem Dd.set {s : Shared} {g : Nat} {x : GenState} (hd : Dd DS s) (h : DS g = none) : Dd DS (s.setGen g x) := fun i d e => by
  have z : i ≠ g := fun z => by subst z; rw [h] at e; cases e
  show (s.gens.setIfInBounds g x)[i]? = _
  rw [Array.getElem?_setIfInBounds_ne (Ne.symm z)]
  exact hd i d e
theorem Dd.push {s : Shared} {x : GenState} (hd : Dd DS s) : Dd DS { s with gens := s.gens.push x } := fun i d e => by
  have hlt : i < s.gens.size := (Array.getElem?_eq_some_iff.mp (hd i d e)).1
  show (s.gens.push x)[i]? = _
  rw [Array.getElem?_push_lt hlt, ← Array.getElem?_eq_getElem hlt]
  exact hd i d e
theorem Cl.push {s : Shared} {c : Code} (h : Cl s) : Cl { s with gens := s.gens.push (.fresh c) } := fun i k l c' p fs cl e => by
  have e : (s.gens.push (.fresh c))[i]? = _ := e
  rw [Array.getElem?_push] at e
  split at e
  · cases e
  · exact h i k l c' p fs cl e
theorem no_ds {s : Shared} {g : Nat} {st : GenState} (F : Fix DS RS) (hd : Dd DS s) (h : s.gens[g]? = some st) (hn : ∀ l c p fs cl, st ≠ .suspended dead l c p fs cl) : DS g = none := by
  cases q : DS g with
  | none => rfl
  | some d =>
    have e := hd g d q
    rw [h] at e
    cases e
    obtain ⟨l, c, p, fs, cl, z⟩ := F.dead g _ q
    exact absurd z (hn _ _ _ _ _)
/-- a run over the dead ones is a run over the real ones -/
theorem runs_dead (F : Fix DS RS) {Γ : Ctx} {p : Pos} {t : Sem PySem.Fin} {fs : List Frame} {s s' : Shared} {e : End} (h : Runs M Γ p t fs s e s') :
    NoGen fs → Cl s → Dd DS s → EndNo e ∧ Cl s' ∧ Dd DS s' ∧ Runs M Γ p t fs (ov DS RS s) e (ov DS RS s') := by
  induction h with
  | done => exact fun _ hc hd => ⟨trivial, hc, hd, .done⟩
  | raise => exact fun _ hc hd => ⟨trivial, hc, hd, .raise⟩
  | again hq _ ih => exact fun hf hc hd => let ⟨a, b, c, d⟩ := ih hf hc hd; ⟨a, b, c, .again hq d⟩
  | rule _ ih => exact fun hf hc hd => let ⟨a, b, c, d⟩ := ih hf hc hd; ⟨a, b, c, .rule d⟩
  | «at» _ ih => exact fun hf hc hd => let ⟨a, b, c, d⟩ := ih hf hc hd; ⟨a, b, c, .at d⟩
  | load ho _ ih => exact fun hf hc hd => let ⟨a, b, c, d⟩ := ih hf hc hd; ⟨a, b, c, .load ho d⟩
  | update ho _ ih => exact fun hf hc hd => let ⟨a, b, c, d⟩ := ih hf hc hd; ⟨a, b, c, .update ho d⟩
  | loadIfAlive _ ih => exact fun hf hc hd => let ⟨a, b, c, d⟩ := ih hf hc hd; ⟨a, b, c, .loadIfAlive d⟩
  | point _ ih => exact fun hf hc hd => let ⟨a, b, c, d⟩ := ih hf hc hd; ⟨a, b, c, .point d⟩
  | alloc _ ih => exact fun hf hc hd => let ⟨a, b, c, d⟩ := ih hf hc hd; ⟨a, b, c, .alloc d⟩
  | fresh _ ih => exact fun hf hc hd => let ⟨a, b, c, d⟩ := ih hf hc hd; ⟨a, b, c, .fresh d⟩
  | ask _ ih => exact fun hf hc hd => let ⟨a, b, c, d⟩ := ih hf hc hd; ⟨a, b, c, .ask d⟩
  | choose hn _ ih => exact fun hf hc hd => let ⟨a, b, c, d⟩ := ih hf hc hd; ⟨a, b, c, .choose hn d⟩
  | os _ ih => exact fun hf hc hd => let ⟨a, b, c, d⟩ := ih hf hc hd; ⟨a, b, c, .os d⟩
  | handled _ ih => exact fun hf hc hd => let ⟨a, b, c, d⟩ := ih hf hc hd; ⟨a, b, c, .handled d⟩
  | stack _ ih => exact fun hf hc hd => let ⟨a, b, c, d⟩ := ih hf hc hd; ⟨a, b, c, .stack d⟩
  | thread _ ih => exact fun hf hc hd => let ⟨a, b, c, d⟩ := ih hf hc hd; ⟨a, b, c, .thread d⟩
  | genState hst _ ih =>
    intro hf hc hd
    obtain ⟨a, b, c, d⟩ := ih hf hc hd
    refine ⟨a, b, c, ?_⟩
    rename_i g' st _ _ _ _ _ _ _
    cases q : DS g' with
    | none => exact .genState ((ov_no q).trans hst) d
    | some dd =>
      have e := hd _ _ q
      rw [hst] at e
      cases e
      refine .genState (ov_at hd q) ?_
      rw [F.seen _ _ q]
      exact d
  | newGen _ ih =>
    intro hf hc hd
    obtain ⟨a, b, c, d⟩ := ih hf (Cl.push hc) (Dd.push hd)
    refine ⟨a, b, c, .newGen ?_⟩
    rw [ov_size, ← ov_push hd]
    exact d
  | call _ _ ih1 ih2 =>
    intro hf hc hd
    obtain ⟨a1, b1, c1, d1⟩ := ih1 hf hc hd
    obtain ⟨a2, b2, c2, d2⟩ := ih2 hf b1 c1
    exact ⟨a2, b2, c2, .call d1 d2⟩
  | callSusp _ ih =>
    intro hf hc hd
    obtain ⟨a, b, c, d⟩ := ih hf hc hd
    refine ⟨NoGen.app a fun F hF => ?_, b, c, .callSusp d⟩
    rw [List.mem_singleton.mp hF]
    exact ⟨_, _, _, _, _, _, _, rfl⟩
  | yield => exact fun hf hc hd => ⟨(fun F h => nomatch h), hc, hd, .yield⟩
  | resumeFresh hst h1 hq h2 ih1 ih2 =>
    intro hf hc hd
    have hn := no_ds F hd hst (fun _ _ _ _ _ z => nomatch z)
    obtain ⟨a1, b1, c1, d1⟩ := ih1 hf (hc.set fun _ _ _ _ _ _ z => nomatch z) (hd.set hn)
    obtain ⟨a2, b2, c2, d2⟩ := ih2 hf (b1.fin a1) (c1.set hn)
    rw [ov_set hn] at d1 d2
    exact ⟨a2, b2, c2, .resumeFresh ((ov_no hn).trans hst) d1 hq d2⟩
  | resumeSuspended hst h1 hq h2 ih1 ih2 =>
    intro hf hc hd
    have hn := no_ds F hd hst (fun _ _ _ _ _ z => by cases z; exact no_run h1 _ rfl)
    obtain ⟨a1, b1, c1, d1⟩ := ih1 (hc _ _ _ _ _ _ _ hst) (hc.set fun _ _ _ _ _ _ z => nomatch z) (hd.set hn)
    obtain ⟨a2, b2, c2, d2⟩ := ih2 hf (b1.fin a1) (c1.set hn)
    rw [ov_set hn] at d1 d2
    exact ⟨a2, b2, c2, .resumeSuspended ((ov_no hn).trans hst) d1 hq d2⟩
  | resumeJustStarted hst hv _ ih =>
    intro hf hc hd
    have hn := no_ds F hd hst (fun _ _ _ _ _ z => nomatch z)
    obtain ⟨a, b, c, d⟩ := ih hf hc hd
    exact ⟨a, b, c, .resumeJustStarted ((ov_no hn).trans hst) hv d⟩
  | resumeThrowFresh hst _ ih =>
    intro hf hc hd
    have hn := no_ds F hd hst (fun _ _ _ _ _ z => nomatch z)
    obtain ⟨a, b, c, d⟩ := ih hf (hc.set fun _ _ _ _ _ _ z => nomatch z) (hd.set hn)
    rw [ov_set hn] at d
    exact ⟨a, b, c, .resumeThrowFresh ((ov_no hn).trans hst) d⟩
  | resumeRunning hst _ ih =>
    intro hf hc hd
    have hn := no_ds F hd hst (fun _ _ _ _ _ z => nomatch z)
    obtain ⟨a, b, c, d⟩ := ih hf hc hd
    exact ⟨a, b, c, .resumeRunning ((ov_no hn).trans hst) d⟩
  | resumeFinished hst _ ih =>
    intro hf hc hd
    have hn := no_ds F hd hst (fun _ _ _ _ _ z => nomatch z)
    obtain ⟨a, b, c, d⟩ := ih hf hc hd
    exact ⟨a, b, c, .resumeFinished ((ov_no hn).trans hst) d⟩
  | segRet _ _ ih1 ih2 =>
    intro hf hc hd
    obtain ⟨a1, b1, c1, d1⟩ := ih1 (fun F h => nomatch h) hc hd
    obtain ⟨a2, b2, c2, d2⟩ := ih2 (fun F h => hf F (List.mem_cons_of_mem _ h)) b1 c1
    exact ⟨a2, b2, c2, .segRet d1 d2⟩
  | segGen h1 h2 ih1 ih2 =>
    intro hf
    have := hf.split
    cases this
  | segSuspOut hs _ ih =>
    intro hf hc hd
    obtain ⟨a, b, c, d⟩ := ih (fun F h => nomatch h) hc hd
    exact ⟨NoGen.app a hf, b, c, .segSuspOut hs d⟩
  | segSuspGen hs h1 hq h2 ih1 ih2 =>
    intro hf
    rw [hf.split] at hs
    cases hs
/-- .. a program's tree -/
theorem wp_dead (F : Fix DS RS) {α : Type} {Γ : Ctx} (t : Sem α) : ∀ {Q : α → Pos → Shared → Prop} {E : Value → Pos → Shared → Prop} {p : Pos} {s : Shared}, Cl s → Dd DS s → wp M Γ t Q E p s →
    wp M Γ t (fun a p' s' => ∃ sd, s' = ov DS RS sd ∧ Dd DS sd ∧ Q a p' sd) (fun e p' s' => ∃ sd, s' = ov DS RS sd ∧ Dd DS sd ∧ E e p' sd) p (ov DS RS s) := by
  induction t with
  | pure a => exact fun _ hd h => ⟨_, rfl, hd, h⟩
  | raise e => exact fun _ hd h => ⟨_, rfl, hd, h⟩
  | unsupported _ => exact fun _ _ h => h
  | finish _ => exact fun _ _ h => h
  | rule _ k ih => exact fun hc hd h => ih () hc hd h
  | «at» p' k ih => exact fun hc hd h => ih () hc hd h
  | load a _ k ih => exact fun hc hd h => let ⟨o, ho, h⟩ := h; ⟨o, ho, ih o hc hd h⟩
  | update a _ f k ih => exact fun {Q E p s} hc hd h => ⟨h.1, ih () (s := { s with heap := s.heap.update a f }) hc hd h.2⟩
  | loadIfAlive a k ih => exact fun hc hd h => ih _ hc hd h
  | point _ k ih => exact fun hc hd h => ih () hc hd h
  | register _ _ => exact fun _ _ h => h
  | alloc o k ih => exact fun {Q E p s} hc hd h => ih _ (s := { s with heap := s.heap.push o }) hc hd h
  | fresh k ih => exact fun {Q E p s} hc hd h => ih _ (s := { s with toks := s.toks + 1 }) hc hd h
  | ask k ih => exact fun hc hd h => ih _ hc hd h
  | choose src m k ih => exact fun {Q E p s} hc hd h => ⟨h.1, ih _ (s := { s with drawn := s.drawn.bump src }) hc hd h.2⟩
  | os q _ k ih => exact fun {Q E p s} hc hd h => ih _ (s := { s with os := (Os.step s.os q).1 }) hc hd h
  | call c hh _ _ k ih =>
    intro Q E p s hc hd h
    obtain ⟨r, s1, hr, h⟩ := h
    obtain ⟨_, b, c', d⟩ := runs_dead F hr (fun F h => nomatch h) hc hd
    exact ⟨r, _, d, ih r b c' h⟩
  | handled own k ih => exact fun hc hd h => ih _ hc hd h
  | genState g' k ih =>
    intro Q E p s hc hd h
    obtain ⟨st, hst, h⟩ := h
    cases q : DS g' with
    | none => exact ⟨st, (ov_no q).trans hst, ih _ hc hd h⟩
    | some dd =>
      have e := hd _ _ q
      rw [hst] at e
      cases e
      refine ⟨_, ov_at hd q, ?_⟩
      rw [F.seen _ _ q]
      exact ih _ hc hd h
  | newGen c k ih =>
    intro Q E p s hc hd h
    have := ih _ (Cl.push (c := c) hc) (Dd.push (x := .fresh c) hd) h
    show wp M Γ (k (ov DS RS s).gens.size) _ _ p { ov DS RS s with gens := (ov DS RS s).gens.push (.fresh c) }
    rw [ov_size, ← ov_push hd]
    exact this
  | resume g' r l k ih =>
    intro Q E p s hc hd h
    obtain ⟨res, s', hw, h⟩ := h
    unfold Wakes at hw
    cases q : s.gens[g']? with
    | none => rw [q] at hw; exact hw.elim
    | some st =>
      rw [q] at hw
      cases st with
      | fresh c =>
        have hn := no_ds F hd q (fun _ _ _ _ _ z => nomatch z)
        have q' := (ov_no (RS := RS) hn).trans q
        cases r with
        | throw x =>
          obtain ⟨rfl, rfl⟩ := hw
          refine ⟨_, _, ?_, ih _ (hc.set (x := .finished) fun _ _ _ _ _ _ z => nomatch z) (hd.set hn) h⟩
          unfold Wakes
          rw [q']
          exact ⟨rfl, ov_set hn⟩
        | send v =>
          by_cases z : v = .none
          · subst z
            obtain ⟨e₁, s₁, hr, hq, rfl, rfl⟩ := hw
            obtain ⟨a, b, c', d⟩ := runs_dead F hr (fun F h => nomatch h) (hc.set fun _ _ _ _ _ _ z => nomatch z) (hd.set hn)
            rw [ov_set hn] at d
            refine ⟨_, _, ?_, ih _ (b.fin a) (c'.set hn) h⟩
            unfold Wakes
            rw [q']
            exact ⟨e₁, _, d, hq, rfl, ov_set hn⟩
          · have hw : res = .justStarted ∧ s' = s := by
              cases v <;> first | exact absurd rfl z | exact hw
            obtain ⟨rfl, rfl⟩ := hw
            refine ⟨_, _, ?_, ih _ hc hd h⟩
            unfold Wakes
            rw [q']
            cases v <;> first | exact absurd rfl z | exact ⟨rfl, rfl⟩
      | suspended k₀ l₀ c₀ p₀ fs cl =>
        obtain ⟨e₁, s₁, hr, hq, rfl, rfl⟩ := hw
        have hn := no_ds F hd q (fun _ _ _ _ _ z => by cases z; exact no_run hr _ rfl)
        obtain ⟨a, b, c', d⟩ := runs_dead F hr (hc _ _ _ _ _ _ _ q) (hc.set fun _ _ _ _ _ _ z => nomatch z) (hd.set hn)
        rw [ov_set hn] at d
        refine ⟨_, _, ?_, ih _ (b.fin a) (c'.set hn) h⟩
        unfold Wakes
        rw [ov_no hn, q]
        exact ⟨e₁, _, d, hq, rfl, ov_set hn⟩
      | running =>
        obtain ⟨rfl, rfl⟩ := hw
        have hn := no_ds F hd q (fun _ _ _ _ _ z => nomatch z)
        refine ⟨_, _, ?_, ih _ hc hd h⟩
        unfold Wakes
        rw [ov_no hn, q]
        exact ⟨rfl, rfl⟩
      | finished =>
        obtain ⟨rfl, rfl⟩ := hw
        have hn := no_ds F hd q (fun _ _ _ _ _ z => nomatch z)
        refine ⟨_, _, ?_, ih _ hc hd h⟩
        unfold Wakes
        rw [ov_no hn, q]
        exact ⟨rfl, rfl⟩
  | yield v g' l k => exact fun _ _ h => h
  | stack k ih => exact fun hc hd h => ih _ hc hd h
  | fork _ _ => exact fun _ _ h => h
  | thread k ih => exact fun hc hd h => ih _ hc hd h
  | await _ _ _ _ _ => exact fun _ _ h => h
end
/-- a state whose sleepers are dead -/
def deadF (F : Frame) : Frame := .ret (fun _ => .unsupported "") none false [] F.where_.1 F.where_.2 []
def lullG : GenState → GenState
  | .suspended _ l c p fs cl => .suspended dead l c p (fs.map deadF) cl
  | x => x
def lull (s : Shared) : Shared := { s with gens := s.gens.map lullG }
theorem lull_seen (x : GenState) : (lullG x).seen = x.seen := by
  cases x <;> first | rfl | skip
  rename_i k l c p fs cl
  show (GenStatus.suspended, some ((c, p) :: (fs.map deadF).map Frame.where_)) = _
  rw [List.map_map]
  rfl
theorem lull_bare {x : GenState} (h : x.bare = true) : (lullG x).bare = true := by
  cases x <;> exact h
def Asl : GenState → Prop
  | .suspended .. => True
  | _ => False
theorem lull_cl (s : Shared) : Cl (lull s) := fun i k l c p fs cl e => by
  have e : (s.gens.map lullG)[i]? = _ := e
  rw [Array.getElem?_map] at e
  cases q : s.gens[i]? with
  | none => rw [q] at e; cases e
  | some x =>
    rw [q] at e
    cases x with
    | suspended k' l' c' p' fs' cl' =>
      cases e
      intro F hF
      obtain ⟨G, _, rfl⟩ := List.mem_map.mp hF
      exact ⟨_, _, _, _, _, _, _, rfl⟩
    | _ => cases e
open Classical in
/-- the run of a tree where all that sleep are dead: they are left as they were -/
theorem wpAny_lull {M : Model} {α : Type} {A : Around} {t : Sem α} {Q : α → Shared → Prop} {E : Value → Shared → Prop} {s : Shared}
    (h : wpAny M A t (fun a sd => ∀ s', s'.heap = sd.heap → s'.os = sd.os → (PyProof.Rows.AllBare s.gens → PyProof.Rows.AllBare sd.gens → PyProof.Rows.AllBare s'.gens) → (∀ (i : Nat) st, s.gens[i]? = some st → Asl st → s'.gens[i]? = some st) → Q a s')
      (fun e sd => ∀ s', s'.heap = sd.heap → s'.os = sd.os → (PyProof.Rows.AllBare s.gens → PyProof.Rows.AllBare sd.gens → PyProof.Rows.AllBare s'.gens) → (∀ (i : Nat) st, s.gens[i]? = some st → Asl st → s'.gens[i]? = some st) → E e s') (lull s)) : wpAny M A t Q E s := by
  intro Γ p hΓ
  let DS : Nat → Option GenState := fun i => match s.gens[i]? with | some (.suspended k l c p fs cl) => some (lullG (.suspended k l c p fs cl)) | _ => none
  let RS : Nat → GenState := fun i => (s.gens[i]?).getD .running
  have dsd : ∀ i d, DS i = some d → ∃ k l c p fs cl, s.gens[i]? = some (.suspended k l c p fs cl) ∧ d = lullG (.suspended k l c p fs cl) := fun i d e => by
    have e : (match s.gens[i]? with | some (.suspended k l c p fs cl) => some (lullG (.suspended k l c p fs cl)) | _ => none) = some d := e
    cases q : s.gens[i]? with
    | none => rw [q] at e; cases e
    | some x =>
      rw [q] at e
      cases x with
      | suspended k l c p fs cl => cases e; exact ⟨_, _, _, _, _, _, rfl, rfl⟩
      | _ => cases e
  have F : Fix DS RS := ⟨fun i d e => by
      obtain ⟨k, l, c, p, fs, cl, _, rfl⟩ := dsd i d e
      exact ⟨_, _, _, _, _, rfl⟩, fun i d e => by
      obtain ⟨k, l, c, p, fs, cl, q, rfl⟩ := dsd i d e
      show ((s.gens[i]?).getD .running).seen = _
      rw [q, lull_seen]
      rfl⟩
  have hd : Dd DS (lull s) := fun i d e => by
    obtain ⟨k, l, c, p, fs, cl, q, rfl⟩ := dsd i d e
    show (s.gens.map lullG)[i]? = _
    rw [Array.getElem?_map, q]
    rfl
  have e0 : ov DS RS (lull s) = s := by
    have : ((s.gens.map lullG).mapIdx fun i x => if (DS i).isSome = true then RS i else x) = s.gens := by
      apply Array.ext_getElem?
      intro i
      rw [Array.getElem?_mapIdx, Array.getElem?_map]
      cases q : s.gens[i]? with
      | none => rfl
      | some x =>
        have hR : RS i = x := by show (s.gens[i]?).getD .running = x; rw [q]; rfl
        show some (if (DS i).isSome = true then RS i else lullG x) = some x
        cases x with
        | suspended k l c p fs cl =>
          have : DS i = some (lullG (.suspended k l c p fs cl)) := by show (match s.gens[i]? with | some (.suspended k l c p fs cl) => some (lullG (.suspended k l c p fs cl)) | _ => none) = _; rw [q]
          rw [this, hR]
          rfl
        | _ =>
          have : DS i = none := by show (match s.gens[i]? with | some (.suspended k l c p fs cl) => some (lullG (.suspended k l c p fs cl)) | _ => none) = _; rw [q]
          rw [this]
          rfl
    show ({ s with gens := ((s.gens.map lullG).mapIdx fun i x => if (DS i).isSome = true then RS i else x) } : Shared) = s
    rw [this]
  have key := wp_dead (M := M) F t (lull_cl s) hd (h Γ p hΓ)
  rw [e0] at key
  have fin : ∀ {sd : Shared}, Dd DS sd → (PyProof.Rows.AllBare s.gens → PyProof.Rows.AllBare sd.gens → PyProof.Rows.AllBare (ov DS RS sd).gens) ∧ ∀ (i : Nat) st, s.gens[i]? = some st → Asl st → (ov DS RS sd).gens[i]? = some st := fun {sd} hdd => by
    refine ⟨fun b1 b2 x hx => ?_, fun i st q ha => ?_⟩
    · obtain ⟨i, hi, rfl⟩ := Array.mem_iff_getElem.mp hx
      have e : (ov DS RS sd).gens[i]? = some (ov DS RS sd).gens[i] := Array.getElem?_eq_getElem hi
      generalize (ov DS RS sd).gens[i] = y at e
      cases q : DS i with
      | none =>
        rw [ov_no q] at e
        exact b2 y (Array.mem_of_getElem? e)
      | some d =>
        rw [ov_at hdd q] at e
        cases e
        obtain ⟨k, l, c, p, fs, cl, q', _⟩ := dsd i d q
        show ((s.gens[i]?).getD .running).bare = true
        rw [q']
        exact b1 _ (Array.mem_of_getElem? q')
    · cases st with
      | suspended k l c p fs cl =>
        have : DS i = some (lullG (.suspended k l c p fs cl)) := by show (match s.gens[i]? with | some (.suspended k l c p fs cl) => some (lullG (.suspended k l c p fs cl)) | _ => none) = _; rw [q]
        rw [ov_at hdd this]
        show some ((s.gens[i]?).getD .running) = _
        rw [q]
        rfl
      | _ => exact ha.elim
  refine Sem.wp_mono M Γ t (fun a p' s' hs => ?_) (fun e p' s' hs => ?_) p s key
  · obtain ⟨sd, rfl, hdd, hq⟩ := hs
    exact hq _ rfl rfl (fin hdd).1 (fin hdd).2
  · obtain ⟨sd, rfl, hdd, hq⟩ := hs
    exact hq _ rfl rfl (fin hdd).1 (fin hdd).2
theorem lull_allBare {s : Shared} (h : PyProof.Rows.AllBare s.gens) : PyProof.Rows.AllBare (lull s).gens := fun x hx => by
  obtain ⟨y, hy, rfl⟩ := Array.mem_map.mp hx
  exact lull_bare (h y hy)
end Gq
set_option Elab.async false
set_option linter.all false
set_option maxRecDepth 100000
set_option maxHeartbeats 2000000
/-! next() of such a generator; the consumer's facts behind it. -/
namespace Gq
open PySem L2 PySem.Spec PyProof.Rows GenW
def GoesN (M : Model) (A : Around) (R : GenEnd) (Y : Protocol) (gs : GenState) : Nat → Resume → Shared → Prop
  | 0 => fun _ _ => False
  | m + 1 => fun r s => gs.Goes M A R Y m r s
section
variable {M : Model}
theorem resume_asl {α : Type} {A : Around} {R : GenEnd} {Y : Protocol} {n : Nat} {E : Value → Shared → Prop} {s : Shared} {g : Nat} {gs : GenState} {l : List Value} {k : GenResult → Sem α} {Q : α → Shared → Prop} (hg : s.gens[g]? = some gs)
    (hgo : gs.Goes M A R Y n (.send .none) (s.setGen g .running))
    (hR : ∀ x s₁, R n (s.setGen g .running) x s₁ → wpAny M A (k (End.ret x).result) Q E (s₁.setGen g .finished))
    (hY : ∀ v s₁ gs', gs'.bare = true → Asl gs' → Y (n - 1) (s.setGen g .running) v s₁ (GoesN M A R Y gs' n) → wpAny M A (k (.yielded v)) Q E (s₁.setGen g gs')) :
    wpAny M A (.resume g (.send .none) l k) Q E s := by
  intro Γ p hΓ
  rw [Sem.wp_resume]
  -- the end of a segment
  have fin : ∀ e₁ s₁, SegEnd R Y n (Seg.next M A R Y n) (s.setGen g .running) e₁ s₁ →
      Sem.wp M Γ (k e₁.result) (fun a _ s' => Q a s') (fun e _ s' => E e s') p (s₁.setGen g e₁.genState) ∧ e₁.quiet = true := fun e₁ s₁ he => by
    cases e₁ with
    | ret x => exact ⟨hR x s₁ he Γ p hΓ, rfl⟩
    | susp v g₀ l₀ k₀ c₀ p₀ fs₀ =>
      refine ⟨hY v s₁ _ (End.bare_of_quiet he.1) trivial ?_ Γ p hΓ, he.1⟩
      cases n with
      | zero => exact he.2
      | succ m => exact he.2
  have hB : ∀ c, (Γ.wake c p).Woken A := fun c => hΓ.wake c p
  cases gs with
  | running => exact hgo.elim
  | finished => exact hgo.elim
  | fresh c =>
    obtain ⟨e₁, s₁, hr, he⟩ := seg_iff.mp hgo.2 (Γ.wake c p) p rfl (hB c)
    refine ⟨_, _, ?_, (fin e₁ s₁ he).1⟩
    unfold Wakes
    rw [hg]
    exact ⟨e₁, s₁, hr, (fin e₁ s₁ he).2, rfl, rfl⟩
  | suspended k₀ l₀ c₀ p₀ fs₀ cl =>
    obtain ⟨e₁, s₁, hr, he⟩ := seg_iff.mp hgo (Γ.wake c₀ p) p₀ rfl (hB c₀)
    refine ⟨_, _, ?_, (fin e₁ s₁ he).1⟩
    unfold Wakes
    rw [hg]
    exact ⟨e₁, s₁, hr, (fin e₁ s₁ he).2, rfl, rfl⟩
end
section
variable {P : Program} {w : World} {A : Around} {E : Value → Shared → Prop} {s : Shared}
/-- next(g): an item, or the end -/
theorem next_asl {a : Addr} {g n : Nat} {gs : GenState} {R : GenEnd} {Y : Protocol} {Q : Option Value → Shared → Prop} (hh : A.handled = none)
    (hl : s.heap.NoLimit) (hroom : A.depth < recursionLimit) (hg : s.heap.IsGen a g) (hgs : s.gens[g]? = some gs)
    (hgo : gs.Goes (model P w) A.in1 R Y n (.send .none) (s.setGen g .running)) (hRr : ∀ n s₀ r s₁, R n s₀ r s₁ → r = .ok (.ret .none) ∨ r = .ok .next)
    (hY : ∀ v s₁ gs', gs'.bare = true → Asl gs' → Y (n - 1) (s.setGen g .running) v s₁ (GoesN (model P w) A.in1 R Y gs' n) → Q (some v) (s₁.setGen g gs'))
    (hP : ∀ r s₁, R n (s.setGen g .running) r s₁ → ∀ h', (∀ b o, s₁.heap.get? b = some o → h'.get? b = some o) → Q none { s₁.setGen g .finished with heap := h' }) :
    wpAny (model P w) A (pyNext (.ref a)) Q E s := by
  unfold pyNext
  refine wpAny_bind (wpAny_attempt (wpAny_callSpecial?_slot (name := Str.ofString "__next__") hg.typeIs slot_gen_next (wpAny_call_entry slot_gen_next hg.typeIs entry_gen_next ?_ (args_gen_next _))))
  show wpAny _ A.in1 (Builtin.Generator.genWake (.ref a) (.send .none)) _ _ s
  unfold Builtin.Generator.genWake
  refine wpAny_bind (wpAny_holding (wpAny_genNumber hg (wpAny_bind (wpAny_genState hgs ?_))))
  cases gs with
  | running => exact hgo.elim
  | finished => exact hgo.elim
  | _ =>
    refine wpAny_bind (wpAny_roomToWake hl hroom ?_)
    show wpAny _ A.in1 (.resume g (.send .none) [] _) _ _ s
    refine resume_asl hgs hgo (fun x s₁ hx => ?_) (fun v s₁ gs' hb ha hv => ?_)
    · have hres : End.result (.ret x) = .returned .none := by
        rcases hRr _ _ _ _ hx with hr | hr <;> rw [hr] <;> rfl
      first | rw [hres] | simp only [hres]
      show wpAny _ A.in1 (newExc (.type "StopIteration") [] >>= _) _ _ _
      refine wpAny_bind ?_
      simp only [newExc, newTuple]
      refine wpAny_bind (wpAny_newObj_type ?_ (by size_fits))
      refine wpAny_bind (m := firstArgMember _ _) (wpAny_of_eq (a := Value.none) (by first | rfl | (simp only [firstArgMember]; rfl)) ?_)
      refine wpAny_newObj_type ?_ (by size_fits)
      simp only [raiseNew]
      refine wpAny_bind (wpAny_bind (wpAny_handled ?_))
      first | rw [show A.in1.handled = none from hh] | rw [hh]
      refine wpAny_throw ?_
      refine wpAny_bind (wpAny_isInstance (T := "StopIteration") (b := true) ⟨_, Heap.get?_push_size _ rfl, rfl⟩ isSubtype_stop ?_)
      exact wpAny_pure (hP x s₁ hx _ fun b o hb => Heap.get?_push_of_some _ (Heap.get?_push_of_some _ hb))
    · exact wpAny_pure ⟨v, rfl, wpAny_pure (hY v s₁ gs' hb ha hv)⟩
end
/-! ### the consumer's facts -/
theorem _root_.L2.Inv.same {X : Cx} {pins : List (Addr × Obj)} {σ : L2.St} {H : Hp} {s s' : Shared} (I : Inv X pins σ H s) (hh : s'.heap = s.heap) (ho : s'.os = s.os) (hb : AllBare s'.gens) : Inv X pins σ H s' :=
  I.call' (ch := []) ho (by rw [hh]; exact Un.refl) (by rw [hh]; exact I.hok) hb fun b z => by simp at z
/-- the consumer with an end that nothing raises -/
abbrev mute (X : Cx) : Cx := { X with xe := fun _ _ => False }
theorem Inv.mute {X : Cx} {pins : List (Addr × Obj)} {σ : L2.St} {H : Hp} {s : Shared} (I : Inv X pins σ H s) : Inv (Gq.mute X) pins σ H s :=
  ⟨⟨I.ok.mod, I.ok.kind, I.ok.glob, I.ok.blt, I.ok.above, I.ok.inj, I.ok.has, I.ok.cab, I.ok.hd, I.ok.frames, I.ok.stk, I.ok.exf, I.ok.bs, I.ok.bsz, I.ok.noex, I.ok.exfs, I.ok.funs, I.ok.frf⟩, I.os, I.bare, I.base, I.loc, I.cell, I.free, I.freeC, I.pin, I.hok, I.len⟩
theorem Inv.loud {X : Cx} {pins : List (Addr × Obj)} {σ : L2.St} {H : Hp} {s : Shared} (I : Inv (Gq.mute X) pins σ H s) : Inv X pins σ H s :=
  ⟨⟨I.ok.mod, I.ok.kind, I.ok.glob, I.ok.blt, I.ok.above, I.ok.inj, I.ok.has, I.ok.cab, I.ok.hd, I.ok.frames, I.ok.stk, I.ok.exf, I.ok.bs, I.ok.bsz, I.ok.noex, I.ok.exfs, I.ok.funs, I.ok.frf⟩, I.os, I.bare, I.base, I.loc, I.cell, I.free, I.freeC, I.pin, I.hok, I.len⟩
/-- what is the consumer's own stood ahead of the generator, or at B -/
structure Old (X : Cx) (pins : List (Addr × Obj)) (n0 : Nat) (B : List Addr) : Prop where
  loc : X.env.locals < n0 ∨ X.env.locals ∈ B
  cel : ∀ x c, X.env.cells.lookup x = some c → c < n0 ∨ c ∈ B
  pin : ∀ p ∈ X.pn ++ pins, p.1 < n0 ∨ p.1 ∈ B
theorem Old.of {X : Cx} {pins : List (Addr × Obj)} {σ : L2.St} {H : Hp} {s : Shared} (I : Inv X pins σ H s) (B : List Addr) : Old X pins s.heap.objs.size B where
  loc := .inl I.lt
  cel := fun x c e => .inl (let ⟨v, z⟩ := I.cell x c e; z.lt)
  pin := fun p hp => .inl (Heap.lt_size (I.pin p hp).1)
theorem obj_there {P : Program} {w : World} {H : Hp} {h : Heap} {a : Addr} {o : HO} (x : ObjOk P w H h a o) : ∃ ob, h.get? a = some ob := by
  cases o with
  | lst xs => obtain ⟨_, _, _, _, e⟩ := x; exact ⟨_, e⟩
  | tup xs => obtain ⟨_, _, _, o, e, _⟩ := x; exact ⟨_, e⟩
  | dK kvs => obtain ⟨_, _, _, _, o, _, _, e, _⟩ := x; exact ⟨_, e⟩
  | dT kvs => obtain ⟨_, _, _, _, o, _, _, e, _⟩ := x; exact ⟨_, e⟩
  | set S n => obtain ⟨o, _, _, _, e, _⟩ := x; exact ⟨_, e⟩
  | ins C dx fs => obtain ⟨_, _, _, e, _⟩ := x; exact ⟨_, e⟩
  | own y => exact x
  | xd fs => obtain ⟨_, ⟨_, _, _, e, _⟩, _⟩ := x; exact ⟨_, e⟩
  | rng lo hi => obtain ⟨_, _, _, e⟩ := x; exact ⟨_, e⟩
  | frz ob u => obtain ⟨e, _⟩ := x; exact ⟨_, e⟩
  | tbl ps => exact ⟨_, x⟩
  | met f y => exact ⟨_, x⟩
  | ext φ => obtain ⟨_, e, _⟩ := x; exact e
/-- what is tracked stays so (of tables all judgements say it) -/
def Stays (H H' : Hp) : Prop := ∀ b o, H b = some o → (∀ ps, o ≠ .tbl ps) → H' b ≠ none
section
variable {X : Cx} {pins : List (Addr × Obj)} {σ : L2.St} {Hr H1 : Hp} {s₀ s1 : Shared} {B : List Addr} {CI : CIT} {n n0 : Nat} {pn : List (Addr × Obj)}
/-- behind the generator's turn -/
theorem back_in (I : Inv X pins σ Hr s₀) (o : Old X pins n0 B) (hx : ∀ b ob, s₀.heap.get? b = some ob → n0 ≤ b → b ∉ B → Hr b = none → b ∈ X.ex ∨ X.s_0.heap.objs.size ≤ b) (out : Out ⟨X.prog, X.w, X.base, X.stack, n0, pn⟩ B CI n s₀ Hr H1 s1) (st : Stays Hr H1) : Inv X pins σ H1 s1 := by
  have lt : ∀ b : Addr, ¬ n0 ≤ b → b < n0 := fun b h => Nat.lt_of_not_le h
  have nch : ∀ b, Hr b = none → b ∉ (List.range s₀.heap.objs.size).filter (fun b => decide (n0 ≤ b ∧ b ∉ B ∧ Hr b = none ∧ (s₀.heap.get? b).isSome = true)) → ∀ ob, s₀.heap.get? b = some ob → b < n0 ∨ b ∈ B := fun b hn hb ob e => by
    by_cases z : n0 ≤ b
    · refine .inr (Decidable.byContradiction fun hB => hb ?_)
      exact List.mem_filter.mpr ⟨List.mem_range.mpr (Heap.lt_size e), decide_eq_true ⟨z, hB, hn, by rw [e]; rfl⟩⟩
    · exact .inl (lt b z)
  refine I.call' (ch := (List.range s₀.heap.objs.size).filter fun b => decide (n0 ≤ b ∧ b ∉ B ∧ Hr b = none ∧ (s₀.heap.get? b).isSome = true)) out.os ⟨fun b ob e hn hf hc => ?_, fun b ob e hn hf hc => ?_, fun b ob e hn hc => ?_, fun b ob e hc => ?_, out.un.tups, out.un.frzs, out.un.tbls⟩ out.hok out.bare fun b hb => ?_
  · rcases nch b hn hc ob e with z | z
    · exact out.un.keep b ob (by show (cut n0 s₀).heap.get? b = _; rw [cut_at z]; exact e) hn hf (by simp)
    · exact (out.bk b z ob e).1
  · rcases nch b hn hc ob e with z | z
    · exact out.un.slot b ob (by show (cut n0 s₀).heap.get? b = _; rw [cut_at z]; exact e) hn hf (by simp)
    · exact ⟨ob.slots, (out.bk b z ob e).1⟩
  · rcases nch b hn hc ob e with z | z
    · exact out.un.free b ob (by show (cut n0 s₀).heap.get? b = _; rw [cut_at z]; exact e) hn (by simp)
    · exact (out.bk b z ob e).2
  · cases q : Hr b with
    | none =>
      rcases nch b q hc ob e with z | z
      · exact out.un.there b ob (by show (cut n0 s₀).heap.get? b = _; rw [cut_at z]; exact e) (by simp)
      · exact ⟨ob, (out.bk b z ob e).1⟩
    | some u =>
      by_cases tb : ∃ ps, u = .tbl ps
      · obtain ⟨ps, rfl⟩ := tb
        obtain ⟨more, q2⟩ := out.un.tbls b ps q
        exact obj_there (out.hok b _ q2)
      · have q1 := st b u q fun ps z => tb ⟨ps, z⟩
        cases q2 : H1 b with
        | none => exact absurd q2 q1
        | some u1 => exact obj_there (out.hok b u1 q2)
  · obtain ⟨h1, h2⟩ := List.mem_filter.mp hb
    obtain ⟨z1, z2, z3, z4⟩ := of_decide_eq_true h2
    obtain ⟨ob, e⟩ := Option.isSome_iff_exists.mp z4
    refine ⟨hx b ob e z1 z2 z3, fun y => ?_, fun x c e y => ?_, fun p hp y => ?_⟩
    · rcases o.loc with q | q
      · rw [← y] at q; exact absurd z1 (Nat.not_le.mpr q)
      · rw [← y] at q; exact z2 q
    · rcases o.cel x c e with q | q
      · rw [y] at q; exact absurd z1 (Nat.not_le.mpr q)
      · rw [y] at q; exact z2 q
    · rcases o.pin p hp with q | q
      · rw [y] at q; exact absurd z1 (Nat.not_le.mpr q)
      · rw [y] at q; exact z2 q
end
/-- a run amid which a generator sleeps -/
theorem thnL {α : Type} {M : Model} {A : Around} {t : Sem α} {P Q : α → Shared → Prop} {E : Value → Shared → Prop} {s : Shared} (h : wpAny M A t P (fun _ _ => False) (lull s)) (hb : AllBare s.gens)
    (hP : ∀ a s1, P a s1 → AllBare s1.gens) (hQ : ∀ a s1 s', P a s1 → s'.heap = s1.heap → s'.os = s1.os → AllBare s'.gens → (∀ (i : Nat) st, s.gens[i]? = some st → Asl st → s'.gens[i]? = some st) → Q a s') : wpAny M A t Q E s :=
  wpAny_lull (wpAny_mono h (fun a s1 hp s' e1 e2 e3 e4 => hQ a s1 s' hp e1 e2 (e3 hb (hP a s1 hp)) e4) fun _ _ z => False.elim z)
/-- all that is not tracked, not the consumer's frame, no cell -/
def otherAt (X : Cx) (H : Hp) (h : Heap) (b : Addr) : Prop := H b = none ∧ b ≠ X.env.locals ∧ b ∉ X.fs ∧ ∀ o, h.get? b = some o → ∀ v, o.data ≠ .cell v
open Classical in
noncomputable def others (X : Cx) (H : Hp) (h : Heap) : List Addr := (List.range h.objs.size).filter fun b => decide (otherAt X H h b)
open Classical in
theorem mem_others {X : Cx} {H : Hp} {h : Heap} {b : Addr} {o : Obj} (e : h.get? b = some o) (hn : H b = none) (hl : b ≠ X.env.locals) (hf : b ∉ X.fs) (hd : ∀ v, o.data ≠ .cell v) : (b, o) ∈ pinsAt (others X H h) h := by
  refine mem_pinsAt ?_ e
  unfold others
  refine List.mem_filter.mpr ⟨List.mem_range.mpr (Heap.lt_size e), decide_eq_true (show otherAt X H h b from ⟨hn, hl, hf, fun o' e' => ?_⟩)⟩
  rw [e] at e'
  cases e'
  exact hd
open Classical in
theorem Inv.others {X : Cx} {pins : List (Addr × Obj)} {σ : L2.St} {H : Hp} {s : Shared} (I : Inv X pins σ H s) : Inv X (pins ++ pinsAt (Gq.others X H s.heap) s.heap) σ H s :=
  I.pins_of fun p hp => (List.mem_append.mp hp).elim (fun z => I.pin p (List.mem_append_right _ z)) fun z => by
    obtain ⟨hb, e⟩ := of_pinsAt z
    unfold Gq.others at hb
    obtain ⟨h1, h2, h3, h4⟩ : otherAt X H s.heap p.1 := of_decide_eq_true (List.mem_filter.mp hb).2
    exact ⟨e, h1, h2, h3, h4 _ e⟩
end Gq
set_option Elab.async false
set_option linter.all false
set_option maxRecDepth 100000
set_option maxHeartbeats 2000000
/-! `for` over such a generator. -/
namespace Gq
open PySem L2 PySem.Spec PyProof.Rows GenW
/-- an expression that makes such a generator: its arguments -/
abbrev TGa := L2.St → Hp → (List V → Hp → Prop) → Prop
structure PGenQ (X : Cx) (k : Nat) (e : Expr) (sp : SpQ) (t : TGa) : Prop where
  run : ∀ (pins : List (Addr × Obj)) (s : Shared) (σ : L2.St) (H : Hp) (R : List V → Hp → Prop), Inv X pins σ H s → t σ H R → wpAny (model X.prog X.w) X.A (eval e X.env)
    (fun u s' => ∃ H1 sc vs, Inv X pins σ H1 sc ∧ GMadeQ X.prog X.w X.base k X.stack sc.heap.objs.size sp vs H1 u s' ∧ s'.os = sc.os ∧ AllBare s'.gens ∧ (∀ b o, sc.heap.get? b = some o → s'.heap.get? b = some o) ∧ R vs H1) X.xe s
section
variable {X : Cx} {k : Nat} {f C : Addr} {fd : FuncData} {ps : List Str} {sp : SpQ} {dvs : List V} {ds : List Value} {x m : Str} {p pos pos' apos : Pos} {o : Expr} {ta : TE} {E1 : Value → Shared → Prop}
theorem run_gfnQ {pins : List (Addr × Obj)} {σ : L2.St} {H : Hp} {s : Shared} {us : List Value} {vs : List V} {R : List V → Hp → Prop} (F : GFnQ X.prog X.w X.K X.mg X.base k f fd ps sp) (hr : Room k X.A) (hb : Binds X.K fd ps ds) (hd : Vals dvs ds)
    (I : Inv X pins σ H s) (r : Vals vs us) (hl : (vs ++ dvs).length = ps.length) (h : R (vs ++ dvs) H) :
    wpAny (model X.prog X.w) X.A (call (.ref f) us) (fun u s' => ∃ H1 sc vs, Inv X pins σ H1 sc ∧ GMadeQ X.prog X.w X.base k X.stack sc.heap.objs.size sp vs H1 u s' ∧ s'.os = sc.os ∧ AllBare s'.gens ∧ (∀ b o, sc.heap.get? b = some o → s'.heap.get? b = some o) ∧ R vs H1) E1 s := by
  have r2 : Vals (vs ++ dvs) (us ++ ds) := r.append hd
  have hl2 : (us ++ ds).length = ps.length := by rw [← r2.length]; exact hl
  refine wpAny_call (codeAny_mono (F.run X.A X.stack s H ⟨us, []⟩ (us ++ ds) (vs ++ dvs) hr I.env0 (hb s us I.kIn hl2) r2 hl) fun r s' hq => ?_)
  cases r with
  | error e => exact False.elim hq
  | ok fl =>
    cases fl with
    | ret u =>
      obtain ⟨q1, q2, q3, q4⟩ := hq
      exact ⟨H, s, vs ++ dvs, I, q1, q2, q3, q4, h⟩
    | next => exact False.elim hq
    | brk => exact False.elim hq
    | cont => exact False.elim hq
def tMethQ (C : Addr) (m : Str) (n : Nat) (dvs : List V) (ta : TE) (t : TA) : TGa := fun σ H R => ta σ H fun x H1 => ∃ a dx fs, x = .ref a ∧ H1 a = some (.ins C dx fs) ∧ fs.lookup m = none ∧ t σ H1 fun vs H2 => (x :: (vs ++ dvs)).length = n ∧ R (x :: (vs ++ dvs)) H2
/-- o.m() -/
theorem pgq_meth0 {pl : Sem Bool} (he : PE X o ta) (c : Cls X.K C) (hm : Meth X.K C m f) (F : GFnQ X.prog X.w X.K X.mg X.base k f fd ps sp) (hr : Room k X.A) (hb : Binds X.K fd ps ds) (hd : Vals dvs ds)
    (ht : eval (.Call (.Attribute o m apos) [] [] pos') X.env = (do
      let ov ← eval o X.env
      standAt apos.atName
      let (f, first) ← holding [ov] (getMethod ov m pl)
      callWith pos' f first (backTo pos' (starEach [] X.env)) (backToKw pos' (keywordEach [] X.env))) := by rfl) :
    PGenQ X k (.Call (.Attribute o m apos) [] [] pos') sp (tMethQ C m ps.length dvs ta tNil) := by
  refine ⟨fun pins s σ H R I h => ?_⟩
  refine PySem.W.methodCall_KW (pl := pl) (thn (he.run pins s σ H _ I h) fun u s1 ⟨x, H1, I1, rx, a, dx, fs, ex, ea, l, q⟩ => ?_) ht
  subst ex
  obtain rfl : u = Value.ref a := rx
  obtain ⟨q1, q2⟩ := q
  refine getmeth_ok I1 ea c hm l ?_
  exact PySem.W.callWith_K0 (first := [.ref a]) I1.kIn hm.kp (run_gfnQ (us := [.ref a]) (vs := [.ref a]) F hr hb hd I1 (.cons rfl .nil) q1 q2)
def tCallQ (n : Nat) (dvs : List V) (t : TA) : TGa := fun σ H R => t σ H fun vs H1 => (vs ++ dvs).length = n ∧ R (vs ++ dvs) H1
/-- f(e, ..) -/
theorem pgq_call {e : Expr} {es : List Expr} {t : TA} (F : GFnQ X.prog X.w X.K X.mg X.base k f fd ps sp) (hr : Room k X.A) (hg : Gl X x) (hm : X.mg x = some (.ref f)) (hk : PySem.W.keepIn X.K (.ref f) = true) (hb : Binds X.K fd ps ds) (hd : Vals dvs ds)
    (ha : PA X (e :: es) t) (hdb : (x == ("__debug__" : Str)) = false := by decide) (he : starEach (e :: es) X.env = (false, eval e X.env) :: starEach es X.env := by rfl) (hpl : (backTo pos' (starEach es X.env)).any (·.1) = false := by rfl) :
    PGenQ X k (.Call (.Name x p) (e :: es) [] pos') sp (tCallQ ps.length dvs t) := by
  refine ⟨fun pins s σ H R I h => ?_⟩
  refine wpAny_Call_Name_kw (ld_glob I hg hm ?_ hdb)
  refine PySem.W.callWith_K (h₀ := X.base) I.ok.mod.kin hk (thn (ha.run pos' pins s σ H _ I h) fun us s1 ⟨vs, H1, I1, r, q1, q2⟩ => ⟨I1.kIn, ?_⟩) he hpl
  exact run_gfnQ F hr hb hd I1 r q1 q2
end
section
variable {X : Cx}
def tForG (sp : SpQ) (t : TGa) (g : TG) (tb : TS) : TS := fun D σ H => t σ H fun vs H1 => ∃ (L : Nat) (C : Ct) (En : Hp → Hp → Prop) (W : Nat → L2.St → Hp → Prop), sp vs H1 L C En ∧ (∀ m Hr x H', C.Yd m Hr x H' → Stays Hr H') ∧ (∀ Hr H', En Hr H' → Stays Hr H') ∧
  W L σ H1 ∧ (∀ σ Hr H', W 0 σ Hr → En Hr H' → D.nx σ H') ∧ ∀ m σ Hr x H', W (m + 1) σ Hr → C.Yd m Hr x H' →
    g x σ H' fun σ2 H2 => tb { D with nx := fun σ3 H3 => C.Cr H' H3 ∧ W m σ3 H3, ct := fun σ3 H3 => C.Cr H' H3 ∧ W m σ3 H3, bk := D.nx } σ2 H2
theorem ps_forG {k : Nat} {tg iter : Expr} {body : List Stmt} {sp : SpQ} {t : TGa} {g : TG} {tb : TS} {pos : Pos} (hc : X.calm = true) (hst : X.stack = X.env :: X.outer) (hf : X.env.frame = some X.env.locals) (hr : Room (k + 1) X.A) (hi : PGenQ X k iter sp t) (hg : PG (mute X) tg g) (hb : PSs (mute X) body tb)
    (hs : ∀ x, foldedSetIterable iter X.env x = pure x := by intro _; rfl) : PS X (.For tg iter body [] pos) (tForG sp t g tb) := by
  refine ⟨fun pins s σ H D I h => ?_⟩
  refine wpAny_For (thn (hi.run pins s σ H _ I h) fun v s1 h1 => ?_) hs
  obtain ⟨H1, sc, vs, Ic, hG, os1, ba1, kp1, L, C, En, W, hsp, stY, stE, w0, hend, hstep⟩ := h1
  obtain ⟨a, gn, c, go, rfl, na, la, ega, isg, gnc, hgs, wake⟩ := hG
  have I1 : Inv X pins σ H1 s1 := Ic.call' (ch := []) os1 (Un.kept kp1) (Ic.hok.kept kp1) ba1 fun b z => by simp at z
  refine wpAny_pyIter_gen (isg _ ega) ?_
  generalize hn0 : sc.heap.objs.size = n0 at na wake
  have old : Old X pins n0 [] := by rw [← hn0]; exact Old.of Ic []
  have sX : X.s_0.heap.objs.size ≤ n0 := by rw [← hn0]; exact Ic.sz
  have memF : ∀ b, b ∉ frs X.stack → b ≠ X.env.locals ∧ b ∉ X.fs := fun b hb => by
    rw [hst] at hb
    unfold frs at hb
    rw [List.filterMap_cons, hf] at hb
    exact ⟨fun z => hb (z ▸ List.mem_cons_self), fun z => hb (List.mem_cons_of_mem _ z)⟩
  have aF : a ∉ frs X.stack := fun hb => by
    obtain ⟨_, o, ho, _⟩ := Ic.stack.mem hb
    have := Heap.lt_size ho
    rw [hn0] at this
    exact absurd (Nat.lt_of_lt_of_le this na) (Nat.lt_irrefl _)
  have hh : X.A.handled = none := hr.hd
  generalize hv : (⟨X.prog, X.w, X.base, X.stack, n0, [(a, go)]⟩ : Vw) = v at wake
  -- what the consumer knows when it resumes
  generalize hCI : (fun (m : Nat) (h : Heap) (Hc : Hp) => ∃ σc, (∀ s : Shared, s.heap = h → s.os = X.s_0.os → AllBare s.gens → Inv X pins σc Hc s) ∧ W m σc Hc) = CI
  have ciOf : ∀ {m : Nat} {s' : Shared} {σ' : L2.St} {H' : Hp}, Inv X pins σ' H' s' → W m σ' H' → CI m s'.heap H' := fun {m s' σ' H'} I' w' => by
    rw [← hCI]
    exact ⟨σ', fun s2 e1 e2 e3 => I'.same e1 (e2.trans I'.os.symm) e3, w'⟩
  have hin1 : (X.A.in1).frames = some X.stack := Ic.ok.frames
  have hrw : Room k X.A.in1 := ⟨hr.hd, by have := hr.dp; show X.A.depth + 3 * k + 5 < _; omega, by have := hr.un; show X.A.units + 1 + 16 * k + 200 < _; omega⟩
  -- the loop
  have first : Seg (model X.prog X.w) X.A.in1 (RQ v [] CI En) (YQ v [] CI C) L (s1.setGen gn .running) c ((model X.prog X.w).den c) [] (s1.setGen gn .running) := by
    refine wake X.A.in1 [] CI (s1.setGen gn .running) H1 L C En hrw hin1 (fun b hb => by simp at hb) ?_ hsp (ciOf (s' := s1) I1 w0)
    rw [← hv]
    exact ⟨allBare_setGen ba1 rfl, I1.bs, fun b o e n _ _ _ => ⟨e, n⟩, I1.stack, I1.stkFree, fun b hb => by simp at hb, I1.hok⟩
  refine codeAny_forLoop_any (fun m s' => ∃ σ' H', Inv X pins σ' H' s' ∧ W m σ' H' ∧ s'.heap.get? a = some go ∧ ∃ gs, s'.gens[gn]? = some gs ∧ gs.Goes (model X.prog X.w) X.A.in1 (RQ v [] CI En) (YQ v [] CI C) m (.send .none) (s'.setGen gn .running)) ?_ L
    ⟨σ, H1, I1, w0, ega, _, hgs, rfl, first⟩
  rintro m s2 ⟨σ2, H2, I2, w2, eg2, gs, hgs2, goes⟩
  have lgn : gn + 1 ≤ s2.gens.size := (Array.getElem?_eq_some_iff.mp hgs2).1
  refine wpAny_mono (wpAny_gsz (n := gn + 1) (Q := fun r s3 => match r with
      | none => ∃ σ' H', Inv X pins σ' H' s3 ∧ D.nx σ' H'
      | some u => ∃ (σ' : L2.St) (Hr H' : Hp) (x : V) (gs' : GenState) (s1' : Shared), W (m - 1 + 1) σ' Hr ∧ Inv X pins σ' H' s3 ∧ RelV x u ∧ C.Yd (m - 1) Hr x H' ∧ s3.heap.get? a = some go ∧ H' a = none ∧ Asl gs' ∧ s3.gens[gn]? = some gs' ∧ s1'.heap = s3.heap ∧
          ∀ s4 H4, Back v [] H' H4 s1' s4 → C.Cr H' H4 → CI (m - 1) s4.heap H4 → GoesN (model X.prog X.w) X.A.in1 (RQ v [] CI En) (YQ v [] CI C) gs' m (.send .none) s4)
    (E := fun _ _ => False) lgn (next_asl (R := RQ v [] CI En) (Y := YQ v [] CI C) hh I2.nolimit (by have := hr.dp; omega) (isg _ eg2) hgs2 goes (fun n s₀ r s₁ h => h.1) (fun u s3 gs' hbare hasl hy lg => ?_) fun r s3 hR h' hk _ => ?_)) (fun r s3 h3 => ?_) fun _ _ z => False.elim z
  · -- an item
    obtain ⟨Hr, H3, x, out, rx, yd, kap⟩ := hy
    have ci := out.ci
    rw [← hCI] at ci
    obtain ⟨σr, hI, wr⟩ := ci
    have Ir : Inv X pins σr Hr (s2.setGen gn .running) := hI _ rfl I2.os (allBare_setGen I2.bare rfl)
    have I3 : Inv X pins σr H3 s3 := back_in Ir old (fun b ob _ hb _ _ => .inr (Nat.le_trans sX hb)) (by rw [← hv] at out; exact out) (stY _ _ _ _ yd)
    have pk := out.pk (a, go) (by rw [← hv]; exact List.mem_singleton.mpr rfl)
    have lg' : gn < s3.gens.size := by
      have := lg
      rw [setGen_size] at this
      exact this
    exact ⟨σr, Hr, H3, x, gs', s3, wr, I3.same rfl rfl (allBare_setGen I3.bare hbare), rx, yd, pk.1, pk.2, hasl, setGen_at lg', rfl, kap⟩
  · -- the end
    obtain ⟨_, n0', Hr, H3, out, en⟩ := hR
    subst n0'
    have ci := out.ci
    rw [← hCI] at ci
    obtain ⟨σr, hI, wr⟩ := ci
    have Ir : Inv X pins σr Hr (s2.setGen gn .running) := hI _ rfl I2.os (allBare_setGen I2.bare rfl)
    have I3 : Inv X pins σr H3 s3 := back_in Ir old (fun b ob _ hb _ _ => .inr (Nat.le_trans sX hb)) (by rw [← hv] at out; exact out) (stE _ _ en)
    exact ⟨σr, H3, (I3.same (s' := s3.setGen gn .finished) rfl rfl (allBare_setGen I3.bare rfl)).kept (t' := s3.toks) hk, hend _ _ _ wr en⟩
  · cases r with
    | none =>
      obtain ⟨σ', H', I', q⟩ := h3
      exact wpAny_execs_nil ⟨σ', H', I', q⟩
    | some u =>
      obtain ⟨σ3, Hr, H3, x, gs', s1', w3, I3, rx, yd, eg3, na3, hasl, hgs3, eh, kap⟩ := h3
      obtain ⟨og, nm, qn, hog, hcg, hdg, _⟩ := isg _ eg3
      refine go_of hog hcg hdg (by decide) ?_
      generalize hpU : pins ++ pinsAt (others X H3 s3.heap) s3.heap = pU
      have I3' : Inv X pU σ3 H3 s3 := by rw [← hpU]; exact Inv.others I3
      have Im : Inv (mute X) pU σ3 H3 (lull s3) := Inv.mute (I3'.same rfl rfl (lull_allBare I3.bare))
      refine thnL (hg.run pU (lull s3) σ3 H3 x u _ Im rx (hstep _ _ _ _ _ w3 yd)) I3.bare (fun _ _ ⟨_, _, I, _⟩ => I.bare) (fun _ s4 s5 ⟨σ5, H5, I5, q5⟩ e1 e2 e3 e4 => ?_)
      have I5' : Inv (mute X) pU σ5 H5 (lull s5) := I5.same (s' := lull s5) e1 e2 (lull_allBare e3)
      refine thnL (hb.run pU (lull s5) σ5 H5 _ I5' q5) e3 (fun f s6 q6 => ?_) (fun f s6 s7 q6 f1 f2 f3 f4 => ?_)
      · cases f with
        | next => obtain ⟨_, _, I, _⟩ := q6; exact I.bare
        | cont => obtain ⟨_, _, I, _⟩ := q6; exact I.bare
        | brk => obtain ⟨_, _, I, _⟩ := q6; exact I.bare
        | ret v => obtain ⟨_, _, _, I, _⟩ := q6; exact I.bare
      have un : ∀ {σ7 : L2.St} {H7 : Hp}, Inv X pU σ7 H7 s7 → Inv X pins σ7 H7 s7 := fun {σ7 H7} I7 => by
        rw [← hpU] at I7
        exact I7.unpinned
      have again : ∀ {σ7 : L2.St} {H7 : Hp}, Inv (mute X) pU σ7 H7 s6 → C.Cr H3 H7 ∧ W (m - 1) σ7 H7 → ∃ m', m' < m ∧ ∃ σ' H', Inv X pins σ' H' s7 ∧ W m' σ' H' ∧ s7.heap.get? a = some go ∧ ∃ gs, s7.gens[gn]? = some gs ∧ gs.Goes (model X.prog X.w) X.A.in1 (RQ v [] CI En) (YQ v [] CI C) m' (.send .none) (s7.setGen gn .running) := fun {σ7 H7} I6 ⟨cr, w7⟩ => by
        have I7 : Inv X pU σ7 H7 s7 := (Inv.loud I6).same f1 f2 f3
        have pinned : ∀ b o, s3.heap.get? b = some o → H3 b = none → b ∉ frs X.stack → (∀ x, o.data ≠ .cell x) → s7.heap.get? b = some o ∧ H7 b = none := fun b o e n hf hd => by
          obtain ⟨m1, m2⟩ := memF b hf
          have hp : (b, o) ∈ X.pn ++ pU := by rw [← hpU]; exact List.mem_append_right _ (List.mem_append_right _ (mem_others e n m1 m2 hd))
          have := I7.pin (b, o) hp
          exact ⟨this.1, this.2.1⟩
        have bk : Back v [] H3 H7 s1' (s7.setGen gn .running) := by
          rw [← hv]
          exact ⟨allBare_setGen f3 rfl, I7.bs, fun b o e n hf _ hd => pinned b o (by rw [← eh]; exact e) n hf hd, I7.stack, I7.stkFree, fun b hb => by simp at hb, I7.hok⟩
        have hgo := kap (s7.setGen gn .running) H7 bk cr (ciOf (s' := s7) (un I7) w7)
        cases m with
        | zero => exact False.elim hgo
        | succ m' => exact ⟨m', Nat.lt_succ_self _, σ7, H7, un I7, w7, (pinned a go eg3 na3 aF gnc).1, gs', f4 gn gs' (e4 gn gs' hgs3 hasl) hasl, hgo⟩
      cases f with
      | next => obtain ⟨σ7, H7, I6, q7⟩ := q6; exact again I6 q7
      | cont => obtain ⟨σ7, H7, I6, q7⟩ := q6; exact again I6 q7
      | brk => obtain ⟨σ7, H7, I6, q7⟩ := q6; exact ⟨σ7, H7, un ((Inv.loud I6).same f1 f2 f3), q7⟩
      | ret v => obtain ⟨x7, σ7, H7, I6, r7, q7⟩ := q6; exact ⟨x7, σ7, H7, un ((Inv.loud I6).same f1 f2 f3), r7, q7⟩
end
end Gq
set_option Elab.async false
set_option linter.all false
set_option maxRecDepth 100000
set_option maxHeartbeats 2000000
/-! The turns of any consumer, as two steps: the next item; asleep again. -/
namespace Gq
open PySem L2 PySem.Spec PyProof.Rows GenW
def CIof (X : Cx) (pins : List (Addr × Obj)) (W : Nat → L2.St → Hp → Prop) : CIT := fun m h Hc => ∃ σc, (∀ s : Shared, s.heap = h → s.os = X.s_0.os → AllBare s.gens → Inv X pins σc Hc s) ∧ W m σc Hc
theorem ciOf {X : Cx} {pins : List (Addr × Obj)} {W : Nat → L2.St → Hp → Prop} {m : Nat} {s : Shared} {σ : L2.St} {H : Hp} (I : Inv X pins σ H s) (w : W m σ H) : CIof X pins W m s.heap H :=
  ⟨σ, fun s2 e1 e2 e3 => I.same e1 (e2.trans I.os.symm) e3, w⟩
abbrev vw (X : Cx) (n0 : Nat) (a : Addr) (go : Obj) : Vw := ⟨X.prog, X.w, X.base, X.stack, n0, [(a, go)]⟩
/-- a consumer and its generator -/
structure Pair (X : Cx) (pins : List (Addr × Obj)) (W : Nat → L2.St → Hp → Prop) (n0 : Nat) (B : List Addr) (C : Ct) (En : Hp → Hp → Prop) (a gn : Addr) (go : Obj) : Prop where
  hh : X.A.handled = none
  dp : X.A.depth < recursionLimit
  isg : ∀ h : Heap, h.get? a = some go → h.IsGen a gn
  gnc : ∀ v, go.data ≠ .cell v
  old : Old X pins n0 B
  aF : a ∉ frs X.stack
  aB : a ∉ B
  memF : ∀ b, b ∉ frs X.stack → b ∉ B → b ≠ X.env.locals ∧ b ∉ X.fs
  bB : ∀ b ∈ B, b = X.env.locals
  hx : ∀ m σ Hr s, Inv X pins σ Hr s → W m σ Hr → ∀ b ob, s.heap.get? b = some ob → n0 ≤ b → b ∉ B → Hr b = none → b ∈ X.ex ∨ X.s_0.heap.objs.size ≤ b
  stY : ∀ m Hr x H', C.Yd m Hr x H' → Stays Hr H'
  stE : ∀ Hr H', En Hr H' → Stays Hr H'
/-- the generator waits, m items are to come -/
def Live (X : Cx) (pins : List (Addr × Obj)) (W : Nat → L2.St → Hp → Prop) (n0 : Nat) (B : List Addr) (C : Ct) (En : Hp → Hp → Prop) (a gn : Addr) (go : Obj) (m : Nat) (s : Shared) : Prop :=
  s.heap.get? a = some go ∧ ∃ gs, s.gens[gn]? = some gs ∧ gs.Goes (model X.prog X.w) X.A.in1 (RQ (vw X n0 a go) B (CIof X pins W) En) (YQ (vw X n0 a go) B (CIof X pins W) C) m (.send .none) (s.setGen gn .running)
/-- it sleeps behind an item -/
structure Item (X : Cx) (pins : List (Addr × Obj)) (W : Nat → L2.St → Hp → Prop) (n0 : Nat) (B : List Addr) (C : Ct) (En : Hp → Hp → Prop) (a gn : Addr) (go : Obj) (m : Nat) (H' : Hp) (gs' : GenState) (s3 : Shared) : Prop where
  eg : s3.heap.get? a = some go
  na : H' a = none
  hasl : Asl gs'
  hgs : s3.gens[gn]? = some gs'
  kap : ∀ s4 H4, (∀ s1 : Shared, s1.heap = s3.heap → Back (vw X n0 a go) B H' H4 s1 s4) → C.Cr H' H4 → CIof X pins W (m - 1) s4.heap H4 → GoesN (model X.prog X.w) X.A.in1 (RQ (vw X n0 a go) B (CIof X pins W) En) (YQ (vw X n0 a go) B (CIof X pins W) C) gs' m (.send .none) s4
section
variable {X : Cx} {pins : List (Addr × Obj)} {W : Nat → L2.St → Hp → Prop} {n0 : Nat} {B : List Addr} {C : Ct} {En : Hp → Hp → Prop} {a gn : Addr} {go : Obj} {m : Nat} {s : Shared} {σ : L2.St} {H : Hp}
theorem next_live (P : Pair X pins W n0 B C En a gn go) (I : Inv X pins σ H s) (l : Live X pins W n0 B C En a gn go m s) :
    wpAny (model X.prog X.w) X.A (pyNext (.ref a)) (fun r s3 => match r with
      | none => ∃ σ' Hr H', Inv X pins σ' H' s3 ∧ W 0 σ' Hr ∧ En Hr H'
      | some u => ∃ (σ' : L2.St) (Hr H' : Hp) (x : V) (gs' : GenState), W (m - 1 + 1) σ' Hr ∧ Inv X pins σ' H' s3 ∧ RelV x u ∧ C.Yd (m - 1) Hr x H' ∧ Item X pins W n0 B C En a gn go m H' gs' s3) (fun _ _ => False) s := by
  obtain ⟨eg, gs, hgs, goes⟩ := l
  have lgn : gn + 1 ≤ s.gens.size := (Array.getElem?_eq_some_iff.mp hgs).1
  refine wpAny_gsz (n := gn + 1) lgn (next_asl (R := RQ (vw X n0 a go) B (CIof X pins W) En) (Y := YQ (vw X n0 a go) B (CIof X pins W) C) P.hh I.nolimit P.dp (P.isg _ eg) hgs goes (fun n s₀ r s₁ h => h.1) (fun u s3 gs' hbare hasl hy lg => ?_) fun r s3 hR h' hk _ => ?_)
  · obtain ⟨Hr, H3, x, out, rx, yd, kap⟩ := hy
    obtain ⟨σr, hI, wr⟩ := out.ci
    have Ir : Inv X pins σr Hr (s.setGen gn .running) := hI _ rfl I.os (allBare_setGen I.bare rfl)
    have I3 : Inv X pins σr H3 s3 := back_in Ir P.old (P.hx _ _ _ _ Ir wr) out (P.stY _ _ _ _ yd)
    have pk := out.pk (a, go) (List.mem_singleton.mpr rfl)
    have lg' : gn < s3.gens.size := by
      have := lg
      rw [setGen_size] at this
      exact this
    exact ⟨σr, Hr, H3, x, gs', wr, I3.same rfl rfl (allBare_setGen I3.bare hbare), rx, yd, pk.1, pk.2, hasl, setGen_at lg', fun s4 H4 b cr ci => kap s4 H4 (b s3 rfl) cr ci⟩
  · obtain ⟨_, n0', Hr, H3, out, en⟩ := hR
    subst n0'
    obtain ⟨σr, hI, wr⟩ := out.ci
    have Ir : Inv X pins σr Hr (s.setGen gn .running) := hI _ rfl I.os (allBare_setGen I.bare rfl)
    have I3 : Inv X pins σr H3 s3 := back_in Ir P.old (P.hx _ _ _ _ Ir wr) out (P.stE _ _ en)
    exact ⟨σr, Hr, H3, (I3.same (s' := s3.setGen gn .finished) rfl rfl (allBare_setGen I3.bare rfl)).kept (t' := s3.toks) hk, wr, en⟩
/-- all that is to stay is pinned amid the consumer's turn -/
noncomputable abbrev held (X : Cx) (pins : List (Addr × Obj)) (H : Hp) (h : Heap) : List (Addr × Obj) := pins ++ pinsAt (others X H h) h
/-- the consumer's turn is done -/
theorem live_again (P : Pair X pins W n0 B C En a gn go) {H3 H7 : Hp} {σ7 σ8 : L2.St} {gs' : GenState} {s3 s7 : Shared} (it : Item X pins W n0 B C En a gn go m H3 gs' s3) (I7 : Inv X (held X pins H3 s3.heap) σ7 H7 s7) (I8 : Inv X pins σ8 H7 s7) (hg : s7.gens[gn]? = some gs') (cr : C.Cr H3 H7) (w7 : W (m - 1) σ8 H7) :
    ∃ m', m' < m ∧ W m' σ8 H7 ∧ Live X pins W n0 B C En a gn go m' s7 := by
  have pinned : ∀ b o, s3.heap.get? b = some o → H3 b = none → b ∉ frs X.stack → b ∉ B → (∀ x, o.data ≠ .cell x) → s7.heap.get? b = some o ∧ H7 b = none := fun b o e n hf hB hd => by
    obtain ⟨m1, m2⟩ := P.memF b hf hB
    have hp : (b, o) ∈ X.pn ++ held X pins H3 s3.heap := List.mem_append_right _ (List.mem_append_right _ (mem_others e n m1 m2 hd))
    have := I7.pin (b, o) hp
    exact ⟨this.1, this.2.1⟩
  obtain ⟨mL, ⟨oL, es, ep, hoL, hdL, _⟩, _⟩ := I7.loc
  have bk : ∀ s1 : Shared, s1.heap = s3.heap → Back (vw X n0 a go) B H3 H7 s1 (s7.setGen gn .running) := fun s1 eh =>
    ⟨allBare_setGen I7.bare rfl, I7.bs, fun b o e n hf hB hd => pinned b o (by rw [← eh]; exact e) n hf hB hd, I7.stack, I7.stkFree, fun b hb => by
      rw [P.bB b hb]
      exact ⟨oL, hoL, I7.free, fun v z => by rw [hdL] at z; cases z⟩, I7.hok⟩
  have hgo := it.kap (s7.setGen gn .running) H7 bk cr (ciOf (s := s7) I8 w7)
  cases m with
  | zero => exact False.elim hgo
  | succ m' => exact ⟨m', Nat.lt_succ_self _, w7, (pinned a go it.eg it.na P.aF P.aB P.gnc).1, gs', hg, hgo⟩
end
end Gq
set_option Elab.async false
set_option linter.all false
set_option maxRecDepth 100000
set_option maxHeartbeats 2000000
/-! A list comprehension over such a generator. -/
namespace Gq
open PySem L2 PySem.Spec PyProof.Rows GenW
/-- a block without cells of its own: what it captures stood ahead of it -/
theorem blk_cells {X : Cx} {scope : Scope} {own : List (Str × Nat)} {pins : List (Addr × Obj)} {σ : L2.St} {H : Hp} {s : Shared} {n : Nat} {x : Str} {c : Addr} (I : Inv X pins σ H s) (ok : BlkOk X.N X.env.scope scope own) (hnc : ∀ y ∈ scope.names, y.2 ≠ .cell)
    (e : (cellsFrom n scope.names (cloFrom X.env.cells scope.names [])).lookup x = some c) : c < s.heap.objs.size := by
  have same : ∀ (names : List (Str × NameKind)) (n : Nat) (acc : List (Str × Addr)), (∀ y ∈ names, y.2 ≠ .cell) → cellsFrom n names acc = acc := by
    intro names
    induction names with
    | nil => intro _ _ _; rfl
    | cons y r ih =>
      intro n acc h
      obtain ⟨nm, k⟩ := y
      have hk : (k == NameKind.cell) = false := by
        have := h (nm, k) List.mem_cons_self
        cases k <;> first | rfl | exact absurd rfl this
      show (if (k == NameKind.cell) = true then _ else _) = acc
      rw [hk]
      exact ih n acc fun y hy => h y (List.mem_cons_of_mem _ hy)
  rw [same _ _ _ hnc] at e
  rcases cloFrom_mem (PySem.mem_of_lookup e) with hm | ⟨h1, rfl⟩
  · cases hm
  · have hc : ∃ c, X.env.cells.lookup x = some c := by
      rcases ok.free _ h1 rfl with k | k
      · exact I.ok.has _ (.inl k)
      · exact I.ok.has _ (.inr k)
    obtain ⟨c, hc⟩ := hc
    rw [hc]
    obtain ⟨w, z⟩ := I.cell _ _ hc
    exact z.lt
section
variable {X : Cx}
/-- [elt for target in generator if ..]: D the new list -/
def tLcG (sp : SpQ) (t : TGa) (g : TG) (tt : TT) (te : TE) (vs : List Nat) : TE := fun σ H Q => t σ H fun as H1 => ∀ D, H1 D = none → ∃ (L : Nat) (C : Ct) (En : Hp → Hp → Prop) (W : Nat → Hp → Prop), sp as (upd H1 D (.lst [])) L C En ∧ (∀ m Hr x H', C.Yd m Hr x H' → Stays Hr H') ∧ (∀ Hr H', En Hr H' → Stays Hr H') ∧
  (∀ m H', W m H' → H' D ≠ none) ∧ W L (upd H1 D (.lst [])) ∧ (∀ Hr H', W 0 Hr → En Hr H' → Q (.ref D) H') ∧ ∀ m Hr x H', W (m + 1) Hr → C.Yd m Hr x H' → g x (wipe σ vs) H' fun σ2 H2 => wipe σ2 vs = wipe σ vs ∧ tt σ2 H2 fun b H3 =>
    if b = true then te σ2 H3 fun y H4 => ∃ acc, H4 D = some (.lst acc) ∧ acc.length < sizeLine ∧ C.Cr H' (upd H4 D (.lst (acc ++ [y]))) ∧ W m (upd H4 D (.lst (acc ++ [y]))) else C.Cr H' H3 ∧ W m H3
theorem lc_coreG {k : Nat} {pins : List (Addr × Obj)} {s : Shared} {σ : L2.St} {H : Hp} {Q : VK} {elt tg iter : Expr} {ifs : List Expr} {scope : Scope} {own : List (Str × Nat)} {pos pos' : Pos} {sp : SpQ} {t : TGa} {g : TG} {tt : TT} {te : TE} {use : Option (Value → Sem Unit)} {Qf : Value → Shared → Prop}
    (hc : X.calm = true) (hN : X.N.Nodup) (hr : Room (k + 1) X.A) (I : Inv X pins σ H s) (hi : PGenQ X k iter sp t) (ok : BlkOk X.N X.env.scope scope own) (hnc : ∀ y ∈ scope.names, y.2 ≠ .cell)
    (hg : ∀ (s : Shared) (H : Hp) (C : Addr) (cl : List (Str × Addr)) (fp : List Addr), PG (X.blk s H scope (compEnvC scope cl C X.env) fp) tg g) (ht : ∀ (s : Shared) (H : Hp) (C : Addr) (cl : List (Str × Addr)) (fp : List Addr), PTs (X.blk s H scope (compEnvC scope cl C X.env) fp) ifs tt)
    (he : ∀ (s : Shared) (H : Hp) (C : Addr) (cl : List (Str × Addr)) (fp : List Addr), PE (X.blk s H scope (compEnvC scope cl C X.env) fp) elt te) (hs : ∀ x, foldedSetIterable iter X.env x = pure x)
    (h : tLcG sp t g tt te (own.map (·.2)) σ H Q)
    (hRR : ∀ D C s' m H', Inv X pins σ H' s' → Q (.ref D) H' → s'.heap.Ns C m → FpOk X pins H' C → compPost (model X.prog X.w) X.A X.xe use Qf (.ref D) C (.ok .next) s') :
    wpAny (model X.prog X.w) X.A (comprehension (.ListComp elt [⟨tg, iter, ifs, 0⟩] scope pos) scope X.env pos' (newList []) false (eval iter X.env) use) Qf X.xe s := by
  have hfree : ∀ y ∈ scope.names, y.2 = .free → ∃ c, X.env.cells.lookup y.1 = some c := fun y hy e => by
    rcases ok.free y hy e with k | k
    · exact I.ok.has _ (.inl k)
    · exact I.ok.has _ (.inr k)
  refine wpAny_comprehension_free (use := use) rfl hs (closure_ok hfree) ok.kind (fun y hy e => by rw [ok.uniq y hy, e])
    (thn (hi.run pins s σ H _ I h) fun xv s1 hx => ?_)
  obtain ⟨H1, sc, as, Ic, hG, os1, ba1, kp1, q⟩ := hx
  obtain ⟨a, gn, c, go, rfl, na, la, ega, isg, gnc, hgs, wake⟩ := hG
  have I1 : Inv X pins σ H1 s1 := Ic.call' (ch := []) os1 (Un.kept kp1) (Ic.hok.kept kp1) ba1 fun b z => by simp at z
  refine wpAny_pyIter_gen (isg _ ega) ?_
  refine wpAny_newObj_type (newEnv_comp ?_) (by show 0 ≤ sizeLine; decide)
  generalize hD : s1.heap.objs.size = D
  have hDn : H1 D = none := I1.hok.fresh (Nat.le_of_eq hD)
  obtain ⟨L, C, En, W, hsp, stY, stE, wD, w0, hend, step⟩ := q D hDn
  -- the new list
  generalize hs3 : ({ s1 with heap := s1.heap.push { cls := .type "list", data := .seq ([] : List Value).toArray } } : Shared) = s3
  have I3 : Inv X pins σ (upd H1 D (.lst [])) s3 := by
    rw [← hs3]
    refine I1.laid (t' := s1.toks) (fun b o e => Heap.get?_push_of_some _ e) (Nat.le_of_eq hD) ⟨Nat.zero_le _, [], 0, .nil, ?_⟩
    rw [← hD]
    exact Heap.get?_push_size _ rfl
  have h3 : s3.heap = s1.heap.push { cls := .type "list", data := .seq ([] : List Value).toArray } := by rw [← hs3]
  have z3 : s3.heap.objs.size = s1.heap.objs.size + 1 := by rw [h3, Heap.size_push]
  generalize hn0 : sc.heap.objs.size = n0 at na wake
  -- the generator's own objects
  generalize hfpd : (List.range s1.heap.objs.size).filter (fun b => decide (n0 ≤ b)) = fp
  have memfp : ∀ b, b ∈ fp ↔ b < s1.heap.objs.size ∧ n0 ≤ b := fun b => by
    rw [← hfpd, List.mem_filter, List.mem_range, decide_eq_true_iff]
  have f3 : ∀ b ∈ fp, FpOk X pins (upd H1 D (.lst [])) b ∧ b < s3.heap.objs.size := fun b hb => by
    obtain ⟨h1, h2⟩ := (memfp b).mp hb
    have hn : upd H1 D (.lst []) b = none := by
      rw [upd_ne (by rw [← hD]; exact Nat.ne_of_lt h1)]
      exact Ic.hok.fresh (by rw [hn0]; exact h2)
    exact ⟨Ic.fpOk (by rw [hn0]; exact h2) hn, by rw [z3]; exact Nat.lt_succ_of_lt h1⟩
  have I4 := block_start I3 ok hN f3
  have pg := hg s3 (upd H1 D (.lst [])) s3.heap.objs.size (cellsFrom (s3.heap.objs.size + 1) scope.names (cloFrom X.env.cells scope.names [])) fp
  have pt := ht s3 (upd H1 D (.lst [])) s3.heap.objs.size (cellsFrom (s3.heap.objs.size + 1) scope.names (cloFrom X.env.cells scope.names [])) fp
  have pe := he s3 (upd H1 D (.lst [])) s3.heap.objs.size (cellsFrom (s3.heap.objs.size + 1) scope.names (cloFrom X.env.cells scope.names [])) fp
  have ceC : ∀ x c, (compEnvC scope (cellsFrom (s3.heap.objs.size + 1) scope.names (cloFrom X.env.cells scope.names [])) s3.heap.objs.size X.env).cells.lookup x = some c → c < n0 := fun x c e => by
    rw [← hn0]
    exact blk_cells Ic ok hnc e
  show codeAny _ _ (.compStart (.ListComp elt [⟨tg, iter, ifs, 0⟩] scope pos) 0 (.ref a) (.ref D) (compEnvC scope (cellsFrom (s3.heap.objs.size + 1) scope.names (cloFrom X.env.cells scope.names [])) s3.heap.objs.size X.env)) (compPost (model X.prog X.w) X.A X.xe use Qf (.ref D) s3.heap.objs.size) { s3 with heap := pushCells (s3.heap.push { cls := .type "dict", data := .dict #[] }) scope.names }
  generalize hce : compEnvC scope (cellsFrom (s3.heap.objs.size + 1) scope.names (cloFrom X.env.cells scope.names [])) s3.heap.objs.size X.env = ce at I4 pg pt pe ceC ⊢
  have cL : ce.locals = s3.heap.objs.size := by subst hce; rfl
  generalize hH3 : upd H1 D (.lst []) = H3 at I3 I4 pg pt pe w0 hsp f3
  generalize hs4 : ({ s3 with heap := pushCells (s3.heap.push { cls := .type "dict", data := .dict #[] }) scope.names } : Shared) = s4 at I4 ⊢
  have kp4 : ∀ b o, s1.heap.get? b = some o → s4.heap.get? b = some o := fun b o e => by
    rw [← hs4]
    refine pushCells_keeps _ _ _ _ (Heap.get?_push_of_some _ ?_)
    rw [h3]
    exact Heap.get?_push_of_some _ e
  have g4 : s4.gens = s1.gens := by rw [← hs4, ← hs3]
  have aF : a ∉ frs X.stack := fun hb => by
    obtain ⟨_, o, ho, _⟩ := Ic.stack.mem hb
    have := Heap.lt_size ho
    rw [hn0] at this
    exact absurd (Nat.lt_of_lt_of_le this na) (Nat.lt_irrefl _)
  have PR : Pair (X.blk s3 H3 scope ce fp) [] (fun m σ' H' => σ' = wipe σ (own.map (·.2)) ∧ W m H') n0 [ce.locals] C En a gn go := by
    refine ⟨I.ok.hd hc, by have := hr.dp; show X.A.depth < _; omega, isg, gnc, ⟨.inr (List.mem_singleton.mpr rfl), fun x c e => .inl (ceC x c e), fun p hp => absurd (show p ∈ ([] : List (Addr × Obj)) ++ [] from hp) (by simp)⟩, aF, fun z => ?_, fun b h1 h2 => ⟨fun z => h2 (List.mem_singleton.mpr z), h1⟩, fun b hb => List.mem_singleton.mp hb, fun m σ' Hr s' I' w' b ob e h1 h2 h3' => ?_, stY, stE⟩
    · have z := List.mem_singleton.mp z
      rw [cL, z3] at z
      rw [z] at la
      exact absurd la (Nat.not_lt.mpr (Nat.le_succ _))
    · rcases Nat.lt_trichotomy b s1.heap.objs.size with z | z | z
      · exact .inl ((memfp b).mpr ⟨z, h1⟩)
      · exfalso
        rw [z, hD] at h3'
        exact wD m Hr w'.2 h3'
      · refine .inr ?_
        show s3.heap.objs.size ≤ b
        rw [z3]
        exact z
  have first : Live (X.blk s3 H3 scope ce fp) [] (fun m σ' H' => σ' = wipe σ (own.map (·.2)) ∧ W m H') n0 [ce.locals] C En a gn go L s4 := by
    refine ⟨kp4 _ _ ega, .fresh c, by rw [g4]; exact hgs, rfl, ?_⟩
    refine wake X.A.in1 [ce.locals] _ (s4.setGen gn .running) H3 L C En ⟨hr.hd, by have := hr.dp; show X.A.depth + 3 * k + 5 < _; omega, by have := hr.un; show X.A.units + 1 + 16 * k + 200 < _; omega⟩ Ic.ok.frames (fun b hb => ?_) ?_ hsp (ciOf (s := s4) I4 ⟨rfl, w0⟩)
    · rw [List.mem_singleton.mp hb, cL, z3]
      exact Nat.le_succ _
    · obtain ⟨mL, ⟨oL, es, ep, hoL, hdL, _⟩, _⟩ := I4.loc
      refine ⟨allBare_setGen I4.bare rfl, I4.bs, fun b o e n _ _ _ => ⟨kp4 b o e, ?_⟩, I4.stack, I4.stkFree, fun b hb => ?_, I4.hok⟩
      · rw [← hH3, upd_ne (by rw [← hD]; exact Nat.ne_of_lt (Heap.lt_size e))]
        exact n
      · rw [List.mem_singleton.mp hb]
        exact ⟨oL, hoL, I4.free, fun v z => by rw [hdL] at z; cases z⟩
  have loop : codeAny (model X.prog X.w) X.A (.compLoop (.ListComp elt [⟨tg, iter, ifs, 0⟩] scope pos) 0 (.ref a) (.ref D) ce) (compPost (model X.prog X.w) X.A X.xe use Qf (.ref D) s3.heap.objs.size) s4 := by
    refine compLoop_any (fun n s' => ∃ H', Inv (X.blk s3 H3 scope ce fp) [] (wipe σ (own.map (·.2))) H' s' ∧ W n H' ∧ Live (X.blk s3 H3 scope ce fp) [] (fun m σ' H' => σ' = wipe σ (own.map (·.2)) ∧ W m H') n0 [ce.locals] C En a gn go n s') ?_ L ⟨H3, I4, w0, first⟩
    rintro n s5 ⟨H5, I5, w5, l5⟩
    refine thnF (next_live (X := X.blk s3 H3 scope ce fp) PR I5 l5) fun r s6 h6 => ?_
    cases r with
    | none =>
      obtain ⟨σ', Hr, H6, I6, ⟨_, w6⟩, en⟩ := h6
      -- back in the def's context
      have I7 : Inv X pins σ H6 s6 := I3.call' (ch := fp) I6.os I6.base I6.hok I6.bare fun b hb => ⟨(f3 b hb).1.2.2.2.1, (f3 b hb).1.2.1, (f3 b hb).1.2.2.2.2.1, (f3 b hb).1.2.2.2.2.2⟩
      have nC : H6 s3.heap.objs.size = none := by
        have z : H6 ce.locals = none := I6.free
        rw [cL] at z
        exact z
      obtain ⟨m, hn, _⟩ := I6.loc
      have hn : s6.heap.Ns ce.locals m := hn
      rw [cL] at hn
      exact hRR D s3.heap.objs.size s6 m H6 I7 (hend _ _ w6 en) hn (I3.fpOk (Nat.le_refl _) nC)
    | some u =>
      obtain ⟨σ6, Hr, H6, x, gs', ⟨rfl, w6⟩, I6, rx, yd, it⟩ := h6
      obtain ⟨og, nm, qn, hog, hcg, hdg, _⟩ := isg _ it.eg
      refine go_of hog hcg hdg (by decide) ?_
      have Ih : Inv (X.blk s3 H3 scope ce fp) (held (X.blk s3 H3 scope ce fp) [] H6 s6.heap) (wipe σ (own.map (·.2))) H6 s6 := Inv.others I6
      generalize hpU : held (X.blk s3 H3 scope ce fp) [] H6 s6.heap = pU at Ih
      refine thnL (pg.run pU (lull s6) _ H6 x u _ (Ih.same rfl rfl (lull_allBare I6.bare)) rx (step _ _ _ _ w6 yd)) I6.bare (fun _ _ ⟨_, _, I, _⟩ => I.bare) (fun _ s7 s8 ⟨σ8, H8, I8, hw8, q8⟩ e1 e2 e3 e4 => ?_)
      have I8' : Inv (X.blk s3 H3 scope ce fp) pU σ8 H8 (lull s8) := I8.same (s' := lull s8) e1 e2 (lull_allBare e3)
      refine thnL (pt.run pU (lull s8) σ8 H8 _ I8' q8) e3 (fun _ _ ⟨_, I, _⟩ => I.bare) (fun b s9 s10 ⟨H9, I9, q9⟩ f1 f2 f3' f4 => ?_)
      have hgs10 : s10.gens[gn]? = some gs' := f4 _ _ (e4 _ _ it.hgs it.hasl) it.hasl
      have hl : (wipe σ (own.map (·.2))).length = σ8.length := by rw [← hw8, wipe_length]
      -- the turn's end
      have fin : ∀ {s' : Shared} {H' : Hp}, Inv (X.blk s3 H3 scope ce fp) pU σ8 H' s' → s'.gens[gn]? = some gs' → C.Cr H6 H' ∧ W (n - 1) H' → ∃ m, m < n ∧ ∃ H', Inv (X.blk s3 H3 scope ce fp) [] (wipe σ (own.map (·.2))) H' s' ∧ W m H' ∧ Live (X.blk s3 H3 scope ce fp) [] (fun m σ' H' => σ' = wipe σ (own.map (·.2)) ∧ W m H') n0 [ce.locals] C En a gn go m s' := fun {s' H'} I' hg' ⟨cr, w'⟩ => by
        have Iw : Inv (X.blk s3 H3 scope ce fp) [] (wipe σ (own.map (·.2))) H' s' := by
          have I'' := I'
          rw [← hpU] at I''
          refine (I''.unpinned (pins := [])).weak hl fun j v e => ?_
          rw [← hw8] at e
          exact (wipe_some e).1
        have Iu : Inv (X.blk s3 H3 scope ce fp) (held (X.blk s3 H3 scope ce fp) [] H6 s6.heap) σ8 H' s' := by rw [hpU]; exact I'
        obtain ⟨m', hm, wm, lv⟩ := live_again PR it Iu Iw hg' cr ⟨rfl, w'⟩
        exact ⟨m', hm, H', Iw, wm.2, lv⟩
      cases b with
      | false =>
        simp only [Bool.false_eq_true, if_false] at q9 ⊢
        exact fin (I9.same f1 f2 f3') hgs10 q9
      | true =>
        simp only [if_true] at q9 ⊢
        have I10 : Inv (X.blk s3 H3 scope ce fp) pU σ8 H9 (lull s10) := I9.same (s' := lull s10) f1 f2 (lull_allBare f3')
        refine thnL (pe.run pU (lull s10) σ8 H9 _ I10 q9) f3' (fun _ _ ⟨_, _, I, _⟩ => I.bare) (fun z s11 s12 ⟨yv, H12, I12, r12, acc, hD12, hz12, nx⟩ k1 k2 k3 k4 => ?_)
        have hgs12 := k4 _ _ hgs10 it.hasl
        have I12' : Inv (X.blk s3 H3 scope ce fp) pU σ8 H12 (lull s12) := I12.same (s' := lull s12) k1 k2 (lull_allBare k3)
        refine thnL (P := fun v s' => Inv (X.blk s3 H3 scope ce fp) pU σ8 (upd H12 D (.lst (acc ++ [yv]))) s') (app_ok (X := X.blk s3 H3 scope ce fp) I12' hD12 hz12 r12 fun s13 I13 => I13) k3 (fun _ _ I => I.bare) (fun _ s13 s14 I13 l1 l2 l3 l4 => ?_)
        exact fin (I13.same l1 l2 l3) (l4 _ _ hgs12 it.hasl) nx
  exact codeAny_compStart_list loop (wpAny_pyIter_gen (isg _ (kp4 _ _ ega)) loop)
/-- as a value -/
theorem pe_lcG {k : Nat} {elt tg iter : Expr} {ifs : List Expr} {scope : Scope} {own : List (Str × Nat)} {pos : Pos} {sp : SpQ} {t : TGa} {g : TG} {tt : TT} {te : TE} (hc : X.calm = true) (hN : X.N.Nodup) (hr : Room (k + 1) X.A) (hi : PGenQ X k iter sp t) (ok : BlkOk X.N X.env.scope scope own) (hnc : ∀ y ∈ scope.names, y.2 ≠ .cell)
    (hg : ∀ (s : Shared) (H : Hp) (C : Addr) (cl : List (Str × Addr)) (fp : List Addr), PG (X.blk s H scope (compEnvC scope cl C X.env) fp) tg g) (ht : ∀ (s : Shared) (H : Hp) (C : Addr) (cl : List (Str × Addr)) (fp : List Addr), PTs (X.blk s H scope (compEnvC scope cl C X.env) fp) ifs tt)
    (he : ∀ (s : Shared) (H : Hp) (C : Addr) (cl : List (Str × Addr)) (fp : List Addr), PE (X.blk s H scope (compEnvC scope cl C X.env) fp) elt te) (hs : ∀ x, foldedSetIterable iter X.env x = pure x := by intro _; rfl) :
    PE X (.ListComp elt [⟨tg, iter, ifs, 0⟩] scope pos) (tLcG sp t g tt te (own.map (·.2))) := by
  refine ⟨fun pins s σ H Q I h => ?_⟩
  rw [eval_ListComp]
  refine lc_coreG hc hN hr I hi ok hnc hg ht he hs h fun D C s' m H' I' q hn f => ⟨m, hn, fun h'' sb => ?_⟩
  obtain ⟨f0, f1, f2, f3, f4, f5⟩ := f
  exact ⟨.ref D, H', I'.turned (t' := s'.toks) (fun b o hb e => (sb.2 b hb).trans e) f0 f1 f3 f4 f5, rfl, q⟩
end
end Gq
set_option Elab.async false
set_option linter.all false
set_option maxRecDepth 100000
set_option maxHeartbeats 4000000
/-! [pair for pair in party.crossings()]. -/
namespace Gq
open PySem L2 Sho NdefX Shg Sh1
theorem stays_grows {T : List (Addr × Str)} {H H' : Hp} (g : Grows T H H') : Stays H H' := fun b o e n => by
  rw [g.ext b o e n]
  exact fun z => nomatch z
theorem tabs_at {D : Addr} {H : Hp} {zs : List V} {o : HO} {T : List (Addr × Str)} (hl : H D = some (.lst zs)) (t : LamX.Tabs T H) : LamX.Tabs T (upd H D o) := fun p hp => by
  obtain ⟨qs, q1, q2, q3⟩ := t p hp
  have ne : ∀ {b : Addr} {u : HO}, H b = some u → (∀ z, u ≠ .lst z) → b ≠ D := fun {b u} h n z => by
    rw [z, hl] at h
    cases h
    exact n _ rfl
  refine ⟨qs, by rw [upd_ne (ne q1 fun _ z => nomatch z)]; exact q1, q2, fun p' cv h => ?_⟩
  obtain ⟨c, e1, e2⟩ := q3 p' cv h
  exact ⟨c, e1, by rw [upd_ne (ne e2 fun _ z => nomatch z)]; exact e2⟩
theorem km_upd {C D : Addr} {H : Hp} {zs ys : List V} {T : List (Addr × Str)} (e : H D = some (.lst zs)) : Km (· = D) C T H (upd H D (.lst ys)) where
  keep := fun a o h n _ => by rw [upd_ne n]; exact h
  old := fun a z => by subst z; exact ⟨_, e, trivial⟩
  new := fun a z => by subst z; exact ⟨_, upd_same, trivial⟩
  tab := tabs_at e
/-- the whole list of pairs -/
theorem cross_list {C : Addr} {T : List (Addr × Str)} {p : Addr} {xs : List Stay} {H : Hp} {σ : L2.St} {i : Nat} {Q : VK} (PA : PartyAt C H p xs) (hs : Short xs) (hl : xs.length ≤ 100) (hT : LamX.Tabs T H) (hi : i < σ.length)
    (h : ∀ (D : Addr) (H' : Hp) (out : List V), Grows T H H' → H D = none → H' D = some (.lst out) → PySem.Paired (PairAt H') out (crossed (xs.map rw3)) → Q (.ref D) H') :
    ∀ D, H D = none → ∃ (L : Nat) (Ct : Gq.Ct) (En : Hp → Hp → Prop) (W : Nat → Hp → Prop), spCrossQ C T [.ref p] (upd H D (.lst [])) L Ct En ∧ (∀ m Hr x H', Ct.Yd m Hr x H' → Stays Hr H') ∧ (∀ Hr H', En Hr H' → Stays Hr H') ∧
      (∀ m H', W m H' → H' D ≠ none) ∧ W L (upd H D (.lst [])) ∧ (∀ Hr H', W 0 Hr → En Hr H' → Q (.ref D) H') ∧ ∀ m Hr x H', W (m + 1) Hr → Ct.Yd m Hr x H' → gName i x (wipe σ [i]) H' fun σ2 H2 => wipe σ2 [i] = wipe σ [i] ∧ tYes σ2 H2 fun b H3 =>
        if b = true then tVar i σ2 H3 fun y H4 => ∃ acc, H4 D = some (.lst acc) ∧ acc.length < sizeLine ∧ Ct.Cr H' (upd H4 D (.lst (acc ++ [y]))) ∧ W m (upd H4 D (.lst (acc ++ [y]))) else Ct.Cr H' H3 ∧ W m H3 := by
  intro D hD
  have G0 : Grows T H (upd H D (.lst [])) := Grows.upd hD
  have eD : upd H D (.lst []) D = some (.lst []) := upd_same
  have hM : ∀ a, a = D → ∃ o, upd H D (.lst []) a = some o ∧ Fre C o := fun a z => by subst z; exact ⟨_, upd_same, trivial⟩
  have PA0 : PartyAt C (upd H D (.lst [])) p xs := by
    obtain ⟨dx, a, ws, h1, h2, h3⟩ := PA
    exact ⟨dx, a, ws, G0.ext _ _ h1 (fun _ z => nomatch z), G0.ext _ _ h2 (fun _ z => nomatch z), Shg.pair_mono (fun _ _ ⟨t, e, ht⟩ => ⟨t, e, G0.ext _ _ ht fun _ z => nomatch z⟩) h3⟩
  have T0 := G0.tab hT
  have big : (crossed (xs.map rw3)).length ≤ 10000 := by
    have := flat_le (f := fun x : Rw => (lifted (xs.map rw3) x).map fun y => (x.nm, y.nm)) (n := 100) (fun x => by
      rw [List.length_map]
      exact Nat.le_trans (lifted_len _ x) (by rw [List.length_map]; exact hl)) (takers (xs.map rw3))
    rw [takers_length, List.length_map] at this
    exact Nat.le_trans this (Nat.mul_le_mul_right 100 hl)
  generalize hH0 : upd H D (.lst []) = H0 at G0 eD hM PA0 T0 ⊢
  generalize hcr : crossed (xs.map rw3) = qs at h big
  refine ⟨qs.length, ⟨fun m Hr x H1 => Grows T Hr H1 ∧ ∃ q, qs[qs.length - 1 - m]? = some q ∧ PairAt H1 x q, fun H1 H2 => Km (· = D) C T H1 H2⟩, fun Hr H1 => Grows T Hr H1, fun m H' => m ≤ qs.length ∧ Km (· = D) C T H0 H' ∧ ∃ acc, H' D = some (.lst acc) ∧ PySem.Paired (PairAt H') acc (qs.take (qs.length - m)),
    ⟨p, xs, (· = D), rfl, PA0, hs, hl, T0, by rw [hcr], hM, fun m Hr x H1 q _ _ g e pa => ⟨g, q, by rw [← hcr]; exact (hcr ▸ e), pa⟩, fun _ _ k => k, fun _ _ _ g => g⟩, fun _ _ _ _ y => stays_grows y.1, fun _ _ g => stays_grows g, fun m H' w => ?_, ⟨Nat.le_refl _, Km.refl hM, [], eD, by rw [Nat.sub_self]; exact .nil⟩, fun Hr H' w g => ?_, fun m Hr x H' w y => ?_⟩
  · obtain ⟨_, _, acc, e, _⟩ := w
    rw [e]
    exact fun z => nomatch z
  · obtain ⟨_, k, acc, e, r⟩ := w
    rw [Nat.sub_zero, List.take_length] at r
    have k2 := k.then g.ext g.tab
    refine h D H' acc ⟨fun a o e1 n => ?_, fun t => k2.tab (by rw [← hH0]; exact LamX.Tabs.ext t fun b u q => by rw [upd_ne (ne_of_none q hD)]; exact q)⟩ hD (g.ext _ _ e fun _ z => nomatch z) (Shg.pair_mono (fun _ _ z => PairAt.ext g.ext z) r)
    refine k2.keep a o ?_ (fun z => by subst z; rw [hD] at e1; cases e1) n
    rw [← hH0, upd_ne (ne_of_none e1 hD)]
    exact e1
  · obtain ⟨lm, k, acc, e, r⟩ := w
    obtain ⟨g, q, hq, pa⟩ := y
    have e' := g.ext _ _ e fun _ z => nomatch z
    have k' := k.then g.ext g.tab
    have la := Shg.pair_len r
    have sq : wipe ((wipe σ [i]).set i (some x)) [i] = wipe σ [i] := by
      show ((σ.set i none).set i (some x)).set i none = σ.set i none
      rw [List.set_set, List.set_set]
    refine ⟨sq, ?_⟩
    dsimp only [tYes]
    rw [if_pos rfl]
    refine ⟨x, ?_, acc, e', ?_, km_upd e', by omega, k'.trans (km_upd e'), _, upd_same, ?_⟩
    · show ((σ.set i none).set i (some x))[i]? = _
      rw [List.getElem?_set_self (by rw [List.length_set]; exact hi)]
    · rw [la, List.length_take]
      have : 20000 < sizeLine := by decide
      omega
    · have et : qs.take (qs.length - m) = qs.take (qs.length - (m + 1)) ++ [q] := by
        rw [show qs.length - m = (qs.length - (m + 1)) + 1 from by omega, List.take_succ, show qs.length - (m + 1) = qs.length - 1 - m from by omega, hq]
        rfl
      rw [et]
      have ku : ∀ {v : V} {z : Str × Str}, PairAt H' v z → PairAt (upd H' D (.lst (acc ++ [x]))) v z := fun {v z} ⟨t, ev, ht⟩ => ⟨t, ev, by
        rw [upd_ne fun y => by rw [y, e'] at ht; cases ht]
        exact ht⟩
      exact Shg.pair_app (Shg.pair_mono (fun _ _ z => ku (PairAt.ext g.ext z)) r) (.cons (ku pa) .nil)
end Gq
set_option Elab.async false
set_option linter.all false
set_option maxRecDepth 100000
set_option maxHeartbeats 8000000
set_option autoImplicit false
/-! _crossing_names: whose stays cross whose. -/
namespace Ck
open PySem L2 Sho NdefX Shg Sh1 Gq
/-- who crosses n, in the order of the pairs -/
def nearOf (qs : List (Str × Str)) (n : Str) : List Str := qs.flatMap fun q => (if q.1 = n then [q.2] else []) ++ (if q.2 = n then [q.1] else [])
/-- a dict from each name to the list of those who cross it -/
def NearK (H : Hp) (kvs : List (Key × V)) (ns : List Str) (f : Str → List Str) : Prop := PySem.Paired (fun (kv : Key × V) (n : Str) => kv.1 = .inr n ∧ ∃ a, kv.2 = .ref a ∧ H a = some (.lst ((f n).map V.str))) kvs ns
abbrev NCn : List Str := ["party", "crossing", "one", "other", "name"]
theorem val_none {kvs : List (Key × V)} {k : Key} (h : ∀ kv ∈ kvs, kv.1 ≠ k) : valV kvs k = none := by
  unfold valV
  rw [List.find?_eq_none.mpr fun kv hkv => by simpa using h kv hkv]
  rfl
theorem none_back {H H1 : Hp} {q : Addr} (s : Same H H1) (h : H1 q = none) : H q = none := by
  cases e : H q with
  | none => rfl
  | some o => rw [s _ _ e] at h; cases h
theorem above_sub (x : Rw) : ∀ {l : List Rw} {y : Rw}, y ∈ above x l → y ∈ l
  | [], _, h => h
  | z :: l, y, h => by
    unfold above at h
    split at h
    · exact List.mem_cons_of_mem _ h
    · exact List.mem_cons_of_mem _ (above_sub x h)
theorem lifted_mem {rs : List Rw} {x y : Rw} (h : y ∈ lifted rs x) : y ∈ rs := by
  unfold lifted at h
  exact bot_mem.mp (above_sub x (List.mem_reverse.mp (List.mem_filter.mp h).1))
theorem no_attr {v : V} {n : Str} (h : (n == ("_stays" : Str)) = false) : List.lookup n [(("_stays" : Str), v)] = none := by
  simp [List.lookup, h]
theorem pair_ix {α β : Type} {R S : α → β → Prop} : ∀ {as : List α} {bs : List β}, PySem.Paired R as bs → (∀ (i : Nat) a b, as[i]? = some a → bs[i]? = some b → R a b → S a b) → PySem.Paired S as bs
  | _, _, .nil, _ => .nil
  | _, _, .cons h t, f => .cons (f 0 _ _ rfl rfl h) (pair_ix t fun i a b e1 e2 => f (i + 1) a b (by simpa using e1) (by simpa using e2))
theorem near_get {H : Hp} {kvs : List (Key × V)} {ns : List Str} {f : Str → List Str} (r : NearK H kvs ns f) {n : Str} (hn : n ∈ ns) : ∃ (a : Addr) (i : Nat) (kv : Key × V), kvs[i]? = some kv ∧ ns[i]? = some n ∧ kv.2 = .ref a ∧ valV kvs (.inr n) = some (.ref a) ∧ H a = some (.lst ((f n).map V.str)) := by
  unfold NearK at r
  induction r with
  | nil => cases hn
  | @cons kv m kvs ns h r ih =>
    obtain ⟨e1, a, e2, e3⟩ := h
    by_cases e : m = n
    · subst e
      exact ⟨a, 0, kv, rfl, rfl, e2, by rw [valV_pos e1, e2], e3⟩
    · obtain ⟨a', i, kv', h1, h2, h3, h4, h5⟩ := ih ((List.mem_cons.mp hn).resolve_left fun z => e z.symm)
      exact ⟨a', i + 1, kv', by simpa using h1, by simpa using h2, h3, by rw [valV_neg (fun z => e (by rw [e1] at z; exact Sum.inr.inj z))]; exact h4, h5⟩
theorem near_upd {H : Hp} {kvs : List (Key × V)} {ns : List Str} {f : Str → List Str} (r : NearK H kvs ns f) (nk : (kvs.map fun kv => kv.2).Nodup) (nn : ns.Nodup) {n z : Str} {a : Addr} {i : Nat} {kv : Key × V} (h1 : kvs[i]? = some kv) (h2 : ns[i]? = some n) (h3 : kv.2 = .ref a) :
    NearK (upd H a (.lst ((f n).map V.str ++ [.str z]))) kvs ns fun m => f m ++ if n = m then [z] else [] := by
  refine pair_ix r fun j kv' m e1 e2 ⟨q1, a', q2, q3⟩ => ⟨q1, a', q2, ?_⟩
  by_cases e : j = i
  · subst e
    rw [h1] at e1
    rw [h2] at e2
    cases e1
    cases e2
    rw [h3] at q2
    show _ = some (HO.lst ((f n ++ if n = n then [z] else []).map V.str))
    rw [← V.ref.inj q2, upd_same, if_pos rfl, List.map_append]
    rfl
  · have na : a' ≠ a := fun y => by
      have x1 : (kvs.map fun kv => kv.2)[j]? = some (.ref a) := by rw [List.getElem?_map, e1, ← y, ← q2]; rfl
      have x2 : (kvs.map fun kv => kv.2)[i]? = some (.ref a) := by rw [List.getElem?_map, h1, ← h3]; rfl
      exact e ((List.getElem?_inj (by
        have := (List.getElem?_eq_some_iff.mp x1).1
        exact this) nk).mp (x1.trans x2.symm))
    have nm : n ≠ m := fun y => by
      subst y
      exact e ((List.getElem?_inj ((List.getElem?_eq_some_iff.mp e2).1) nn).mp (e2.trans h2.symm))
    show _ = some (HO.lst ((f m ++ if n = m then [z] else []).map V.str))
    rw [upd_ne na, if_neg nm, List.append_nil]
    exact q3
section
variable {P : Program} {w : World} {K : PySem.W.Frag} {mg : Str → Option Value} {base : Heap}
def spNear (C : Addr) (T : List (Addr × Str)) : Sp := fun vs H Q _ => ∃ (p : Addr) (xs : List Stay), vs = [.ref p] ∧ PartyAt C H p xs ∧ Short xs ∧ xs.length ≤ 100 ∧ (xs.map fun x => x.1).Nodup ∧ LamX.Tabs T H ∧
  ∀ (D : Addr) (kvs : List (Key × V)) H', Grows T H H' → H' D = some (.dK kvs) → NearK H' kvs (xs.map fun x => x.1) (nearOf (crossed (xs.map rw3))) → Q (.ref D) H'
theorem scCn : FnScope NCn ["party"] (defScope sCrossingNames) := ⟨rfl, rfl, rfl, by decide +kernel, rfl, by decide +kernel, by decide +kernel⟩
theorem units1 {k : Nat} {A : Around} (r : Room k A) : A.units + 1 < cLine := by have := r.un; omega
theorem ok_near {f C fX fN pN : Addr} {fd fdX fdN : FuncData} {T : List (Addr × Str)} (F : Fun K "_crossing_names" "_crossing_names" sCrossingNames f fd) (PC : PartyC K mg C)
    (GN : FnOk P w K mg base CX0 1 fN fdN ["self"] (spPNames C)) (hN : PropOf K C "names" pN fN) (bN : Binds K fdN ["self"] [])
    (GX : GFnQ P w K mg base 8 fX fdX ["self"] (spCrossQ C T)) (mX : Meth K C "crossings" fX) (bX : Binds K fdX ["self"] []) :
    FnOk P w K mg base CX0 10 f fd ["party"] (spNear C T) := by
  refine F.ok scCn (fun vs H Q E h => ?_) (fun cdv A outer s H vs Q E hr h => ?_)
  · obtain ⟨p, xs, rfl, _⟩ := h
    rfl
  obtain ⟨p, xs, rfl, PA, hs, hl, nm, hT, k⟩ := h
  have nd := scCn.nd
  refine ⟨_, pss_cons (ps_setDcK (i := 1) (own := [("name", 4)]) (g := gName 4) (tt := tYes) (tk := tVar 4) (tv := tLst tNil) rfl nd rfl rfl (swD_true rfl rfl rfl (by decide +kernel)) (pi_tup (pe_prop (pv 0) PC.cl hN GN (hr.mono (by decide)) bN .nil pass0 rfl)) (blkOk_by (own := [("name", 4)]) (N := NCn) (sc := defScope sCrossingNames) (by decide +kernel))
      (fun _ _ _ _ _ => pg_name (i := 4) nd rfl (Or.inl rfl)) (fun _ _ _ _ _ => pts_nil) (fun _ _ _ _ _ => pv 4) (fun _ _ _ _ _ => pe_lst pa_nil))
    (pss_cons (ps_forG (k := 8) rfl rfl rfl (hr.mono (by decide)) (pgq_meth0 (pv 0) PC.cl mX GX (hr.mono (by decide)) bX .nil) (pg_tup rfl (pgs_cons (pg_name (i := 2) nd rfl (Or.inl rfl)) (pgs_cons (pg_name (i := 3) nd rfl (Or.inl rfl)) pgs_nil)))
      (pss_cons (ps_expr (pe_bm PySem.F.plainAttrs_list PySem.F.slot_list_append PySem.F.type_list_append mt_append (pe_dget (units1 hr) (pv 1) (pv 2) (fun _ _ => rfl)) (pa_cons (pv 3) pa_nil)))
        (pss_one (ps_expr (pe_bm PySem.F.plainAttrs_list PySem.F.slot_list_append PySem.F.type_list_append mt_append (pe_dget (units1 hr) (pv 1) (pv 3) (fun _ _ => rfl)) (pa_cons (pv 2) pa_nil))))))
      (pss_one (ps_ret (pv 1)))), ?_⟩
  obtain ⟨dx, b, ws, h1, h2, h3⟩ := id PA
  refine asg_rel (fun v H' => ∃ (D : Addr) (kvs : List (Key × V)), v = .ref D ∧ Same H H' ∧ H' D = some (.dK kvs) ∧ PySem.Paired (fun (kv : Key × V) (n : Str) => kv.1 = .inr n ∧ ∃ a, kv.2 = .ref a ∧ H' a = some (.lst []) ∧ H a = none) kvs (xs.map fun x => x.1) ∧ (kvs.map fun kv => kv.2).Nodup) (fun R0 h0 => ?_) fun vD HD hD => ?_
  · refine ⟨_, rfl, p, dx, _, rfl, h1, p, xs, rfl, PA, Nat.le_trans hl (by decide), fun H1 t s1 nt et => ⟨t, rfl, ⟨_, SqT.of et⟩, fun D nD => ?_⟩⟩
    have sD : Same H1 (upd H1 D (.dK [])) := Shg.same_upd nD
    refine loop_any (walk_tup (K := K) (a := t) (xs := xs.map fun x => V.str x.1)) (fun j H' => ∃ kvs, Same H1 H' ∧ H' D = some (.dK kvs) ∧ PySem.Paired (fun (kv : Key × V) (n : Str) => kv.1 = .inr n ∧ ∃ a, kv.2 = .ref a ∧ H' a = some (.lst []) ∧ H1 a = none) kvs ((xs.map fun x => x.1).take j) ∧ (kvs.map fun kv => kv.2).Nodup)
      ⟨[], sD, upd_same, .nil, List.nodup_nil⟩ (fun j H' _ q => by obtain ⟨_, s, _⟩ := q; exact SqT.of (s _ _ et)) (fun j v H4 H5 hj q yy => ?_) fun H4 q => ?_
    · obtain ⟨kvs, s4, e4, r4, n4⟩ := q
      obtain ⟨rfl, e2⟩ := yy
      rw [List.getElem?_map] at e2
      obtain ⟨x, hx, rfl⟩ := Option.map_eq_some_iff.mp e2
      have lk := Shg.pair_len r4
      refine ⟨rfl, _, rfl, Nat.zero_le _, fun q hq => ?_⟩
      have s5 := Shg.same_upd (o := .lst []) hq
      have eD := s5 _ _ e4
      have nin : x.1 ∉ (xs.map fun x => x.1).take j := fun h => by
        obtain ⟨i, hi⟩ := List.getElem?_of_mem h
        rw [List.getElem?_take] at hi
        split at hi
        · have e1 : (xs.map fun x => x.1)[j]? = some x.1 := by rw [List.getElem?_map, hx]; rfl
          have := L2.nodup_ix nm hi e1
          omega
        · cases hi
      have fresh : valV kvs (.inr x.1) = none := val_none fun kv hkv e => by
        obtain ⟨i, hi⟩ := List.getElem?_of_mem hkv
        obtain ⟨n, hn, e1, _⟩ := Shg.pair_get r4 hi
        rw [e1] at e
        exact nin (Sum.inr.inj e ▸ List.mem_of_getElem? hn)
      have e3 : (upd (upd H5 q (.lst [])) D (.dK (putK kvs (.inr x.1) (.ref q)))) D = some (.dK (kvs ++ [(.inr x.1, .ref q)])) := by rw [upd_same, putK_new _ fresh]
      have qD : q ≠ D := fun z => by rw [z, e4] at hq; cases hq
      have keep : ∀ a, H5 a = some (.lst []) → (upd (upd H5 q (.lst [])) D (.dK (putK kvs (.inr x.1) (.ref q)))) a = some (.lst []) := fun a ha => by
        rw [upd_ne fun z => by rw [z, e4] at ha; cases ha]
        exact s5 _ _ ha
      refine ⟨kvs, .inr x.1, rfl, eD, ?_, kvs ++ [(.inr x.1, .ref q)], fun b u e => ?_, e3, ?_, ?_⟩
      · rw [lk, List.length_take, List.length_map]
        have : 1000 < sizeLine := by decide
        omega
      · rw [upd_ne (ne_of_none e nD)]
        exact (s4.trans s5) b u e
      · rw [List.take_succ, List.getElem?_map, hx]
        refine Shg.pair_app (Shg.pair_mono (fun kv n ⟨e1, a, e2, e3, e4⟩ => ⟨e1, a, e2, keep a e3, e4⟩) r4) (.cons ⟨rfl, q, rfl, ?_, none_back s4 hq⟩ .nil)
        rw [upd_ne qD]
        exact upd_same
      · rw [List.map_append, List.nodup_append]
        refine ⟨n4, by simp, fun u hu z hz e => ?_⟩
        rw [List.mem_singleton.mp hz] at e
        subst e
        obtain ⟨kv, hkv, e⟩ := List.mem_map.mp hu
        obtain ⟨i, hi⟩ := List.getElem?_of_mem hkv
        obtain ⟨n, hn, _, a, e1, e2, _⟩ := Shg.pair_get r4 hi
        rw [e] at e1
        rw [← V.ref.inj e1, hq] at e2
        cases e2
    · obtain ⟨kvs, s4, e4, r4, n4⟩ := q
      rw [List.take_of_length_le (by rw [List.length_map, List.length_map]; exact Nat.le_refl _)] at r4
      exact h0 _ _ ⟨D, kvs, rfl, s1.trans s4, e4, Shg.pair_mono (fun kv n ⟨e1, a, e2, e3, e4⟩ => ⟨e1, a, e2, e3, none_back s1 e4⟩) r4, n4⟩
  obtain ⟨D, kvs, rfl, sD, eD, rD, nD⟩ := hD
  have lk := Shg.pair_len rD
  have PD := PA.same sD
  have TD := LamX.Tabs.ext hT sD
  have mEm : ∀ a, (∃ kv ∈ kvs, kv.2 = V.ref a) → HD a = some (.lst []) ∧ H a = none := fun a ⟨kv, hkv, e⟩ => by
    obtain ⟨i, hi⟩ := List.getElem?_of_mem hkv
    obtain ⟨n, hn, _, a', e1, e2, e3⟩ := Shg.pair_get rD hi
    rw [e] at e1
    rw [V.ref.inj e1]
    exact ⟨e2, e3⟩
  generalize hMd : (fun a => ∃ kv ∈ kvs, kv.2 = V.ref a) = M
  have mEm : ∀ a, M a → HD a = some (.lst []) ∧ H a = none := fun a h => mEm a (by rw [← hMd] at h; exact h)
  have mOf : ∀ kv ∈ kvs, ∀ a, kv.2 = V.ref a → M a := fun kv h a e => by rw [← hMd]; exact ⟨kv, h, e⟩
  have hM : ∀ a, M a → ∃ o, HD a = some o ∧ Fre C o := fun a h => ⟨_, (mEm a h).1, trivial⟩
  have nMD : ¬ M D := fun z => by
    have := (mEm D z).1
    rw [eD] at this
    cases this
  obtain ⟨dx2, b2, ws2, p1, p2, p3⟩ := id PD
  generalize hq : crossed (xs.map rw3) = qs at k
  refine ⟨_, rfl, p, dx2, _, rfl, p1, no_attr (by decide +kernel), rfl, qs.length, ⟨fun m Hr x H1 => Grows T Hr H1 ∧ ∃ q, qs[qs.length - 1 - m]? = some q ∧ PairAt H1 x q, fun H1 H2 => Km M C T H1 H2⟩, fun Hr H1 => Grows T Hr H1,
    fun m σ H' => m ≤ qs.length ∧ (∃ o2 o3, σ = [some (.ref p), some (.ref D), o2, o3, none]) ∧ Km M C T HD H' ∧ NearK H' kvs (xs.map fun x => x.1) (nearOf (qs.take (qs.length - m))),
    ⟨p, xs, M, rfl, PD, hs, hl, TD, by rw [hq], hM, fun m Hr x H1 q _ _ g e pa => ⟨g, q, by rw [← hq]; exact (hq ▸ e), pa⟩, fun _ _ k => k, fun _ _ _ g => g⟩, fun _ _ _ _ y => stays_grows y.1, fun _ _ g => stays_grows g,
    ⟨Nat.le_refl _, ⟨none, none, rfl⟩, Km.refl hM, ?_⟩, fun σ Hr H' w g => ?_, fun m σ Hr x H' w y => ?_⟩
  · rw [Nat.sub_self]
    exact Shg.pair_mono (fun kv n ⟨e1, a, e2, e3, _⟩ => ⟨e1, a, e2, e3⟩) rD
  · obtain ⟨_, ⟨o2, o3, rfl⟩, kM, nk⟩ := w
    rw [Nat.sub_zero, List.take_length] at nk
    have k2 := kM.then g.ext g.tab
    refine ⟨_, rfl, k D kvs H' ⟨fun a o e n => k2.keep a o (sD _ _ e) (fun z => ?_) n, fun t => k2.tab (LamX.Tabs.ext t sD)⟩ (k2.keep D _ eD nMD fun _ z => nomatch z) (Shg.pair_mono (fun kv n ⟨e1, a, e2, e3⟩ => ⟨e1, a, e2, g.ext _ _ e3 fun _ z => nomatch z⟩) nk)⟩
    rw [(mEm a z).2] at e
    cases e
  · obtain ⟨lm, ⟨o2, o3, rfl⟩, kM, nk⟩ := w
    obtain ⟨g, q, hq1, t, rfl, ht⟩ := y
    refine ⟨t, _, rfl, SqT.of ht, rfl, _, _, rfl, _, _, rfl, rfl, ?_⟩
    have k2 := kM.then g.ext g.tab
    have eD2 := k2.keep D _ eD nMD fun _ z => nomatch z
    have nk2 : NearK H' kvs (xs.map fun x => x.1) (nearOf (qs.take (qs.length - (m + 1)))) := Shg.pair_mono (fun kv n ⟨e1, a, e2, e3⟩ => ⟨e1, a, e2, g.ext _ _ e3 fun _ z => nomatch z⟩) nk
    have mem : q.1 ∈ (xs.map fun x => x.1) ∧ q.2 ∈ (xs.map fun x => x.1) := by
      have h1 := List.mem_of_getElem? hq1
      rw [← hq] at h1
      unfold crossed at h1
      obtain ⟨r, hr', h2⟩ := List.mem_flatMap.mp h1
      obtain ⟨r2, hr2, rfl⟩ := List.mem_map.mp h2
      have h3 := takers_mem hr'
      have h4 : r2 ∈ xs.map rw3 := lifted_mem hr2
      obtain ⟨x, hx, rfl⟩ := List.mem_map.mp h3
      obtain ⟨y, hy, rfl⟩ := List.mem_map.mp h4
      exact ⟨List.mem_map.mpr ⟨x, hx, rfl⟩, List.mem_map.mpr ⟨y, hy, rfl⟩⟩
    have few : ∀ n, (nearOf (qs.take (qs.length - (m + 1))) n).length + 2 < sizeLine := fun n => by
      have h1 := flat_le (f := fun q : Str × Str => (if q.1 = n then [q.2] else []) ++ (if q.2 = n then [q.1] else [])) (n := 2) (fun q => by
        rw [List.length_append]
        have e1 : ((if q.1 = n then [q.2] else [] : List Str)).length ≤ 1 := by split <;> simp
        have e2 : ((if q.2 = n then [q.1] else [] : List Str)).length ≤ 1 := by split <;> simp
        omega) (qs.take (qs.length - (m + 1)))
      have h2 : (nearOf (qs.take (qs.length - (m + 1))) n).length ≤ (qs.take (qs.length - (m + 1))).length * 2 := h1
      have h3 := flat_le (f := fun x : Rw => (lifted (xs.map rw3) x).map fun y => (x.nm, y.nm)) (n := 100) (fun x => by
        rw [List.length_map]
        exact Nat.le_trans (lifted_len _ x) (by rw [List.length_map]; exact hl)) (takers (xs.map rw3))
      rw [takers_length, List.length_map] at h3
      have h4 : qs.length ≤ xs.length * 100 := by rw [← hq]; exact h3
      have h5 : 30000 < sizeLine := by decide
      rw [List.length_take] at h2
      omega
    obtain ⟨a1, i1, kv1, c1, c2, c3, c4, c5⟩ := near_get nk2 mem.1
    have M1 := mOf kv1 (List.mem_of_getElem? c1) a1 c3
    refine ⟨_, rfl, _, rfl, D, .ref a1, rfl, ?_, .inl ⟨rfl, _, SqL.of c5⟩, _, rfl, a1, _, _, rfl, rfl, c5, ?_, ?_⟩
    · rw [← c4]
      exact DGet.k (k := Sum.inr q.1) eD2
    · rw [List.length_map]
      have := few q.1
      omega
    have nk3 := near_upd nk2 nD nm c1 c2 c3 (z := q.2)
    have km3 : Km M C T H' (upd H' a1 (.lst ((nearOf (qs.take (qs.length - (m + 1))) q.1).map V.str ++ [.str q.2]))) := ⟨fun b o e n _ => by
      have nb : b ≠ a1 := fun z => by subst z; exact n M1
      rw [upd_ne nb]; exact e, k2.new, fun b h => by
      by_cases e : b = a1
      · subst e; exact ⟨_, upd_same, trivial⟩
      · rw [upd_ne e]; exact k2.new b h, fun t => tabs_at c5 t⟩
    have eD3 := km3.keep D _ eD2 nMD fun _ z => nomatch z
    generalize upd H' a1 (.lst ((nearOf (qs.take (qs.length - (m + 1))) q.1).map V.str ++ [.str q.2])) = H3 at nk3 km3 eD3 ⊢
    obtain ⟨a2, i2, kv2, d1, d2, d3, d4, d5⟩ := near_get nk3 mem.2
    have M2 := mOf kv2 (List.mem_of_getElem? d1) a2 d3
    refine ⟨_, rfl, _, rfl, D, .ref a2, rfl, ?_, .inl ⟨rfl, _, SqL.of d5⟩, _, rfl, a2, _, _, rfl, rfl, d5, ?_, ?_⟩
    · rw [← d4]
      exact DGet.k (k := Sum.inr q.2) eD3
    · rw [List.length_map]
      have := few q.2
      show ((nearOf (qs.take (qs.length - (m + 1))) q.2) ++ _).length < _
      rw [List.length_append]
      have : ((if q.1 = q.2 then [q.2] else [] : List Str)).length ≤ 1 := by split <;> simp
      omega
    have nk4 := near_upd nk3 nD nm d1 d2 d3 (z := q.1)
    have et : qs.take (qs.length - m) = qs.take (qs.length - (m + 1)) ++ [q] := by
      rw [show qs.length - m = (qs.length - (m + 1)) + 1 from by omega, List.take_succ, show qs.length - (m + 1) = qs.length - 1 - m from by omega, hq1]
      rfl
    have ef : (fun n => (nearOf (qs.take (qs.length - (m + 1))) n ++ if q.1 = n then [q.2] else []) ++ if q.2 = n then [q.1] else []) = nearOf (qs.take (qs.length - m)) := by
      funext n
      rw [et]
      unfold nearOf
      rw [List.flatMap_append, List.flatMap_cons, List.flatMap_nil, List.append_nil, List.append_assoc]
    have nk5 : NearK _ kvs (xs.map fun x => x.1) _ := nk4
    rw [ef] at nk5
    have km4 : Km M C T H3 (upd H3 a2 (.lst ((nearOf (qs.take (qs.length - (m + 1))) q.2 ++ if q.1 = q.2 then [q.2] else []).map V.str ++ [.str q.1]))) := ⟨fun b o e n _ => by
      have nb : b ≠ a2 := fun z => by subst z; exact n M2
      rw [upd_ne nb]; exact e, km3.new, fun b h => by
      by_cases e : b = a2
      · subst e; exact ⟨_, upd_same, trivial⟩
      · rw [upd_ne e]; exact km3.new b h, fun t => tabs_at d5 t⟩
    exact ⟨km3.trans km4, by omega, ⟨_, _, rfl⟩, (k2.trans km3).trans km4, nk5⟩
end
end Ck
set_option Elab.async false
set_option linter.all false
set_option maxRecDepth 100000
set_option maxHeartbeats 2000000
set_option autoImplicit false
/-! Who crosses whom: numbers. -/
namespace Ck
open PySem L2 Sho NdefX Shg Sh1 Gq
theorem crossed_mem {rs : List Rw} {q : Str × Str} (hq : q ∈ crossed rs) : q.1 ∈ rs.map Rw.nm ∧ q.2 ∈ rs.map Rw.nm := by
  unfold crossed at hq
  obtain ⟨r, hr', h2⟩ := List.mem_flatMap.mp hq
  obtain ⟨r2, hr2, rfl⟩ := List.mem_map.mp h2
  exact ⟨List.mem_map.mpr ⟨r, takers_mem hr', rfl⟩, List.mem_map.mpr ⟨r2, lifted_mem hr2, rfl⟩⟩
theorem near_mem {rs : List Rw} {n m : Str} (h : m ∈ nearOf (crossed rs) n) : m ∈ rs.map Rw.nm := by
  unfold nearOf at h
  obtain ⟨q, hq, h⟩ := List.mem_flatMap.mp h
  have both := crossed_mem hq
  rcases List.mem_append.mp h with h | h
  · split at h
    · rw [List.mem_singleton.mp h]; exact both.2
    · cases h
  · split at h
    · rw [List.mem_singleton.mp h]; exact both.1
    · cases h
theorem crossed_few (rs : List Rw) {k : Nat} (hk : rs.length ≤ k) : (crossed rs).length ≤ k * k := by
  have h3 := flat_le (f := fun x : Rw => (lifted rs x).map fun y => (x.nm, y.nm)) (n := k) (fun x => by
    rw [List.length_map]
    exact Nat.le_trans (lifted_len _ x) hk) (takers rs)
  rw [takers_length] at h3
  exact Nat.le_trans h3 (Nat.mul_le_mul_right k hk)
theorem near_few (qs : List (Str × Str)) (n : Str) : (nearOf qs n).length ≤ qs.length * 2 := flat_le (f := fun q : Str × Str => (if q.1 = n then [q.2] else []) ++ (if q.2 = n then [q.1] else [])) (n := 2) (fun q => by
  rw [List.length_append]
  have e1 : ((if q.1 = n then [q.2] else [] : List Str)).length ≤ 1 := by split <;> simp
  have e2 : ((if q.2 = n then [q.1] else [] : List Str)).length ≤ 1 := by split <;> simp
  omega) qs
theorem nm_rw (xs : List Stay) : (xs.map rw3).map Rw.nm = xs.map fun x => x.1 := by
  rw [List.map_map]
  rfl
theorem near_sym {qs : List (Str × Str)} {n m : Str} (h : m ∈ nearOf qs n) : n ∈ nearOf qs m := by
  unfold nearOf at h ⊢
  obtain ⟨q, hq, h⟩ := List.mem_flatMap.mp h
  refine List.mem_flatMap.mpr ⟨q, hq, ?_⟩
  rcases List.mem_append.mp h with h | h
  · split at h
    · rename_i e
      rw [List.mem_singleton.mp h, e]
      exact List.mem_append_right _ (by simp)
    · cases h
  · split at h
    · rename_i e
      rw [List.mem_singleton.mp h, e]
      exact List.mem_append_left _ (by simp)
    · cases h
theorem near_iff {qs : List (Str × Str)} {n m : Str} : m ∈ nearOf qs n ↔ (n, m) ∈ qs ∨ (m, n) ∈ qs := by
  unfold nearOf
  rw [List.mem_flatMap]
  constructor
  · rintro ⟨q, hq, h⟩
    obtain ⟨a, b⟩ := q
    rcases List.mem_append.mp h with h1 | h1
    · by_cases e : a = n
      · have h1 : m ∈ (if a = n then [b] else []) := h1
        rw [if_pos e] at h1
        rw [← e, List.mem_singleton.mp h1]
        exact .inl hq
      · have h1 : m ∈ (if a = n then [b] else []) := h1
        rw [if_neg e] at h1
        cases h1
    · by_cases e : b = n
      · have h1 : m ∈ (if b = n then [a] else []) := h1
        rw [if_pos e] at h1
        rw [← e, List.mem_singleton.mp h1]
        exact .inr hq
      · have h1 : m ∈ (if b = n then [a] else []) := h1
        rw [if_neg e] at h1
        cases h1
  · rintro (h | h)
    · exact ⟨_, h, List.mem_append_left _ (by simp)⟩
    · exact ⟨_, h, List.mem_append_right _ (by simp)⟩
theorem near_same {H H' : Hp} {kvs : List (Key × V)} {gs : List Str} {F0 : Str → List Str} (nk : NearK H kvs gs F0) (s : Same H H') : NearK H' kvs gs F0 := Shg.pair_mono (fun kv n ⟨e1, a, e2, e3⟩ => ⟨e1, a, e2, s _ _ e3⟩) nk
theorem and_yes {A B : TT} {σ : L2.St} {H : Hp} {Q : Bool → Hp → Prop} (hA : ∀ R : Bool → Hp → Prop, R true H → A σ H R) (hB : B σ H Q) : tAnd A B σ H Q := hA _ (iteT hB)
theorem and_not {A B : TT} {σ : L2.St} {H : Hp} {Q : Bool → Hp → Prop} (hA : ∀ R : Bool → Hp → Prop, R false H → A σ H R) (hQ : Q false H) : tAnd A B σ H Q := hA _ (iteF hQ)
end Ck
set_option Elab.async false
set_option linter.all false
set_option maxRecDepth 100000
set_option maxHeartbeats 4000000
/-! What is sorted: bot is a permutation, in the order of coming, stable. -/
namespace Sh1
open PySem L2 Sho NdefX Shg
theorem insK_perm {α : Type} {p : Int × α} : ∀ {l : List (Int × α)}, (insK p l).Perm (p :: l)
  | [] => List.Perm.refl _
  | q :: l => by
    unfold insK
    split
    · exact List.Perm.refl _
    · exact ((insK_perm (p := p) (l := l)).cons q).trans (List.Perm.swap p q l)
theorem sortK_perm {α : Type} : ∀ {l : List (Int × α)}, (sortK l).Perm l
  | [] => List.Perm.refl _
  | q :: l => by
    unfold sortK
    exact insK_perm.trans ((sortK_perm (l := l)).cons q)
theorem insK_sorted {α : Type} {p : Int × α} : ∀ {l : List (Int × α)}, l.Pairwise (fun a b => a.1 ≤ b.1) → (insK p l).Pairwise (fun a b => a.1 ≤ b.1)
  | [], _ => by
    unfold insK
    simp
  | q :: l, h => by
    rw [List.pairwise_cons] at h
    unfold insK
    split
    · rename_i hle
      rw [List.pairwise_cons]
      refine ⟨fun b hb => ?_, List.pairwise_cons.mpr h⟩
      rcases List.mem_cons.mp hb with rfl | hb
      · exact hle
      · exact Int.le_trans hle (h.1 b hb)
    · rename_i hle
      rw [List.pairwise_cons]
      refine ⟨fun b hb => ?_, insK_sorted h.2⟩
      rcases insK_mem.mp hb with rfl | hb
      · omega
      · exact h.1 b hb
theorem sortK_sorted {α : Type} : ∀ {l : List (Int × α)}, (sortK l).Pairwise (fun a b => a.1 ≤ b.1)
  | [] => by
    unfold sortK
    exact List.Pairwise.nil
  | q :: l => by
    unfold sortK
    exact insK_sorted sortK_sorted
theorem zip_map_self {α β : Type} (f : α → β) : ∀ l : List α, (l.map f).zip l = l.map fun x => (f x, x)
  | [] => rfl
  | x :: l => by rw [List.map_cons, List.zip_cons_cons, zip_map_self f l, List.map_cons]
theorem bot_perm (rs : List Rw) : (bot rs).Perm rs := by
  unfold bot sortV
  rw [zip_map_self]
  refine (sortK_perm.map _).trans ?_
  rw [List.map_map]
  simp [Function.comp_def]
theorem bot_sorted (rs : List Rw) : (bot rs).Pairwise (fun a b => a.come ≤ b.come) := by
  unfold bot sortV
  rw [zip_map_self]
  rw [List.pairwise_map]
  refine List.Pairwise.imp_of_mem (fun {a b} ha hb h => ?_) sortK_sorted
  obtain ⟨x, _, rfl⟩ := List.mem_map.mp (sortK_mem.mp ha)
  obtain ⟨y, _, rfl⟩ := List.mem_map.mp (sortK_mem.mp hb)
  exact h
theorem bot_key {rs : List Rw} : ∀ q ∈ sortK (rs.map fun x => (x.come, x)), q.1 = q.2.come := fun q hq => by
  obtain ⟨x, _, rfl⟩ := List.mem_map.mp (sortK_mem.mp hq)
  rfl
theorem sortV_self (f : Rw → Int) (rs : List Rw) : sortV (rs.map f) rs = (sortK (rs.map fun x => (f x, x))).map (·.2) := by
  unfold sortV
  rw [zip_map_self]
theorem sortV_filter (f : Rw → Int) (rs : List Rw) (c : Int) : (sortV (rs.map f) rs).filter (fun r => decide (f r = c)) = rs.filter fun r => decide (f r = c) := by
  have key : ∀ q ∈ sortK (rs.map fun x => (f x, x)), q.1 = f q.2 := fun q hq => by
    obtain ⟨x, _, rfl⟩ := List.mem_map.mp (sortK_mem.mp hq)
    rfl
  rw [sortV_self, List.filter_map]
  have e1 : (sortK (rs.map fun x => (f x, x))).filter ((fun r => decide (f r = c)) ∘ fun x => x.2) = (sortK (rs.map fun x => (f x, x))).filter fun q => q.1 == c :=
    List.filter_congr fun q hq => by
      show decide (f q.2 = c) = (q.1 == c)
      rw [key q hq, Bool.eq_iff_iff]
      simp
  rw [e1, sortK_filter, List.filter_map, List.map_map]
  have e2 : ((fun x : Int × Rw => x.2) ∘ fun x : Rw => (f x, x)) = id := rfl
  rw [e2, List.map_id]
  refine List.filter_congr fun x _ => ?_
  show (f x == c) = decide (f x = c)
  rw [Bool.eq_iff_iff]
  simp
theorem sortV_perm (f : Rw → Int) (rs : List Rw) : (sortV (rs.map f) rs).Perm rs := by
  rw [sortV_self]
  refine (sortK_perm.map _).trans ?_
  rw [List.map_map]
  simp [Function.comp_def]
theorem sortV_sorted (f : Rw → Int) (rs : List Rw) : (sortV (rs.map f) rs).Pairwise (fun a b => f a ≤ f b) := by
  rw [sortV_self, List.pairwise_map]
  refine List.Pairwise.imp_of_mem (fun {a b} ha hb h => ?_) sortK_sorted
  obtain ⟨x, _, rfl⟩ := List.mem_map.mp (sortK_mem.mp ha)
  obtain ⟨y, _, rfl⟩ := List.mem_map.mp (sortK_mem.mp hb)
  exact h
end Sh1
set_option Elab.async false
set_option linter.all false
set_option maxRecDepth 100000
set_option maxHeartbeats 4000000
/-! Rows played tick by tick: who lifts whom, as pairs of rows; numbers only. -/
namespace Pq
open PySem L2 Sho NdefX Shg Sh1
/-- the takers in the order of going, who lie higher first -/
def takers (rs : List Rw) : List Rw := sortV ((bot rs).reverse.map Rw.go) (bot rs).reverse
def crossed (rs : List Rw) : List (Rw × Rw) := (takers rs).flatMap fun x => (lifted rs x).map fun y => (x, y)
theorem takers_mem {rs : List Rw} {r : Rw} (h : r ∈ takers rs) : r ∈ rs := by
  unfold takers sortV at h
  obtain ⟨x, hx, rfl⟩ := List.mem_map.mp h
  exact bot_mem.mp (List.mem_reverse.mp (List.of_mem_zip (sortK_mem.mp hx)).2)
/-- the goings of a tick, from the top down: what is lifted, the pile that is left -/
def gone (t : Int) : List Rw → List (Rw × Rw) × List Rw
  | [] => ([], [])
  | p :: l => if p.go = t then ((gone t l).1 ++ (gone t l).2.reverse.map fun y => (p, y), (gone t l).2) else ((gone t l).1, p :: (gone t l).2)
/-- one tick: what is lifted, the pile behind it -/
def tickOf (rs : List Rw) (t : Int) (pile : List Rw) : List (Rw × Rw) × List Rw := ((gone t pile).1, (gone t pile).2 ++ rs.filter fun r => decide (r.come = t))
def playOn (rs : List Rw) : List Int → List Rw → List (Rw × Rw)
  | [], _ => []
  | t :: ts, pile => (tickOf rs t pile).1 ++ playOn rs ts (tickOf rs t pile).2
def liftsOf (rs : List Rw) (x : Rw) : List (Rw × Rw) := (lifted rs x).map fun y => (x, y)
theorem gone_left (t : Int) : ∀ l : List Rw, (gone t l).2 = l.filter fun r => decide (r.go ≠ t)
  | [] => rfl
  | p :: l => by
    unfold gone
    by_cases h : p.go = t
    · rw [if_pos h, List.filter_cons, if_neg (by simp [h])]
      exact gone_left t l
    · rw [if_neg h, List.filter_cons, if_pos (by simp [h])]
      show p :: (gone t l).2 = _
      rw [gone_left t l]
theorem above_cons_ne {x p : Rw} {l : List Rw} (h : p ≠ x) : above x (p :: l) = above x l := by
  show (if p = x then l else above x l) = _
  rw [if_neg h]
theorem above_cons_eq {x : Rw} {l : List Rw} : above x (x :: l) = l := by
  show (if x = x then l else above x l) = _
  rw [if_pos rfl]
theorem flat_congrI {α β : Type} {f g : α → List β} : ∀ {l : List α}, (∀ x ∈ l, f x = g x) → l.flatMap f = l.flatMap g
  | [], _ => rfl
  | x :: l, h => by
    rw [List.flatMap_cons, List.flatMap_cons, h x List.mem_cons_self, flat_congrI fun y hy => h y (List.mem_cons_of_mem _ hy)]
theorem flat_congr {α β : Type} {f g : α → List β} : ∀ {l : List α}, (∀ x ∈ l, f x = g x) → l.flatMap f = l.flatMap g
  | [], _ => rfl
  | x :: l, h => by
    rw [List.flatMap_cons, List.flatMap_cons, h x List.mem_cons_self, flat_congr fun y hy => h y (List.mem_cons_of_mem _ hy)]
theorem gone_out (t : Int) : ∀ l : List Rw, l.Nodup → (gone t l).1 = (l.filter fun r => decide (r.go = t)).reverse.flatMap fun x => ((above x l).filter fun r => decide (r.go ≠ t)).reverse.map fun y => (x, y)
  | [], _ => rfl
  | p :: l, nd => by
    rw [List.nodup_cons] at nd
    have ih := gone_out t l nd.2
    have cg : (l.filter fun r => decide (r.go = t)).reverse.flatMap (fun x => ((above x (p :: l)).filter fun r => decide (r.go ≠ t)).reverse.map fun y => (x, y)) = (gone t l).1 := by
      rw [ih]
      refine flat_congr fun x hx => ?_
      have hxl : x ∈ l := (List.mem_filter.mp (List.mem_reverse.mp hx)).1
      rw [above_cons_ne fun e => nd.1 (by rw [e]; exact hxl)]
    unfold gone
    by_cases h : p.go = t
    · rw [if_pos h, List.filter_cons, if_pos (by simp [h]), List.reverse_cons, List.flatMap_append, cg, List.flatMap_cons, List.flatMap_nil, List.append_nil, above_cons_eq, gone_left]
    · rw [if_neg h, List.filter_cons, if_neg (by simp [h])]
      exact cg.symm
theorem above_filter {p : Rw → Bool} {x : Rw} (hp : p x = true) : ∀ l : List Rw, above x (l.filter p) = (above x l).filter p
  | [] => rfl
  | r :: l => by
    by_cases e : r = x
    · subst e
      rw [List.filter_cons, if_pos hp, above_cons_eq, above_cons_eq]
    · rw [above_cons_ne e, List.filter_cons]
      split
      · rw [above_cons_ne e, above_filter hp l]
      · exact above_filter hp l
theorem bot_filter (rs : List Rw) (c : Int) : (bot rs).filter (fun r => decide (r.come = c)) = rs.filter fun r => decide (r.come = c) := sortV_filter Rw.come rs c
theorem sorted_split {f : Rw → Int} {t : Int} : ∀ {l : List Rw}, l.Pairwise (fun a b => f a ≤ f b) → l.filter (fun r => decide (f r ≤ t)) = l.filter (fun r => decide (f r < t)) ++ l.filter (fun r => decide (f r = t))
  | [], _ => rfl
  | r :: l, h => by
    rw [List.pairwise_cons] at h
    have ih := sorted_split (t := t) h.2
    rcases Int.lt_trichotomy (f r) t with e | e | e
    · rw [List.filter_cons, if_pos (by simp; omega), List.filter_cons, if_pos (by simp; omega), List.filter_cons, if_neg (by simp; omega), ih]
      rfl
    · have z : l.filter (fun r => decide (f r < t)) = [] := by
        rw [List.filter_eq_nil_iff]
        intro a ha
        have := h.1 a ha
        simp
        omega
      rw [z] at ih
      rw [List.filter_cons, if_pos (by simp; omega), List.filter_cons, if_neg (by simp; omega), z, List.filter_cons, if_pos (by simp; omega), ih]
      rfl
    · have z : ∀ a ∈ l, t < f a := fun a ha => by
        have := h.1 a ha
        omega
      have z1 : l.filter (fun r => decide (f r ≤ t)) = [] := by
        rw [List.filter_eq_nil_iff]
        intro a ha
        have := z a ha
        simp
        omega
      rw [z1] at ih
      rw [List.filter_cons, if_neg (by simp; omega), List.filter_cons, if_neg (by simp; omega), List.filter_cons, if_neg (by simp; omega), z1, ← ih]
/-- what lies on the pile behind tick t -/
def pileOf (rs : List Rw) (t : Int) : List Rw := (bot rs).filter fun r => decide (r.come ≤ t) && decide (t < r.go)
/-- .. and ahead of the goings of tick t -/
def pileTo (rs : List Rw) (t : Int) : List Rw := (bot rs).filter fun r => decide (r.come < t) && decide (t ≤ r.go)
theorem tick_pile {rs : List Rw} (hv : ∀ r ∈ rs, r.come < r.go) (t : Int) : (tickOf rs t (pileTo rs t)).2 = pileOf rs t := by
  show (gone t (pileTo rs t)).2 ++ _ = _
  rw [gone_left]
  unfold pileTo pileOf
  rw [List.filter_filter]
  have s := sorted_split (f := Rw.come) (t := t) (bot_sorted rs)
  have e : (bot rs).filter (fun r => decide (r.come ≤ t) && decide (t < r.go)) = ((bot rs).filter fun r => decide (r.come ≤ t)).filter fun r => decide (t < r.go) := by
    rw [List.filter_filter]
    exact List.filter_congr fun r _ => Bool.and_comm ..
  rw [e, s, List.filter_append, List.filter_filter, bot_filter]
  congr 1
  · refine List.filter_congr fun r _ => ?_
    rw [Bool.eq_iff_iff]
    simp
    omega
  · refine (List.filter_eq_self.mpr fun r hr => ?_).symm
    obtain ⟨h1, h2⟩ := List.mem_filter.mp hr
    have := hv r h1
    simp at h2 ⊢
    omega
theorem nodup_bot {rs : List Rw} (h : rs.Nodup) : (bot rs).Nodup := (bot_perm rs).nodup_iff.mpr h
theorem tick_out {rs : List Rw} (hv : ∀ r ∈ rs, r.come < r.go) (nd : rs.Nodup) (t : Int) : (tickOf rs t (pileTo rs t)).1 = ((bot rs).reverse.filter fun r => decide (r.go = t)).flatMap (liftsOf rs) := by
  show (gone t (pileTo rs t)).1 = _
  have nd' : (pileTo rs t).Nodup := (nodup_bot nd).filter _
  rw [gone_out t _ nd']
  have e1 : ((pileTo rs t).filter fun r => decide (r.go = t)).reverse = (bot rs).reverse.filter fun r => decide (r.go = t) := by
    rw [List.filter_reverse]
    congr 1
    unfold pileTo
    rw [List.filter_filter]
    refine List.filter_congr fun r hr => ?_
    have := hv r (bot_mem.mp hr)
    rw [Bool.eq_iff_iff]
    simp
    omega
  rw [e1]
  refine flat_congr fun x hx => ?_
  obtain ⟨hx1, hx2⟩ := List.mem_filter.mp hx
  have hxb : x ∈ bot rs := List.mem_reverse.mp hx1
  have xg : x.go = t := of_decide_eq_true hx2
  have xc := hv x (bot_mem.mp hxb)
  unfold liftsOf lifted
  congr 1
  rw [List.filter_reverse]
  congr 1
  unfold pileTo
  rw [above_filter (by simp; omega), List.filter_filter]
  refine List.filter_congr fun r hr => ?_
  unfold crosses
  rw [Bool.eq_iff_iff]
  simp
  omega
theorem pile_between {rs : List Rw} {p t : Int} (hpt : p < t) (h : ∀ r ∈ rs, (r.come ≤ p ∨ t ≤ r.come) ∧ (r.go ≤ p ∨ t ≤ r.go)) : pileOf rs p = pileTo rs t := by
  unfold pileOf pileTo
  refine List.filter_congr fun r hr => ?_
  have := h r (bot_mem.mp hr)
  rw [Bool.eq_iff_iff]
  simp
  omega
theorem play_ticks {rs : List Rw} (hv : ∀ r ∈ rs, r.come < r.go) (nd : rs.Nodup) : ∀ (ts : List Int) (p : Int), ts.Pairwise (fun a b => a < b) → (∀ t ∈ ts, p < t) → (∀ r ∈ rs, (r.come ≤ p ∨ r.come ∈ ts) ∧ (r.go ≤ p ∨ r.go ∈ ts)) →
    playOn rs ts (pileOf rs p) = ts.flatMap fun t => ((bot rs).reverse.filter fun r => decide (r.go = t)).flatMap (liftsOf rs)
  | [], _, _, _, _ => rfl
  | t :: ts, p, hs, hp, hc => by
    rw [List.pairwise_cons] at hs
    have ge : ∀ z, z ∈ t :: ts → t ≤ z := fun z hz => by
      rcases List.mem_cons.mp hz with rfl | hz
      · exact Int.le_refl _
      · exact Int.le_of_lt (hs.1 z hz)
    have e := pile_between (rs := rs) (hp t List.mem_cons_self) fun r hr => ⟨(hc r hr).1.imp id (ge _), (hc r hr).2.imp id (ge _)⟩
    show (tickOf rs t (pileOf rs p)).1 ++ playOn rs ts (tickOf rs t (pileOf rs p)).2 = _
    rw [e, tick_pile hv, tick_out hv nd, List.flatMap_cons]
    congr 1
    refine play_ticks hv nd ts t hs.2 hs.1 fun r hr => ?_
    have := hp t List.mem_cons_self
    constructor
    · rcases (hc r hr).1 with h | h
      · exact .inl (by omega)
      · rcases List.mem_cons.mp h with h | h
        · exact .inl (by omega)
        · exact .inr h
    · rcases (hc r hr).2 with h | h
      · exact .inl (by omega)
      · rcases List.mem_cons.mp h with h | h
        · exact .inl (by omega)
        · exact .inr h
theorem sorted_flat {f : Rw → Int} : ∀ (ts : List Int) (l : List Rw), ts.Pairwise (fun a b => a < b) → l.Pairwise (fun a b => f a ≤ f b) → (∀ r ∈ l, f r ∈ ts) → ts.flatMap (fun t => l.filter fun r => decide (f r = t)) = l
  | [], [], _, _, _ => rfl
  | [], r :: l, _, _, h => nomatch h r List.mem_cons_self
  | t :: ts, l, hs, hl, h => by
    rw [List.pairwise_cons] at hs
    have ge : ∀ r ∈ l, t ≤ f r := fun r hr => by
      rcases List.mem_cons.mp (h r hr) with e | e
      · omega
      · exact Int.le_of_lt (hs.1 _ e)
    have ih := sorted_flat ts (l.filter fun r => decide (t < f r)) hs.2 (hl.filter _) fun r hr => by
      obtain ⟨h1, h2⟩ := List.mem_filter.mp hr
      have h2 := of_decide_eq_true h2
      rcases List.mem_cons.mp (h r h1) with e | e
      · omega
      · exact e
    have e1 : ts.flatMap (fun z => l.filter fun r => decide (f r = z)) = ts.flatMap fun z => (l.filter fun r => decide (t < f r)).filter fun r => decide (f r = z) := flat_congr fun z hz => by
      have := hs.1 z hz
      rw [List.filter_filter]
      refine List.filter_congr fun r _ => ?_
      rw [Bool.eq_iff_iff]
      simp
      omega
    rw [List.flatMap_cons, e1, ih]
    have key : ∀ m : List Rw, m.Pairwise (fun a b => f a ≤ f b) → (∀ r ∈ m, t ≤ f r) → (m.filter fun r => decide (f r = t)) ++ (m.filter fun r => decide (t < f r)) = m := fun m => by
      induction m with
      | nil => intros; rfl
      | cons r m ihm =>
        intro hm hg
        rw [List.pairwise_cons] at hm
        have g0 := hg r List.mem_cons_self
        by_cases e : f r = t
        · rw [List.filter_cons, if_pos (by simp [e]), List.filter_cons, if_neg (by simp; omega), List.cons_append, ihm hm.2 fun y hy => hg y (List.mem_cons_of_mem _ hy)]
        · have z : (m.filter fun r => decide (f r = t)) = [] := by
            rw [List.filter_eq_nil_iff]
            intro a ha
            have := hm.1 a ha
            simp
            omega
          have ih2 := ihm hm.2 fun y hy => hg y (List.mem_cons_of_mem _ hy)
          rw [z, List.nil_append] at ih2
          rw [List.filter_cons, if_neg (by simp [e]), z, List.nil_append, List.filter_cons, if_pos (by simp; omega), ih2]
    exact key l hl ge
/-- the theorem: a party that is played lifts as `crossed` tells -/
theorem play_crossed {rs : List Rw} (hv : ∀ r ∈ rs, r.come < r.go) (nd : rs.Nodup) {ts : List Int} (hs : ts.Pairwise (fun a b => a < b)) (hc : ∀ r ∈ rs, r.come ∈ ts ∧ r.go ∈ ts) : playOn rs ts [] = crossed rs := by
  obtain ⟨p, hp⟩ : ∃ p : Int, ∀ t ∈ ts, p < t := by
    clear hc
    induction ts with
    | nil => exact ⟨0, fun _ h => nomatch h⟩
    | cons t ts _ =>
      rw [List.pairwise_cons] at hs
      refine ⟨t - 1, fun z hz => ?_⟩
      rcases List.mem_cons.mp hz with rfl | hz
      · omega
      · have := hs.1 z hz
        omega
  have e0 : ([] : List Rw) = pileOf rs p := by
    unfold pileOf
    refine (List.filter_eq_nil_iff.mpr fun r hr => ?_).symm
    have := hp _ (hc r (bot_mem.mp hr)).1
    simp
    omega
  rw [e0, play_ticks hv nd ts p hs hp fun r hr => ⟨.inr (hc r hr).1, .inr (hc r hr).2⟩]
  have st := sorted_flat (f := Rw.go) ts (takers rs) hs (sortV_sorted Rw.go _) fun r hr => (hc r (takers_mem hr)).2
  show _ = (takers rs).flatMap (liftsOf rs)
  rw [← st]
  have fl : ∀ l : List Int, (l.flatMap fun t => (takers rs).filter fun r => decide (r.go = t)).flatMap (liftsOf rs) = l.flatMap fun t => ((bot rs).reverse.filter fun r => decide (r.go = t)).flatMap (liftsOf rs) := fun l => by
    induction l with
    | nil => rfl
    | cons t l ih =>
      rw [List.flatMap_cons, List.flatMap_append, ih, List.flatMap_cons]
      congr 2
      exact sortV_filter Rw.go (bot rs).reverse t
  exact (fl ts).symm
end Pq
set_option Elab.async false
set_option linter.all false
set_option maxRecDepth 100000
set_option maxHeartbeats 2000000
namespace Sh1
open PySem L2 Sho NdefX
/-! ### draws: the state is the list at l -/
structure DrawSt (K : PySem.W.Frag) (H : Hp) (l a : Addr) (ns : List Int) : Prop where
  ex : ∃ pos seed rest : Int, H l = some (.lst [.ref a, .int pos, .int seed, .int rest]) ∧ 0 ≤ pos ∧ (0 ≤ seed ∧ seed < 2147483647) ∧ 0 ≤ rest
  sc : SqL K H a (ns.map V.int)
  len : ns.length ≤ 63
/-- all but the object at l stays -/
def But (l : Addr) (H H' : Hp) : Prop := ∀ b o, H b = some o → b ≠ l → H' b = some o
theorem But.trans {l : Addr} {H H1 H2 : Hp} (a : But l H H1) (b : But l H1 H2) : But l H H2 := fun c o e n => b c o (a c o e n) n
theorem But.of {l : Addr} {H H' : Hp} (s : Same H H') : But l H H' := fun b o e _ => s b o e
theorem sql_but {K : PySem.W.Frag} {H H' : Hp} {l a : Addr} {ns : List Int} {r : List V} (hl : H l = some (.lst (.ref a :: r))) (h : SqL K H a (ns.map V.int)) (s : But l H H') : SqL K H' a (ns.map V.int) := by
  have ne : ∀ u, H a = some u → (∀ ys, u = .lst (V.ref a :: ys) → False) → a ≠ l := fun u e k z => by
    rw [z, hl] at e
    exact k r (by rw [← Option.some.inj e, z])
  rcases h with (h | ⟨o, h⟩) | h
  · refine .inl (.inl (s _ _ h (ne _ h fun ys e => ?_)))
    injection e with e
    cases ns with
    | nil => cases e
    | cons n ns => cases e
  · exact .inl (.inr ⟨o, s _ _ h (ne _ h fun ys e => by cases e)⟩)
  · exact .inr h
section
variable {P : Program} {w : World} {K : PySem.W.Frag} {mg : Str → Option Value} {base : Heap}
def spStart (K : PySem.W.Frag) : Sp := fun vs H Q _ => ∃ (a : Addr) (ns : List Int), vs = [.ref a] ∧ SqL K H a (ns.map V.int) ∧ ns.length ≤ 63 ∧ ∀ H' l, Same H H' → H l = none → DrawSt K H' l a ns → Q (.ref l) H'
theorem scStart : FnScope ["_law_script", "_law_mixed", "_law_cell"] ["_law_script"] (defScope sStart) := ⟨rfl, rfl, rfl, by decide +kernel, rfl, by decide +kernel, by decide +kernel⟩
theorem ok_start {f : Addr} {fd : FuncData} (F : Fun K "_law_start" "_law_start" sStart f fd) : FnOk P w K mg base CX0 1 f fd ["_law_script"] (spStart K) := by
  refine F.ok scStart (fun vs H Q E h => ?_) (fun cdv A outer s H vs Q E hr h => ?_)
  · obtain ⟨a, ns, rfl, _⟩ := h
    rfl
  · obtain ⟨a, ns, rfl, ha, hlen, k⟩ := h
    have nd := scStart.nd
    refine ⟨_, pss_cons (ps_set (i := 1) nd rfl (Or.inl rfl) pe_int) (pss_cons (ps_for PassesOwn.never rfl (pi_list (pv 0)) (pg_name (i := 2) nd rfl (Or.inl rfl))
        (pss_one (ps_set (i := 1) nd rfl (Or.inl rfl) (pe_op op_mod (pe_op op_add (pe_op op_add (pe_op op_mul (pv 1) pe_int) (pv 2)) pe_int) pe_int))))
      (pss_one (ps_ret (pe_lst (pa_cons (pv 0) (pa_cons pe_int (pa_cons (pv 1) (pa_cons pe_int pa_nil)))))))), ?_⟩
    refine ⟨_, rfl, a, rfl, ⟨_, ha⟩, for_it walk_list (fun i σ H2 => ∃ (m : Int) (o : Option V), σ = [some (.ref a), some (.int m), o] ∧ H2 = H ∧ 0 ≤ m ∧ m < 2147483647) ⟨1, none, rfl, rfl, by decide, by decide⟩
      (fun i σ H2 _ ⟨_, _, _, e, _⟩ => by rw [e]; exact ha) ?_ ?_⟩
    · rintro i y σ H2 H3 hi ⟨m, o, rfl, rfl, m0, m1⟩ ⟨rfl, e2⟩
      obtain ⟨c, rfl⟩ : ∃ c, y = V.int c := by
        rw [List.getElem?_map] at e2
        cases e : ns[i]? with
        | none =>
          rw [e] at e2
          cases e2
        | some c =>
          rw [e] at e2
          exact ⟨c, (Option.some.inj e2).symm⟩
      refine ⟨_, rfl, _, _, rfl, rfl, .inr ⟨by decide, by decide⟩, _, rfl, _, _, rfl, rfl, _, _, rfl, rfl, _, _, rfl, rfl, (by show (0 : Int) < 2147483647; decide), ?_⟩
      exact ⟨_, _, rfl, rfl, Int.emod_nonneg _ (by decide), Int.emod_lt_of_pos _ (by decide)⟩
    · rintro σ H2 ⟨m, o, rfl, rfl, m0, m1⟩
      refine ⟨_, rfl, _, rfl, by show 4 ≤ sizeLine; decide, fun l hl => ?_⟩
      have s1 : Same H2 (upd H2 l (.lst [.ref a, .int 0, .int m, .int 0])) := fun b o e => by rw [upd_ne (ne_of_none e hl)]; exact e
      exact k _ l s1 hl ⟨⟨0, m, 0, upd_same, by decide, ⟨m0, m1⟩, by decide⟩, s1.seq ha, hlen⟩
def spDrawn (K : PySem.W.Frag) : Sp := fun vs H Q _ => ∃ (l a : Addr) (ns : List Int) (n : Int), vs = [.ref l, .int n] ∧ DrawSt K H l a ns ∧ 0 < n ∧ n < 1073741824 ∧ ∀ (r : Int) H', 0 ≤ r → r < n → But l H H' → DrawSt K H' l a ns → Q (.int r) H'
theorem scDrawn : FnScope ["_law_state", "_law_count", "_law_result", "_law_cell"] ["_law_state", "_law_count"] (defScope sDrawn) := ⟨rfl, rfl, rfl, by decide +kernel, rfl, by decide +kernel, by decide +kernel⟩
theorem ok_drawn {f : Addr} {fd : FuncData} (F : Fun K "_law_drawn" "_law_drawn" sDrawn f fd) (B : Blt mg) : FnOk P w K mg base CX0 1 f fd ["_law_state", "_law_count"] (spDrawn K) := by
  refine F.ok scDrawn (fun vs H Q E h => ?_) (fun cdv A outer s H vs Q E hr h => ?_)
  · obtain ⟨l, a, ns, n, rfl, _⟩ := h
    rfl
  · obtain ⟨l, a, ns, n, rfl, ⟨⟨pos, seed, rest, hl, p0, ⟨s0, s1⟩, r0⟩, hsc, hlen⟩, n0, n1, k⟩ := h
    have nd := scDrawn.nd
    refine ⟨_, pss_cons (ps_if (pt_cmpR op_gt (pe_ix ix_list (pv 0) pe_int (fun _ _ => rfl)) pe_int (nomark _))
        (pss_cons (ps_set (i := 2) nd rfl (Or.inl rfl) (pe_op op_mod (pe_ix ix_list (pv 0) pe_int (fun _ _ => rfl)) (pv 1)))
          (pss_cons (ps_asg (pe_op op_fdiv (pe_ix ix_list (pv 0) pe_int (fun _ _ => rfl)) (pv 1)) (pg_sub (pv 0) pe_int set_list))
          (pss_one (ps_ret (pv 2))))) pss_nil)
      (pss_cons (ps_asg (pe_op op_add (pe_ix ix_list (pv 0) pe_int (fun _ _ => rfl)) pe_int) (pg_sub (pv 0) pe_int set_list))
      (pss_cons (ps_if (pt_cmpR op_le (pe_ix ix_list (pv 0) pe_int (fun _ _ => rfl)) (pe_callB call_len_seq (by rfl) B.len PySem.boot_len (pa_cons (pe_ix ix_list (pv 0) pe_int (fun _ _ => rfl)) pa_nil)) (nomark _))
        (pss_cons (ps_set (i := 3) nd rfl (Or.inl rfl) (pe_ix ix_list (pe_ix ix_list (pv 0) pe_int (fun _ _ => rfl)) (pe_op op_sub (pe_ix ix_list (pv 0) pe_int (fun _ _ => rfl)) pe_int) (fun _ _ => rfl)))
          (pss_cons (ps_asg (pe_ifExp (pt_cmpR op_ge (pv 3) (pe_op op_pow pe_int pe_int) (nomark _)) (pe_op op_fdiv (pv 3) (pv 1)) pe_int) (pg_sub (pv 0) pe_int set_list))
          (pss_one (ps_ret (pe_op op_mod (pv 3) (pv 1)))))) pss_nil)
      (pss_cons (ps_asg (pe_op op_mod (pe_op op_add (pe_op op_mul (pe_ix ix_list (pv 0) pe_int (fun _ _ => rfl)) pe_int) pe_int) pe_int) (pg_sub (pv 0) pe_int set_list))
      (pss_one (ps_ret (pe_op op_mod (pe_op op_fdiv (pe_ix ix_list (pv 0) pe_int (fun _ _ => rfl)) pe_int) (pv 1))))))), ?_⟩
    have upBut : ∀ {H1 : Hp} {o : HO}, But l H1 (upd H1 l o) := fun {H1 o} b u e nb => by rw [upd_ne nb]; exact e
    have fin : ∀ (r p' s' r' : Int) (H1 : Hp), 0 ≤ r → r < n → But l H H1 → H1 l = some (.lst [.ref a, .int p', .int s', .int r']) → 0 ≤ p' → 0 ≤ s' → s' < 2147483647 → 0 ≤ r' → Q (.int r) H1 := fun r p' s' r' H1 a1 a2 bu e b1 b2 b3 b4 =>
      k r H1 a1 a2 bu ⟨⟨p', s', r', e, b1, ⟨b2, b3⟩, b4⟩, sql_but hl hsc bu, hlen⟩
    refine ⟨_, rfl, l, _, 3, .int rest, rfl, rfl, SqL.of hl, atI_nat (j := 3) rfl, _, _, rfl, rfl, _, rfl, ?_⟩
    refine ite2 (fun h1 => ?_) (fun h1 => ?_)
    · refine ⟨_, rfl, l, _, 3, .int rest, rfl, rfl, SqL.of hl, atI_nat (j := 3) rfl, _, rfl, _, _, rfl, rfl, n0, _, rfl, l, _, 3, .int rest, rfl, rfl, SqL.of hl, atI_nat (j := 3) rfl, _, rfl, _, _, rfl, rfl, ⟨n0, n1⟩, _, rfl, l, _, 3, 3, rfl, rfl, hl, rfl, _, rfl, ?_⟩
      exact fin _ pos seed (rest / n) _ (Int.emod_nonneg _ (by omega)) (Int.emod_lt_of_pos _ n0) upBut upd_same p0 s0 s1 (Int.ediv_nonneg r0 (by omega))
    · refine ⟨_, rfl, l, _, 1, .int pos, rfl, rfl, SqL.of hl, atI_nat (j := 1) rfl, _, _, rfl, rfl, _, rfl, l, _, 1, 1, rfl, rfl, hl, rfl, ?_⟩
      generalize hH1 : upd H l (.lst ([V.ref a, .int pos, .int seed, .int rest].set 1 (.int (pos + 1)))) = H1
      have hl1 : H1 l = some (.lst [.ref a, .int (pos + 1), .int seed, .int rest]) := by rw [← hH1]; exact upd_same
      have b1 : But l H H1 := by rw [← hH1]; exact upBut
      have sc1 := sql_but hl hsc b1
      refine ⟨_, rfl, l, _, 1, .int (pos + 1), rfl, rfl, SqL.of hl1, atI_nat (j := 1) rfl, _, rfl, l, _, 0, .ref a, rfl, rfl, SqL.of hl1, atI_nat (j := 0) rfl, a, _, rfl, .inl sc1, _, _, rfl, rfl, _, rfl, ?_⟩
      refine ite2 (fun h2 => ?_) (fun h2 => ?_)
      · have h2' : pos + 1 ≤ ((ns.map V.int).length : Nat) := of_decide_eq_true h2
        rw [List.length_map] at h2'
        have lt : pos.toNat < ns.length := by omega
        obtain ⟨c, hc⟩ : ∃ c, ns[pos.toNat]? = some c := ⟨_, List.getElem?_eq_getElem lt⟩
        have hci : atI (ns.map V.int) (pos + 1 - 1) = some (.int c) := by
          have e : pos + 1 - 1 = ((pos.toNat : Nat) : Int) := by omega
          rw [e]
          refine atI_nat ?_
          rw [List.getElem?_map, hc]
          rfl
        refine ⟨_, rfl, l, _, 0, .ref a, rfl, rfl, SqL.of hl1, atI_nat (j := 0) rfl, _, rfl, l, _, 1, .int (pos + 1), rfl, rfl, SqL.of hl1, atI_nat (j := 1) rfl, _, _, rfl, rfl, a, _, _, .int c, rfl, rfl, sc1, hci, ?_⟩
        refine ⟨_, rfl, _, _, rfl, rfl, ⟨by decide, by decide, by decide⟩, _, _, rfl, rfl, _, rfl, ?_⟩
        have last : ∀ r' : Int, 0 ≤ r' → Q (.int (c % n)) (upd H1 l (.lst ([V.ref a, .int (pos + 1), .int seed, .int rest].set 3 (.int r')))) := fun r' hr' =>
          fin _ (pos + 1) seed r' _ (Int.emod_nonneg _ (by omega)) (Int.emod_lt_of_pos _ n0) (b1.trans upBut) upd_same (by omega) s0 s1 hr'
        refine ite2 (fun h3 => ?_) (fun h3 => ?_)
        · have c0 : 0 ≤ c := by
            have h3' := of_decide_eq_true h3
            have : (0 : Int) ≤ 10 ^ (Int.toNat 18) := by decide
            omega
          refine ⟨_, rfl, _, rfl, _, _, rfl, rfl, ⟨n0, n1⟩, _, rfl, l, _, 3, 3, rfl, rfl, hl1, rfl, _, rfl, _, rfl, _, _, rfl, rfl, n0, ?_⟩
          exact last _ (Int.ediv_nonneg c0 (by omega))
        · refine ⟨_, rfl, l, _, 3, 3, rfl, rfl, hl1, rfl, _, rfl, _, rfl, _, _, rfl, rfl, n0, ?_⟩
          exact last 0 (by decide)
      · refine ⟨_, rfl, l, _, 2, .int seed, rfl, rfl, SqL.of hl1, atI_nat (j := 2) rfl, _, _, rfl, rfl, .inr ⟨by decide, by decide⟩, _, _, rfl, rfl, _, _, rfl, rfl, (by show (0 : Int) < 2147483647; decide), _, rfl, l, _, 2, 2, rfl, rfl, hl1, rfl, ?_⟩
        refine ⟨_, rfl, l, _, 2, .int ((seed * 48271 + 11) % 2147483647), rfl, rfl, SqL.of upd_same, atI_nat (j := 2) rfl, _, _, rfl, rfl, ⟨by decide, by decide⟩, _, rfl, _, _, rfl, rfl, n0, ?_⟩
        exact fin _ (pos + 1) _ rest _ (Int.emod_nonneg _ (by omega)) (Int.emod_lt_of_pos _ n0) (b1.trans upBut) upd_same (by omega) (Int.emod_nonneg _ (by decide)) (Int.emod_lt_of_pos _ (by decide)) r0
end
end Sh1
set_option Elab.async false
set_option linter.all false
set_option maxRecDepth 100000
set_option maxHeartbeats 2000000
set_option autoImplicit false
/-! The state of the draws (K1j0) with the tables of code, through what changes beside it. -/
namespace Dw
open PySem L2 Sho NdefX Shg Sh1
structure St (K : PySem.W.Frag) (T : List (Addr × Str)) (l a : Addr) (ns : List Int) (H : Hp) : Prop where
  d : DrawSt K H l a ns
  t : LamX.Tabs T H
section
variable {K : PySem.W.Frag} {T : List (Addr × Str)} {l a : Addr} {ns : List Int} {H H' H0 H1 : Hp}
theorem ne_at {b c : Addr} {H : Hp} {o u : HO} (h1 : H b = some o) (h2 : H c = some u) (n : u ≠ o) : c ≠ b := fun z => by
  rw [z, h1] at h2
  exact n (Option.some.inj h2).symm
theorem tabs_b {l : Addr} {H H' : Hp} {zs : List V} {T : List (Addr × Str)} (hl : H l = some (.lst zs)) (e : But l H H') (t : LamX.Tabs T H) : LamX.Tabs T H' := fun p hp => by
  obtain ⟨qs, q1, q2, q3⟩ := t p hp
  refine ⟨qs, e _ _ q1 (ne_at hl q1 fun z => nomatch z), q2, fun p' cv h => ?_⟩
  obtain ⟨c, e1, e2⟩ := q3 p' cv h
  exact ⟨c, e1, e _ _ e2 (ne_at hl e2 fun z => nomatch z)⟩
theorem sql_e {a : Addr} {xs : List V} (e : LamX.ExtN H H') (h : SqL K H a xs) : SqL K H' a xs := by
  rcases h with (h | ⟨o, h⟩) | h
  · exact .inl (.inl (e _ _ h fun _ z => nomatch z))
  · exact .inl (.inr ⟨o, e _ _ h fun _ z => nomatch z⟩)
  · exact .inr h
theorem draw_ext (d : DrawSt K H l a ns) (e : LamX.ExtN H H') : DrawSt K H' l a ns := by
  obtain ⟨⟨p, s, r, h, k⟩, sc, len⟩ := d
  exact ⟨⟨p, s, r, e _ _ h (fun _ z => nomatch z), k⟩, sql_e e sc, len⟩
theorem draw_at (d : DrawSt K H l a ns) : ∃ zs, H l = some (.lst zs) := by
  obtain ⟨⟨_, _, _, h, _⟩, _, _⟩ := d
  exact ⟨_, h⟩
theorem St.at (s : St K T l a ns H) : ∃ zs, H l = some (.lst zs) := draw_at s.d
theorem St.grows (s : St K T l a ns H) (g : Grows T H H') : St K T l a ns H' := ⟨draw_ext s.d g.ext, g.tab s.t⟩
theorem St.same (s : St K T l a ns H) (e : Same H H') : St K T l a ns H' := ⟨draw_ext s.d (LamX.ExtN.of e), LamX.Tabs.ext s.t e⟩
theorem St.draw (s : St K T l a ns H) (b : But l H H') (d : DrawSt K H' l a ns) : St K T l a ns H' := by
  obtain ⟨zs, hl⟩ := s.at
  exact ⟨d, tabs_b hl b s.t⟩
theorem St.ne (s : St K T l a ns H) {p : Addr} (h : H p = none) : p ≠ l := by
  obtain ⟨zs, hl⟩ := s.at
  exact fun z => by rw [z, hl] at h; cases h
theorem but_upd0 {p : Addr} {o : HO} (b : But l H0 H1) (h : H0 p = none) : But l H0 (upd H1 p o) := fun c u e n => by
  rw [upd_ne (ne_of_none e h)]
  exact b c u e n
theorem but_same (b : But l H0 H1) (s : Same H1 H') : But l H0 H' := b.trans (But.of s)
theorem draw_upd {p : Addr} {o : HO} (s : St K T l a ns H0) (b : But l H0 H1) (d : DrawSt K H1 l a ns) (h : H0 p = none) : DrawSt K (upd H1 p o) l a ns := by
  obtain ⟨⟨p', s', r, e, k⟩, sc, len⟩ := id d
  obtain ⟨⟨_, _, _, e0, _⟩, sc0, _⟩ := s.d
  exact ⟨⟨p', s', r, by rw [upd_ne (Ne.symm (s.ne h))]; exact e, k⟩, sql_but e0 sc0 (but_upd0 b h), len⟩
theorem St.to {p : Addr} {o : HO} (s : St K T l a ns H0) (b : But l H0 H1) (d : DrawSt K H1 l a ns) (h : H0 p = none) : St K T l a ns (upd H1 p o) :=
  s.draw (but_upd0 b h) (draw_upd s b d h)
theorem at_mem {xs : List V} {r : Int} (h0 : 0 ≤ r) (h1 : r < xs.length) : ∃ z, z ∈ xs ∧ atI xs r = some z := by
  obtain ⟨k, rfl⟩ : ∃ k : Nat, r = k := ⟨r.toNat, by omega⟩
  have lt : k < xs.length := by omega
  exact ⟨xs[k], List.getElem_mem lt, atI_nat (List.getElem?_eq_getElem lt)⟩
theorem ifs_join {c : TT} {A B u : TS} {D : Ends} {σ : L2.St} {H : Hp} (P : L2.St → Hp → Prop) (h1 : ∀ N : L2.St → Hp → Prop, (∀ σ' H', P σ' H' → N σ' H') → c σ H fun b H1 => if b = true then A { D with nx := N } σ H1 else B { D with nx := N } σ H1) (h2 : ∀ σ' H', P σ' H' → u D σ' H') : tSeq (tIfS c A B) u D σ H := h1 _ h2
end
end Dw
namespace Shg
open PySem
theorem pair_take {α β : Type} {R : α → β → Prop} : ∀ {as : List α} {bs : List β} (k : Nat), PySem.Paired R as bs → PySem.Paired R (as.take k) (bs.take k)
  | _, _, k, .nil => by rw [List.take_nil, List.take_nil]; exact .nil
  | _, _, 0, .cons _ _ => .nil
  | _, _, k + 1, .cons h r => .cons h (pair_take k r)
theorem pair_drop {α β : Type} {R : α → β → Prop} : ∀ {as : List α} {bs : List β} (k : Nat), PySem.Paired R as bs → PySem.Paired R (as.drop k) (bs.drop k)
  | _, _, k, .nil => by rw [List.drop_nil, List.drop_nil]; exact .nil
  | _, _, 0, .cons h r => .cons h r
  | _, _, k + 1, .cons _ r => pair_drop k r
end Shg
set_option Elab.async false
set_option linter.all false
set_option maxRecDepth 100000
set_option maxHeartbeats 4000000
/-! set(list of ints). -/
namespace Shg
open PySem PySem.Spec PyProof.Rows L2
abbrev nset (w : World) : Obj := { cls := .type "set", dict := none, data := .set #[] 0 (.fresh 0 0 (!w.params.followText "set-order")) }
section
variable {P : Program} {w : World} {A : Around} {E : Value → Shared → Prop} {s : Shared}
set_option maxHeartbeats 3200000 in
theorem set_of_list {b : Addr} {vals : Array Value} (zs : List Int) {G : Value → Shared → Prop} (nh : A.handled = none) (lst : s.heap.IsList b vals) (areI : IntsAre vals.toList zs) (few : zs.length + 1 < scanBound)
    (got : ∀ (hp : Heap) (t n : Nat), SetR w hp s.heap.objs.size (fun j => decide (j ∈ zs)) n → n ≤ zs.length → (∀ a o, s.heap.get? a = some o → hp.get? a = some o) → G (.ref s.heap.objs.size) { s with heap := hp, toks := t }) :
    wpAny (model P w) A (call (.type "set") [.ref b]) G E s := by
  have len : vals.size = zs.length := (Array.length_toList (xs := vals)).symm.trans (IntsAre.length areI)
  obtain ⟨c0, tl0, mro0⟩ := F.called_set.mro
  have q1 := F.called_set.made
  have q2 := F.called_set.sub
  have q3 := F.called_set.notType
  have q4 := F.called_set.canCreate
  have q5 := F.typeCall_set_1 (.ref b)
  refine wpAny_call (codeAny_of_tree (wpAny_pure ⟨Code.quiet_builtin _ (by decide +kernel), codeAny_builtin F.entry_type_call ?_⟩))
  rw [Around.under_plain (weight_type_call_type "set" [.ref b] []) rfl]
  repeat (any_goals (first | assumption | wp_step))
  refine codeAny_mono (code_set_led1 (.ref b) (E := E) (Q₁ := fun x s1 => x = .ref s.heap.objs.size ∧ s1 = { s with heap := s.heap.push (nset w) }) ⟨rfl, rfl⟩) fun r s1 hr => ?_
  rcases r with e | fl
  · exact hr
  cases fl with
  | ret x =>
    obtain ⟨rfl, rfl⟩ := hr
    have there : (s.heap.push (nset w)).get? s.heap.objs.size = some (nset w) := Heap.get?_push_size _ rfl
    have isset : Shared.TypeIs { s with heap := s.heap.push (nset w) } (.ref s.heap.objs.size) "set" := ⟨_, there, rfl⟩
    have i1 := F.called_set.init.lookup
    have i2 := F.called_set.init.bind (.ref s.heap.objs.size)
    repeat (any_goals (first | assumption | wp_step))
    refine codeAny_mono (codeAny_call_builtin (R := wants (fun r s2 => r = .none ∧ ∃ hp t n, s2 = { s with heap := hp, toks := t } ∧ SetR w hp s.heap.objs.size (fun j => decide (j ∈ zs)) n ∧ n ≤ zs.length ∧ (∀ a o, s.heap.get? a = some o → hp.get? a = some o)) E)
      F.called_set.init.plain F.entry_set_init (check_set_init_1 isset ?_)) fun r2 s2 hr2 => ?_
    · obtain ⟨ob, hob, cl, nb, dt⟩ := lst
      obtain ⟨ob1, ob2, ob3, ob4⟩ := ob
      simp only at cl dt
      subst cl dt
      have hob' : (s.heap.push (nset w)).get? b = some { cls := .type "list", dict := ob2, data := .seq vals nb, slots := ob4 } := Heap.get?_push_of_some _ hob
      have n1 := F.sub_list_set
      have n2 := F.sub_list_frozenset
      have n3 : (Value.type "list" == Value.type "dict") = false := by decide
      have lst' : (s.heap.push (nset w)).IsList b vals := ⟨_, hob', rfl, nb, rfl⟩
      unfold Builtin.«set.__init__» noKeywords Builtin.Frozenset.updateFrom
      generalize hit : pyIter = IT
      wp_walk
      subst hit
      refine wpAny_pyIter_list lst' (wpAny_bind (wpAny_runValue ?_))
      have old : b < s.heap.objs.size := Heap.lt_size hob
      have sz : (s.heap.push (nset w)).objs.size = s.heap.objs.size + 1 := Heap.size_push ..
      have nh3 : A.in1.in1.in1.handled = none := by simp [nh]
      have ne1 : b ≠ (s.heap.push (nset w)).objs.size := by
        rw [sz]
        exact Nat.ne_of_lt (Nat.lt_succ_of_lt old)
      have ne2 : s.heap.objs.size ∉ [(s.heap.push (nset w)).objs.size, b] := by
        rw [sz]
        simp only [List.mem_cons, List.not_mem_nil, or_false, not_or]
        exact ⟨Nat.ne_of_lt (Nat.lt_succ_self _), Nat.ne_of_gt old⟩
      have each : ∀ (i : Nat) (v : Value), vals[i]? = some v → ∃ k t, zs[i]? = some k ∧ v = .int k t := fun i v hv => by
        have hi : i < zs.length := len ▸ (Array.getElem?_eq_some_iff.mp hv).1
        obtain ⟨t, e⟩ := PyProof.Rows.IntsAre.int_at areI i v ((Array.getElem?_toList ..).trans hv)
        exact ⟨zs[i], t, List.getElem?_eq_getElem hi, by rw [e, List.getD_eq_getElem?_getD, List.getElem?_eq_getElem hi] <;> rfl⟩
      refine set_update_ints ((Walks.list nh3 _ b ne1 vals).toS) s.heap.objs.size ne2 zs len few each (vals.size - 0) 0 _ (by omega) (Nat.zero_le _) ⟨⟨_, Heap.get?_push_size _ rfl, rfl, rfl⟩, (lst'.push _)⟩ ⟨0, Nat.le_refl 0, setR_new_at (Heap.get?_push_of_some _ there)⟩ fun s3 n mv le R => ?_
      obtain ⟨hp, g3, d3, t3, o3⟩ := s3
      obtain rfl : g3 = s.gens := mv.gens
      obtain rfl : d3 = s.drawn := mv.drawn
      obtain rfl : o3 = s.os := mv.os
      refine wpAny_pure (wpAny_pure ⟨rfl, hp, t3, n, rfl, R, len ▸ le, fun a o e => ?_⟩)
      have la : a < s.heap.objs.size := Heap.lt_size e
      refine mv.heap a o ?_ (Heap.get?_push_of_some _ (Heap.get?_push_of_some _ e))
      rw [sz]
      simp only [List.mem_cons, List.not_mem_nil, or_false, not_or]
      exact ⟨Nat.ne_of_lt la, Nat.ne_of_lt (Nat.lt_succ_of_lt la)⟩
    · rcases r2 with e | f2
      · exact hr2
      cases f2 with
      | ret r =>
        obtain ⟨rfl, hp, t, n, rfl, R, le, kp⟩ := hr2
        repeat (any_goals (first | assumption | wp_step))
        exact got _ _ _ R le kp
      | _ => exact hr2.elim
  | _ => exact hr.elim
end
/-- set(list of ints): a new set of them -/
def rSetL (K : PySem.W.Frag) (w : World) : List V → Hp → VK → Prop := fun vs H Q => ∃ (a : Addr) (ns : List Int), vs = [.ref a] ∧ SqL K H a (ns.map V.int) ∧ ns.length ≤ 1000 ∧
  ∀ (p : Addr) (n : Nat), H p = none → n ≤ ns.length → Q (.ref p) (upd H p (SetO w p (fun j => decide (j ∈ ns)) n))
theorem cr_setL {X : Cx} (hc : X.calm = true) : CallR X (.type "set") (rSetL X.K X.w) := by
  intro pins s σ H vs us Q I r h
  obtain ⟨a, ns, rfl, ha, hl, q⟩ := h
  rw [Vals.ref1 r]
  obtain ⟨its, rv, pl, _⟩ := I.list ha
  refine set_of_list ns (I.ok.hd hc) pl.isList (intsAre_of rv) (by unfold scanBound; omega) fun hp t n R le kp => ?_
  exact ⟨.ref s.heap.objs.size, upd H s.heap.objs.size (SetO X.w s.heap.objs.size (fun j => decide (j ∈ ns)) n), I.laid (t' := t) kp (Nat.le_refl _) (setO_new R), rfl, q _ n (I.hok.fresh (Nat.le_refl _)) le⟩
end Shg
set_option Elab.async false
set_option linter.all false
set_option maxRecDepth 100000
set_option maxHeartbeats 2000000
/-! xs[::e], where e gives minus one. -/
namespace Shg
open PySem PySem.Spec PyProof.Rows L2
/-- te: the list; ts: the step, which must be -1 -/
def tRevE (K : PySem.W.Frag) (te : TE) (ts : TO) : TE := fun σ H Q => te σ H fun x H1 => ts σ H1 fun o H2 => o = some (-1) ∧ ∃ a xs, x = .ref a ∧ SqL K H2 a xs ∧ ∀ p, H2 p = none → Q (.ref p) (upd H2 p (.lst xs.reverse))
theorem pe_revE {X : Cx} {e st : Expr} {te : TE} {ts : TO} {pp pos : Pos} (he : PE X e te) (hst : PO X (some st) ts) : PE X (.Subscript e (.Slice none none (some st) pp) pos) (tRevE X.K te ts) := by
  refine ⟨fun pins s σ H Q I h => Subscript_ (thn (he.run pins s σ H _ I h) fun v sa ⟨x, Ha, Ia, ra, qa⟩ => ?_)⟩
  refine wpAny_Slice (thn (po_none.run pins sa σ Ha (fun o G => o = none ∧ G = Ha) Ia ⟨rfl, rfl⟩) fun va sb ⟨oa, Hb, Ib, pa, za, zb⟩ => ?_)
  obtain rfl := za
  obtain rfl := zb
  refine thn (po_none.run pins sb σ Hb (fun o G => o = none ∧ G = Hb) Ib ⟨rfl, rfl⟩) fun vb sc ⟨ob, Hc, Ic, pb, zc, zd⟩ => ?_
  obtain rfl := zc
  obtain rfl := zd
  refine thn (hst.run pins sc σ Hc _ Ic qa) fun vc sd ⟨oc, Hd, Id, pc, zo, a, xs, zx, hx, q⟩ => ?_
  subst zo zx
  cases ra
  have Ie : Inv X pins σ Hd { sd with heap := sd.heap.push { cls := .type "slice", data := .fields #[va, vb, vc] } } := Id.kept (t' := sd.toks) fun _ _ z => Heap.get?_push_of_some _ z
  obtain ⟨its, rv, pl, hz⟩ := Ie.list hx
  have len := rv.length
  show wpAny (model X.prog X.w) X.A (subscriptTail e (.Slice none none (some st) pp) (.ref a) (.ref sd.heap.objs.size)) (EP X pins σ Q) X.xe _
  refine tail_any (ops := [.ref a, .ref sd.heap.objs.size]) pl.isList.typeIs (PySem.slot_list_getitem.lookup) ?_ (by with_unfolding_all rfl)
  refine wpAny_getItem_list_slice pl.isList (Heap.IsSliceOf.new _ va vb vc) pa pb pc (by decide) ?_ (by rw [List.size_toArray]; omega)
  rw [PySem.W.krv_pick]
  exact ⟨.ref _, _, Ie.laid (t' := sd.toks) (o := .lst xs.reverse) (fun _ _ z => Heap.get?_push_of_some _ z) (Nat.le_refl _) ⟨by rw [List.length_reverse]; exact hz, _, 0, rv.reverse, Heap.get?_push_size _ rfl⟩, rfl, q _ (Ie.hok.fresh (Nat.le_refl _))⟩
end Shg
set_option Elab.async false
set_option linter.all false
set_option maxRecDepth 100000
set_option maxHeartbeats 2000000
/-! sorted(a set of ints), up to a thousand of them. -/
namespace Shg
open PySem PySem.Spec PyProof.Rows L2 SrtO
section
variable {P : Program} {w : World} {A : Around} {E : Value → Shared → Prop} {s : Shared} {a : Addr}
theorem sorted_setW {M : Int → Bool} {n : Nat} {Q : Value → Shared → Prop} (R : SetR w s.heap a M n) (hd0 : A.handled = none) (few : n ≤ 1000)
    (fin : ∀ s' p (out : List Value) (c : Nat) (ks : List Int), (∀ b o, s.heap.get? b = some o → s'.heap.get? b = some o) → s'.gens = s.gens → s'.os = s.os → s.heap.objs.size ≤ p →
      s'.heap.get? p = some (seqObj "list" out.toArray c) → IntsAre out ks → ks.Pairwise (· < ·) → (∀ k, k ∈ ks ↔ M k = true) → ks.length = n → Q (.ref p) s') :
    wpAny (model P w) A (call (.builtin "sorted") [.ref a]) Q E s := by
  obtain ⟨o, es, ep, t, ho, hex, hd, each, nodup, mem, hb, hf, hn, hr, hl⟩ := R
  refine Calls.call_function_entry kind_sorted plain_sorted entry_sorted (args_sorted1 _) ?_
  unfold Builtin.«sorted»
  refine wpAny_bind (m := checkCount "sorted" 1 1 _) (wpAny_pure (wpAny_bind (collect_set (A := A.in1) hd0 ⟨o, ho, hex.1, hd⟩ hf hb hr hl fun s1 us kept sz gens os perm => ?_)))
  have len : us.length = n := (perm.length_eq.trans (List.length_map ..)).trans ((Array.length_toList).trans hn)
  have are : IntsAre us (us.map Builtin.Re.reRawOf) := ints_of us fun v hv => by
    obtain ⟨e, he, q⟩ := List.mem_map.mp (perm.mem_iff.mp hv)
    obtain ⟨k, tk, h1, _⟩ := each e he
    exact ⟨k, tk, q.symm.trans h1⟩
  have keys : (us.map Builtin.Re.reRawOf).Perm (es.toList.map keyOf) := by
    have := perm.map Builtin.Re.reRawOf
    rwa [List.map_map] at this
  have line : us.length ≤ sizeLine := by rw [len, sizeLine_eq]; omega
  refine wpAny_bind (wpAny_newList ?_ line)
  have new : (s1.heap.push (seqObj "list" us.toArray 0)).get? s1.heap.objs.size = some (seqObj "list" us.toArray 0) := Heap.get?_push_size _ rfl
  refine wpAny_bind (wpAny_holding (wpAny_call_entry slot_list_sort ⟨_, new, rfl⟩ entry_list_sort (list_sort_ord swo_int new line (fun h2 => ints_sortable are h2) fun out h1 h2 => ⟨_, rfl, ?_⟩) (args_list_sort _)))
  obtain ⟨k1, k2, k3⟩ := ints_out are h1 h2
  obtain ⟨c, hc⟩ := sortedHeap_at (vs := us) (out := out.toArray) new
  have all : (out.map iv).Perm (es.toList.map keyOf) := k2.trans keys
  refine wpAny_pure ⟨_, rfl, fin _ s1.heap.objs.size out c (out.map iv) (fun b u e => ?_) gens os sz hc k1 (lt_of_le_nodup _ k3 (all.nodup_iff.mpr nodup)) (fun k => by rw [all.mem_iff, ← mem k]) ?_⟩
  · have q := kept b u e
    have lt := Heap.lt_size q
    show (sortedHeap (s1.heap.push (seqObj "list" us.toArray 0)) s1.heap.objs.size us out.toArray).get? b = some u
    rw [sortedHeap_old (Nat.ne_of_lt lt) (Nat.lt_of_lt_of_le lt (by rw [Heap.size_push]; exact Nat.le_succ _))]
    exact Heap.get?_push_of_some _ q
  · rw [all.length_eq, List.length_map, Array.length_toList]
    exact hn
end
def rSortedSetW (w : World) : List V → Hp → VK → Prop := fun vs H Q => ∃ (a : Addr) (M : Int → Bool) (n : Nat), vs = [V.ref a] ∧ H a = some (SetO w a M n) ∧ n ≤ 1000 ∧
  ∀ (ks : List Int) (p : Addr), ks.Pairwise (· < ·) → (∀ k : Int, k ∈ ks ↔ M k = true) → ks.length = n → H p = none → Q (.ref p) (upd H p (.lst (ks.map V.int)))
theorem cr_sortedSetW {X : Cx} (hc : X.calm = true) : CallR X (.builtin "sorted") (rSortedSetW X.w) := by
  intro pins s σ H vs us Q I r h
  obtain ⟨a, M, n, rfl, ha, few, q⟩ := h
  rw [Vals.ref1 r]
  refine sorted_setW (setO_get I ha) (I.ok.hd hc) few fun s' p out c ks kept gens os hp at_ are rise mem len => ?_
  have line : (ks.map V.int).length ≤ sizeLine := by rw [List.length_map, len, sizeLine_eq]; omega
  have free : H p = none := I.hok.fresh hp
  refine ⟨.ref p, _, I.call' (ch := []) (H' := upd H p (.lst (ks.map V.int))) os (Un.laid kept hp free) (I.hok.laid kept hp ⟨line, out, c, vals_of_ints are, at_⟩) (by rw [gens]; exact I.bare) (fun _ z => nomatch z), rfl, q ks p rise mem len free⟩
end Shg
set_option Elab.async false
set_option linter.all false
set_option maxRecDepth 100000
set_option maxHeartbeats 8000000
set_option autoImplicit false
/-! _law_played: a party tick by tick; the first item of a row is anything. -/
namespace Pq
open PySem L2 Sho NdefX Shg Sh1
abbrev NPl : List Str := ["_law_rows_here", "_law_pile", "_law_lifted", "_law_piles", "_law_ticks", "_law_tick", "_law_place", "_law_other", "_law_row"]
theorem ticks_crossed {rs : List Rw} (hv : ∀ r ∈ rs, r.come < r.go) (nd : rs.Nodup) {ts : List Int} (hs : ts.Pairwise (fun a b => a < b)) (hc : ∀ r ∈ rs, r.come ∈ ts ∧ r.go ∈ ts) : crossed rs = ts.flatMap fun t => (tickOf rs t (pileTo rs t)).1 := by
  have st := sorted_flat (f := Rw.go) ts (takers rs) hs (sortV_sorted Rw.go _) fun r hr => (hc r (takers_mem hr)).2
  show (takers rs).flatMap (liftsOf rs) = _
  rw [← st]
  have fl : ∀ l : List Int, (l.flatMap fun t => (takers rs).filter fun r => decide (r.go = t)).flatMap (liftsOf rs) = l.flatMap fun t => ((bot rs).reverse.filter fun r => decide (r.go = t)).flatMap (liftsOf rs) := fun l => by
    induction l with
    | nil => rfl
    | cons t l ih =>
      rw [List.flatMap_cons, List.flatMap_append, ih, List.flatMap_cons]
      congr 2
      exact sortV_filter Rw.go (bot rs).reverse t
  rw [fl ts]
  exact flat_congrI fun t _ => (tick_out hv nd t).symm
/-- a row as it stands: its first item is nv of it -/
def PlayAt (nv : Rw → V) (H : Hp) (v : V) (r : Rw) : Prop := ∃ t, v = .ref t ∧ H t = some (.tup [nv r, .int r.come, .int r.go])
def PairR (nv : Rw → V) (H : Hp) (v : V) (q : Rw × Rw) : Prop := ∃ t, v = .ref t ∧ H t = some (.tup [nv q.1, nv q.2])
/-- the piles behind the ticks -/
def PilesAt (nv : Rw → V) (rs : List Rw) (H : Hp) (kvs : List (Key × V)) (ts : List Int) : Prop := PySem.Paired (fun (kv : Key × V) (t : Int) => kv.1 = .inl t ∧ ∃ l, kv.2 = .ref l ∧ H l = some (.lst ((pileOf rs t).map nv))) kvs ts
/-- tuples stay -/
def TupK (H H' : Hp) : Prop := ∀ b vs, H b = some (.tup vs) → H' b = some (.tup vs)
theorem TupK.same {H H' : Hp} (s : Same H H') : TupK H H' := fun b vs e => s b _ e
theorem TupK.trans {H H1 H2 : Hp} (a : TupK H H1) (b : TupK H1 H2) : TupK H H2 := fun c vs e => b c vs (a c vs e)
theorem TupK.updL {H : Hp} {L : Addr} {xs : List V} {o : HO} (e : H L = some (.lst xs)) : TupK H (upd H L o) := fun b vs h => by
  rw [upd_ne fun z => by rw [z, e] at h; cases h]
  exact h
theorem play_keep {nv : Rw → V} {H H' : Hp} (k : TupK H H') {ws : List V} {rs : List Rw} (h : PySem.Paired (PlayAt nv H) ws rs) : PySem.Paired (PlayAt nv H') ws rs := pair_mono (fun _ _ ⟨t, e, ht⟩ => ⟨t, e, k _ _ ht⟩) h
theorem pairR_keep {nv : Rw → V} {H H' : Hp} (k : TupK H H') {ws : List V} {qs : List (Rw × Rw)} (h : PySem.Paired (PairR nv H) ws qs) : PySem.Paired (PairR nv H') ws qs := pair_mono (fun _ _ ⟨t, e, ht⟩ => ⟨t, e, k _ _ ht⟩) h
/-- what stands through the ticks -/
structure Std (nv : Rw → V) (rs : List Rw) (H0 H : Hp) (p Li Di : Addr) (ts : List Int) (kvs : List (Key × V)) (i : Nat) : Prop where
  same : Same H0 H
  ep : H p = some (.lst (ts.map V.int))
  eD : H Di = some (.dK kvs)
  pl : PySem.Paired (fun (kv : Key × V) (t : Int) => kv.1 = .inl t ∧ ∃ l, kv.2 = .ref l ∧ l ≠ Li ∧ H l = some (.lst ((pileOf rs t).map nv))) kvs (ts.take i)
theorem Std.go {nv : Rw → V} {rs : List Rw} {H0 H H' : Hp} {p Li Di : Addr} {ts : List Int} {kvs : List (Key × V)} {i : Nat} (d : Std nv rs H0 H p Li Di ts kvs i) (s : Same H H') : Std nv rs H0 H' p Li Di ts kvs i :=
  ⟨d.same.trans s, s _ _ d.ep, s _ _ d.eD, pair_mono (fun _ _ ⟨a, l, e, n, h⟩ => ⟨a, l, e, n, s _ _ h⟩) d.pl⟩
theorem same_upd0 {H0 H : Hp} {L : Addr} {o : HO} (s : Same H0 H) (n : H0 L = none) : Same H0 (upd H L o) := fun b u e => by
  rw [upd_ne (ne_of_none e n)]
  exact s b u e
theorem Std.out {nv : Rw → V} {rs : List Rw} {H0 H : Hp} {p Li Di : Addr} {ts : List Int} {kvs : List (Key × V)} {i : Nat} {o : HO} (d : Std nv rs H0 H p Li Di ts kvs i) (n : H0 Li = none) (n1 : p ≠ Li) (n2 : Di ≠ Li) : Std nv rs H0 (upd H Li o) p Li Di ts kvs i :=
  ⟨same_upd0 d.same n, by rw [upd_ne n1]; exact d.ep, by rw [upd_ne n2]; exact d.eD, pair_mono (fun _ _ ⟨a, l, e, m, h⟩ => ⟨a, l, e, m, by rw [upd_ne m]; exact h⟩) d.pl⟩
theorem gone_len (t : Int) : ∀ l : List Rw, (gone t l).1.length ≤ l.length * l.length ∧ (gone t l).2.length ≤ l.length
  | [] => ⟨Nat.zero_le _, Nat.zero_le _⟩
  | x :: l => by
    have ⟨h1, h2⟩ := gone_len t l
    unfold gone
    have : (l.length + 1) * (l.length + 1) = l.length * l.length + l.length + l.length + 1 := by rw [Nat.add_mul, Nat.mul_add]; omega
    split
    · refine ⟨?_, ?_⟩
      · rw [List.length_append, List.length_map, List.length_reverse, List.length_cons]
        omega
      · rw [List.length_cons]
        exact Nat.le_succ_of_le h2
    · refine ⟨?_, ?_⟩
      · show (gone t l).1.length ≤ _
        rw [List.length_cons]
        omega
      · rw [List.length_cons, List.length_cons]
        exact Nat.succ_le_succ h2
theorem pairs_filter {R : V → Rw → Prop} {rs : List Rw} {ws : List V} (h : PySem.Paired R ws rs) (p : Rw → Bool) : ∀ n, n ≤ rs.length → PySem.Paired R (gather (fun i => (rs[i]?).bind fun c => if p c = true then ws[i]? else none) n) ((rs.take n).filter p)
  | 0, _ => .nil
  | n + 1, hn => by
    have ih := pairs_filter h p n (by omega)
    have hl := Shg.pair_len h
    have e1 : ws[n]? = some (ws[n]'(by omega)) := List.getElem?_eq_getElem (by omega)
    obtain ⟨r, hr, hR⟩ := Shg.pair_get h e1
    rw [List.take_add_one, hr, List.filter_append]
    cases hp : p r with
    | true =>
      rw [gather_some (y := ws[n]'(by omega)) (by rw [hr]; show (if p r = true then _ else _) = _; rw [hp, if_pos rfl, e1])]
      refine Shg.pair_app ih ?_
      show PySem.Paired R _ (List.filter p [r])
      rw [List.filter_cons_of_pos hp]
      exact .cons hR .nil
    | false =>
      rw [gather_none (by rw [hr]; show (if p r = true then _ else _) = _; rw [hp, if_neg Bool.false_ne_true])]
      show PySem.Paired R _ (_ ++ List.filter p [r])
      rw [List.filter_cons_of_neg (by rw [hp]; exact Bool.false_ne_true), List.filter_nil, List.append_nil]
      exact ih
theorem put_new {kvs : List (Key × V)} {k : Key} {v : V} (h : ∀ kv ∈ kvs, kv.1 ≠ k) : putK kvs k v = kvs ++ [(k, v)] := by
  unfold putK
  rw [if_neg]
  intro e
  obtain ⟨kv, hm, e⟩ := List.any_eq_true.mp e
  exact h kv hm (of_decide_eq_true e)
theorem cut_fromN (ws : List V) (k : Nat) : cutV ws (some (k : Int)) none = ws.drop k := by
  unfold cutV
  rw [HT.sIx_none, HT.sIx_nat]
  by_cases h : k ≤ ws.length
  · rw [Nat.min_eq_left h, List.take_of_length_le (by rw [List.length_drop]; exact Nat.le_refl _)]
  · rw [Nat.min_eq_right (by omega), Nat.sub_self, List.take_zero, List.drop_of_length_le (by omega)]
theorem cut_toN (ws : List V) (k : Nat) : cutV ws none (some (k : Int)) = ws.take k := by
  unfold cutV
  rw [HT.sIx_none, HT.sIx_nat, List.drop_zero, Nat.sub_zero]
  by_cases h : k ≤ ws.length
  · rw [Nat.min_eq_left h]
  · rw [Nat.min_eq_right (by omega), List.take_length, List.take_of_length_le (by omega)]
theorem pair_rev {α β : Type} {R : α → β → Prop} : ∀ {as : List α} {bs : List β}, PySem.Paired R as bs → PySem.Paired R as.reverse bs.reverse
  | _, _, .nil => .nil
  | _, _, .cons h r => by
    rw [List.reverse_cons, List.reverse_cons]
    exact Shg.pair_app (pair_rev r) (.cons h .nil)
section
variable {P : Program} {w : World} {K : PySem.W.Frag} {mg : Str → Option Value} {base : Heap}
theorem units1 {k : Nat} {A : Around} (r : Room k A) : A.units + 1 < cLine := by have := r.un; omega
theorem scPlayed : FnScope NPl ["_law_rows_here"] (defScope sLawPlayed) := ⟨rfl, rfl, rfl, by decide +kernel, rfl, by decide +kernel, by decide +kernel⟩
def spPlayed (K : PySem.W.Frag) : Sp := fun vs H Q _ => ∃ (a : Addr) (ws : List V) (rs : List Rw) (nv : Rw → V), vs = [.ref a] ∧ SqL K H a ws ∧ PySem.Paired (PlayAt nv H) ws rs ∧ rs.length ≤ 100 ∧ (∀ r ∈ rs, r.come < r.go) ∧ rs.Nodup ∧
  ∀ (t L D : Addr) (out : List V) (kvs : List (Key × V)) (ts : List Int) (H' : Hp), Same H H' → H' t = some (.tup [.ref L, .ref D]) → H' L = some (.lst out) → PySem.Paired (PairR nv H') out (crossed rs) → H' D = some (.dK kvs) →
    PilesAt nv rs H' kvs ts → ts.Pairwise (· < ·) → (∀ k, k ∈ ts ↔ ∃ r ∈ rs, r.come = k ∨ r.go = k) → Q (.ref t) H'
theorem ok_played {f : Addr} {fd : FuncData} (F : Fun K "_law_played" "_law_played" sLawPlayed f fd) (B : Shg.Blt mg) : FnOk P w K mg base CX0 1 f fd ["_law_rows_here"] (spPlayed K) := by
  refine F.ok scPlayed (fun vs H Q E h => ?_) (fun cdv A outer s H vs Q E hr h => ?_)
  · obtain ⟨a, ws, rs, nv, rfl, _⟩ := h
    rfl
  obtain ⟨a, ws, rs, nv, rfl, ha, hw, hl, hv, nd0, kk⟩ := h
  have nd := scPlayed.nd
  have lw := Shg.pair_len hw
  refine ⟨_, (pss_cons (ps_par3 (i := 1) (j := 2) (l := 3) rfl nd rfl rfl rfl (by decide) (by decide) (by decide) rfl rfl rfl (pa_cons (pe_lst pa_nil) (pa_cons (pe_lst pa_nil) (pa_cons pe_dnewK pa_nil))) rfl)
      (pss_cons (ps_set (i := 4) nd rfl (Or.inl rfl) (pe_callB (cr_sortedSetW rfl) (by rfl) B.sorted (by decide +kernel) (pa_cons (pe_callTy (cr_setL rfl) (by rfl) B.set (by decide +kernel) (pa_cons (pe_op op_cat (pe_lc (own := [("_law_row", 8)]) (g := gName 8) (tt := tYes) (te := tOp (rIxT K) (tVar 8) (tC (.int 1))) rfl nd (pi_list (pv 0)) (blkOk_by (own := [("_law_row", 8)]) (N := NPl) (sc := defScope sLawPlayed) (by decide +kernel))
        (fun _ _ _ _ _ => (pg_name (i := 8) nd rfl (Or.inl rfl))) (fun _ _ _ _ _ => pts_nil) (fun _ _ _ _ _ => (pe_ix ix_tup (pv 8) pe_int (fun _ _ => rfl)))) (pe_lc (own := [("_law_row", 8)]) (g := gName 8) (tt := tYes) (te := tOp (rIxT K) (tVar 8) (tC (.int 2))) rfl nd (pi_list (pv 0)) (blkOk_by (own := [("_law_row", 8)]) (N := NPl) (sc := defScope sLawPlayed) (by decide +kernel))
        (fun _ _ _ _ _ => (pg_name (i := 8) nd rfl (Or.inl rfl))) (fun _ _ _ _ _ => pts_nil) (fun _ _ _ _ _ => (pe_ix ix_tup (pv 8) pe_int (fun _ _ => rfl))))) pa_nil)) pa_nil)))
      (pss_cons (ps_for PassesOwn.never rfl (pi_list (pv 4)) (pg_name (i := 5) nd rfl (Or.inr rfl)) (pss_cons (ps_for PassesOwn.never rfl (pi_range3 (by rfl) B.range (pa_cons (pe_op op_sub (pe_callB call_len_seq (by rfl) B.len PySem.boot_len (pa_cons (pv 1) pa_nil)) pe_int) (pa_cons (pe_op op_sub pe_int pe_int) (pa_cons (pe_op op_sub pe_int pe_int) pa_nil)))) (pg_name (i := 6) nd rfl (Or.inl rfl)) (pss_one (ps_if (pt_cmpR op_eq (pe_ix ix_tup (pe_ix ix_list (pv 1) (pv 6) (fun _ _ => rfl)) pe_int (fun _ _ => rfl)) (pv 5) (nomark _)) (pss_cons (ps_for PassesOwn.never rfl (pi_list (pe_revE (pe_slice sl_list (pv 1) (po_some (pe_op op_add (pv 6) pe_int)) po_none) (po_some (pe_op op_sub pe_int pe_int)))) (pg_name (i := 7) nd rfl (Or.inl rfl)) (pss_one (ps_expr (pe_bm PySem.F.plainAttrs_list PySem.F.slot_list_append PySem.F.type_list_append mt_append (pv 2) (pa_cons (pe_tup (pa_cons (pe_ix ix_tup (pe_ix ix_list (pv 1) (pv 6) (fun _ _ => rfl)) pe_int (fun _ _ => rfl)) (pa_cons (pe_ix ix_tup (pv 7) pe_int (fun _ _ => rfl)) pa_nil))) pa_nil)))))
      (pss_one (ps_set (i := 1) nd rfl (Or.inl rfl) (pe_op op_cat (pe_slice sl_list (pv 1) po_none (po_some (pv 6))) (pe_slice sl_list (pv 1) (po_some (pe_op op_add (pv 6) pe_int)) po_none))))) pss_nil)))
      (pss_cons (ps_set (i := 1) nd rfl (Or.inl rfl) (pe_op op_cat (pv 1) (pe_lc (own := [("_law_row", 8)]) (g := gName 8) (tt := tTest (tOp rEq (tOp (rIxT K) (tVar 8) (tC (.int 1))) (tVar 5))) (te := tVar 8) rfl nd (pi_list (pv 0)) (blkOk_by (own := [("_law_row", 8)]) (N := NPl) (sc := defScope sLawPlayed) (by decide +kernel))
        (fun _ _ _ _ _ => (pg_name (i := 8) nd rfl (Or.inl rfl))) (fun _ _ _ _ _ => pts_one (pt_cmpR op_eq (pe_ix ix_tup (pv 8) pe_int (fun _ _ => rfl)) (pv 5) (nomark _))) (fun _ _ _ _ _ => (pv 8)))))
      (pss_one (ps_dput (units1 hr) (pv 3) (pv 5) (pe_lc (own := [("_law_row", 8)]) (g := gName 8) (tt := tYes) (te := tOp (rIxT K) (tVar 8) (tC (.int 0))) rfl nd (pi_list (pv 1)) (blkOk_by (own := [("_law_row", 8)]) (N := NPl) (sc := defScope sLawPlayed) (by decide +kernel))
        (fun _ _ _ _ _ => (pg_name (i := 8) nd rfl (Or.inl rfl))) (fun _ _ _ _ _ => pts_nil) (fun _ _ _ _ _ => (pe_ix ix_tup (pv 8) pe_int (fun _ _ => rfl)))) rfl)))))
      (pss_one (ps_ret (pe_tup (pa_cons (pv 2) (pa_cons (pv 3) pa_nil)))))))), ?_⟩
  refine ⟨Nat.zero_le _, fun Pl0 hP => ⟨Nat.zero_le _, fun Li hL => fun Di hD => ⟨_, _, _, rfl, ?_⟩⟩⟩
  have e0 : ∀ b o, H b = some o → (upd (upd (upd H Pl0 (.lst [])) Li (.lst [])) Di (.dK [])) b = some o := ((Shg.same_upd hP).trans ((Shg.same_upd hL).trans (Shg.same_upd hD)))
  have fP : H Pl0 = none := hP
  have fL : H Li = none := by
    cases e : H Li with
    | none => rfl
    | some o => rw [Shg.same_upd hP _ _ e] at hL; cases hL
  have fD : H Di = none := by
    cases e : H Di with
    | none => rfl
    | some o => rw [((Shg.same_upd hP).trans (Shg.same_upd hL)) _ _ e] at hD; cases hD
  have nPL : Pl0 ≠ Li := fun z => by rw [← z, upd_same] at hL; cases hL
  have nDL : Di ≠ Li := fun z => by rw [z, upd_same] at hD; cases hD
  have eP1 := ((Shg.same_upd (o := .lst []) hL).trans (Shg.same_upd (o := .dK []) hD)) _ _ (upd_same (H := H) (a := Pl0) (o := .lst []))
  have eL1 := (Shg.same_upd (o := .dK []) hD) _ _ (upd_same (H := upd H Pl0 (.lst [])) (a := Li) (o := .lst []))
  have eD1 := upd_same (H := upd (upd H Pl0 (.lst [])) Li (.lst [])) (a := Di) (o := .dK [])
  generalize upd (upd (upd H Pl0 (.lst [])) Li (.lst [])) Di (.dK []) = H1 at *
  clear hP hL hD
  have sA : Same H H1 := e0
  -- the ticks
  refine nx_of (asg_rel (fun v H' => ∃ (p : Addr) (ts : List Int), v = .ref p ∧ Same H1 H' ∧ H1 p = none ∧ H' p = some (.lst (ts.map V.int)) ∧ ts.Pairwise (· < ·) ∧ (∀ k, k ∈ ts ↔ ∃ r ∈ rs, r.come = k ∨ r.go = k) ∧ ts.length ≤ 200) (fun R h0 => ?_) fun vt Ht ht => ?_)
  · refine ⟨_, rfl, a, rfl, ⟨_, sA.seq ha⟩, fun D1 hD1 => ?_⟩
    refine lc_map walk_list (fun j => (rs[j]?).map fun r => V.int r.come) hD1 (by rw [lw]; exact Nat.le_trans hl (by decide)) (fun H2 s2 => (sA.trans s2).seq ha) (fun j v H2 H' hj s2 yy R' k1 => ?_) (fun j hj => ⟨_, by rw [List.getElem?_eq_getElem (by omega)]; rfl⟩) fun H2 s2 e2 => ?_
    · obtain ⟨rfl, ev⟩ := yy
      obtain ⟨r, hr, t, rfl, ht⟩ := Shg.pair_get hw ev
      exact ⟨rfl, _, rfl, t, _, 1, .int r.come, rfl, rfl, SqT.of ((sA.trans s2) _ _ ht), atI_nat (j := 1) rfl, k1 _ _ (Same.refl _) (by rw [hr]; rfl)⟩
    rw [lw, gather_map rs fun r => V.int r.come] at e2
    refine ⟨_, rfl, a, rfl, ⟨_, (sA.trans s2).seq ha⟩, fun D2 hD2 => ?_⟩
    refine lc_map walk_list (fun j => (rs[j]?).map fun r => V.int r.go) hD2 (by rw [lw]; exact Nat.le_trans hl (by decide)) (fun H3 s3 => ((sA.trans s2).trans s3).seq ha) (fun j v H3 H' hj s3 yy R' k1 => ?_) (fun j hj => ⟨_, by rw [List.getElem?_eq_getElem (by omega)]; rfl⟩) fun H3 s3 e3 => ?_
    · obtain ⟨rfl, ev⟩ := yy
      obtain ⟨r, hr, t, rfl, ht⟩ := Shg.pair_get hw ev
      exact ⟨rfl, _, rfl, t, _, 2, .int r.go, rfl, rfl, SqT.of (((sA.trans s2).trans s3) _ _ ht), atI_nat (j := 2) rfl, k1 _ _ (Same.refl _) (by rw [hr]; rfl)⟩
    rw [lw, gather_map rs fun r => V.int r.go] at e3
    refine ⟨D1, D2, _, _, rfl, rfl, s3 _ _ e2, e3, by rw [List.length_map, List.length_map]; exact Nat.le_trans (by omega : _ ≤ 200) (by decide), fun p3 hp3 => ?_⟩
    have em : rs.map (fun r => V.int r.come) ++ rs.map (fun r => V.int r.go) = (rs.map (fun r => r.come) ++ rs.map fun r => r.go).map V.int := by
      rw [List.map_append, List.map_map, List.map_map]
      rfl
    rw [em]
    have s4 := Shg.same_upd (o := .lst ((rs.map (fun r => r.come) ++ rs.map fun r => r.go).map V.int)) hp3
    have ln : (rs.map (fun r => r.come) ++ rs.map fun r => r.go).length ≤ 200 := by rw [List.length_append, List.length_map, List.length_map]; omega
    refine ⟨p3, _, rfl, SqL.of upd_same, by omega, fun p4 n hp4 hn => ?_⟩
    have s5 := Shg.same_upd (o := SetO w p4 (fun j => decide (j ∈ rs.map (fun r => r.come) ++ rs.map fun r => r.go)) n) hp4
    refine ⟨p4, _, n, rfl, upd_same, by omega, fun ks p5 rise mem len hp5 => h0 _ _ ⟨p5, ks, rfl, (((s2.trans s3).trans s4).trans s5).trans (Shg.same_upd hp5), ?_, upd_same, rise, fun k => ?_, by omega⟩⟩
    · cases e : H1 p5 with
      | none => rfl
      | some o =>
        have z := (((s2.trans s3).trans s4).trans s5) _ _ e
        have z2 := z.symm.trans hp5
        cases z2
    · rw [mem k, decide_eq_true_eq, List.mem_append, List.mem_map, List.mem_map]
      constructor
      · rintro (⟨r, hr, e⟩ | ⟨r, hr, e⟩)
        · exact ⟨r, hr, .inl e⟩
        · exact ⟨r, hr, .inr e⟩
      · rintro ⟨r, hr, e | e⟩
        · exact .inl ⟨r, hr, e⟩
        · exact .inr ⟨r, hr, e⟩
  obtain ⟨p, ts, rfl, sT, fp, ep, rise, mem, lts⟩ := ht
  refine name_at ?_
  have npL : p ≠ Li := fun z => by rw [z, eL1] at fp; cases fp
  have hc : ∀ r ∈ rs, r.come ∈ ts ∧ r.go ∈ ts := fun r hr => ⟨(mem _).mpr ⟨r, hr, .inl rfl⟩, (mem _).mpr ⟨r, hr, .inr rfl⟩⟩
  have lB : ∀ (l : List Int), (l.flatMap fun t => (tickOf rs t (pileTo rs t)).1).length ≤ l.length * 10000 := fun l => by
    induction l with
    | nil => exact Nat.zero_le _
    | cons t l ih =>
      rw [List.flatMap_cons, List.length_append, List.length_cons, Nat.succ_mul]
      have h1 := (gone_len t (pileTo rs t)).1
      have h2 : (pileTo rs t).length ≤ 100 := Nat.le_trans (List.length_filter_le _ _) (by rw [bot_length]; exact hl)
      have h3 := Nat.mul_le_mul h2 h2
      have h4 : (tickOf rs t (pileTo rs t)).1 = (gone t (pileTo rs t)).1 := rfl
      rw [h4]
      omega
  refine ⟨_, rfl, p, rfl, ⟨_, SqL.of ep⟩, for_it walk_list (fun i σ H2 => ∃ (Pl : Addr) (pws : List V) (pile : List Rw) (out : List V) (kvs : List (Key × V)) (o5 o6 o7 o8 : Option V), σ = [some (.ref a), some (.ref Pl), some (.ref Li), some (.ref Di), some (.ref p), o5, o6, o7, o8] ∧ Std nv rs H H2 p Li Di ts kvs i ∧ Pl ≠ Li ∧ H2 Pl = some (.lst pws) ∧ PySem.Paired (PlayAt nv H2) pws pile ∧ H2 Li = some (.lst out) ∧
      PySem.Paired (PairR nv H2) out ((ts.take i).flatMap fun t => (tickOf rs t (pileTo rs t)).1) ∧ ∀ t, ts[i]? = some t → pile = pileTo rs t)
    ⟨Pl0, [], [], [], [], none, none, none, none, rfl, ⟨sA.trans sT, ep, sT _ _ eD1, .nil⟩, nPL, sT _ _ eP1, .nil, sT _ _ eL1, .nil, fun t ht => ?_⟩ (fun i σ H2 _ q => by obtain ⟨_, _, _, _, _, _, _, _, _, _, d, _⟩ := q; exact SqL.of d.ep) ?_ ?_⟩
  · unfold pileTo
    refine (List.filter_eq_nil_iff.mpr fun r hr => ?_).symm
    have h1 := (hc r (bot_mem.mp hr)).1
    have h2 : t ≤ r.come := by
      obtain ⟨k, hk, e⟩ := List.getElem_of_mem h1
      rcases Nat.eq_zero_or_pos k with rfl | kp
      · rw [List.getElem?_eq_getElem hk] at ht
        have : ts[0] = t := Option.some.inj ht
        omega
      · have h0 : 0 < ts.length := Nat.lt_trans kp hk
        rw [List.getElem?_eq_getElem h0] at ht
        have e0 : ts[0] = t := Option.some.inj ht
        have := (List.pairwise_iff_getElem.mp rise) 0 k h0 hk kp
        omega
    simp
    omega
  · rintro i y σ H3 H2 hi ⟨Pl, pws, pile, out, kvs, o5, o6, o7, o8, rfl, d, nPl, ePl, pP, eLi, pO, hpile⟩ ⟨rfl, ey⟩
    rw [List.length_map] at hi
    obtain ⟨t, hti⟩ : ∃ t, ts[i]? = some t := ⟨_, List.getElem?_eq_getElem hi⟩
    rw [List.getElem?_map, hti] at ey
    obtain rfl : y = .int t := (Option.some.inj ey).symm
    obtain rfl := hpile t hti
    have lpw := Shg.pair_len pP
    have l100 : (pileTo rs t).length ≤ 100 := Nat.le_trans (List.length_filter_le _ _) (by rw [bot_length]; exact hl)
    have lOut : ((ts.take i).flatMap fun t => (tickOf rs t (pileTo rs t)).1).length ≤ 2000000 := by
      have := lB (ts.take i)
      rw [List.length_take] at this
      omega
    generalize hO : ((ts.take i).flatMap fun t => (tickOf rs t (pileTo rs t)).1) = outR at *
    refine name_at ?_
    have rg : RgC (((pws.length : Nat) : Int) - 1) (0 - 1) (0 - 1) (((pws.length : Nat) : Int) - 1 - (-1)).toNat := RgC.neg (by omega) (by omega) (by decide) (by decide)
    have en : (((pws.length : Nat) : Int) - 1 - (-1)).toNat = pws.length := by omega
    rw [en] at rg
    have px : ∀ (k : Nat), k < pws.length → ∃ x, (pileTo rs t)[k]? = some x := fun k hk => ⟨_, List.getElem?_eq_getElem (by omega)⟩
    generalize hpile0 : pileTo rs t = pile0 at *
    refine ⟨_, rfl, Pl, pws, rfl, .inl (SqL.of ePl), _, _, rfl, rfl, _, _, rfl, rfl, _, _, rfl, rfl, _, _, _, _, rfl, rg, for_it walk_rangeC (fun m σ H4 => ∃ (Pl' : Addr) (pws' out' : List V) (o6 o7 : Option V), σ = [some (.ref a), some (.ref Pl'), some (.ref Li), some (.ref Di), some (.ref p), some (.int t), o6, o7, o8] ∧ Std nv rs H H4 p Li Di ts kvs i ∧ Pl' ≠ Li ∧ H4 Pl' = some (.lst pws') ∧
        PySem.Paired (PlayAt nv H4) pws' (pile0.take (pws.length - m) ++ (gone t (pile0.drop (pws.length - m))).2) ∧ H4 Li = some (.lst out') ∧ PySem.Paired (PairR nv H4) out' (outR ++ (gone t (pile0.drop (pws.length - m))).1))
      ⟨Pl, pws, out, o6, o7, rfl, d, nPl, ePl, ?_, eLi, ?_⟩ (fun _ _ _ _ _ => trivial) ?_ ?_⟩
    · rw [Nat.sub_zero, lpw, List.take_length, List.drop_length]
      show PySem.Paired _ _ (pile0 ++ [])
      rw [List.append_nil]
      exact pP
    · rw [Nat.sub_zero, lpw, List.drop_length]
      show PySem.Paired _ _ (outR ++ [])
      rw [List.append_nil]
      exact pO
    · rintro m y σ Ha Hb hm ⟨Pl', pws', out', o6, o7, rfl, d4, nP4, eP4, pP4, eL4, pO4⟩ ⟨rfl, ey⟩
      obtain ⟨k, hk⟩ : ∃ k, pws.length - m = k + 1 := ⟨pws.length - m - 1, by omega⟩
      have ey' : y = .int (k : Int) := ey.trans (congrArg V.int (by omega))
      subst ey'
      clear ey
      rw [hk] at pP4 pO4
      obtain ⟨x, hx⟩ := px k (by omega)
      obtain ⟨kl, ek⟩ := List.getElem?_eq_some_iff.mp hx
      have dk : pile0.drop k = x :: pile0.drop (k + 1) := by rw [List.drop_eq_getElem_cons kl, ek]
      have tk : pile0.take (k + 1) = pile0.take k ++ [x] := by rw [List.take_add_one, hx]; rfl
      have ltk : (pile0.take (k + 1)).length = k + 1 := by rw [List.length_take]; omega
      have gl := gone_len t (pile0.drop (k + 1))
      have ld : (pile0.drop (k + 1)).length ≤ 100 := by rw [List.length_drop]; omega
      have gl1 := Nat.le_trans gl.1 (Nat.mul_le_mul ld ld)
      have gl2 := Nat.le_trans gl.2 ld
      have e2 : pws.length - (m + 1) = k := by omega
      have gk : gone t (pile0.drop k) = if x.go = t then ((gone t (pile0.drop (k + 1))).1 ++ (gone t (pile0.drop (k + 1))).2.reverse.map fun y => (x, y), (gone t (pile0.drop (k + 1))).2) else ((gone t (pile0.drop (k + 1))).1, x :: (gone t (pile0.drop (k + 1))).2) := by
        rw [dk]
        rfl
      generalize gone t (pile0.drop (k + 1)) = g at *
      have lp4 := Shg.pair_len pP4
      rw [List.length_append, ltk] at lp4
      have lo4 := Shg.pair_len pO4
      rw [List.length_append] at lo4
      obtain ⟨v, hv4⟩ : ∃ v, pws'[k]? = some v := ⟨_, List.getElem?_eq_getElem (by omega)⟩
      obtain ⟨x', hx', tx, rfl, htx⟩ := Shg.pair_get pP4 hv4
      rw [List.getElem?_append_left (by omega), List.getElem?_take_of_lt (by omega), hx] at hx'
      obtain rfl := Option.some.inj hx'
      refine name_at ?_
      refine ⟨_, rfl, _, rfl, Pl', _, _, _, rfl, rfl, SqL.of eP4, atI_nat hv4, tx, _, 2, .int x.go, rfl, rfl, SqT.of htx, atI_nat (j := 2) rfl, _, rfl, rfl, _, rfl, ite2 (fun q => ?_) (fun q => ?_)⟩
      · have xt : x.go = t := by simpa using q
        rw [if_pos xt] at gk
        refine ⟨_, rfl, _, rfl, _, _, rfl, rfl, _, rfl, Pl', _, rfl, SqL.of eP4, fun q1 hq1 => ⟨_, _, rfl, rfl, _, rfl, rfl, q1, _, rfl, SqL.of upd_same, fun q2 hq2 => ⟨q2, rfl, ⟨_, SqL.of upd_same⟩, ?_⟩⟩⟩
        have hdr : (pile0.take (k + 1) ++ g.2).drop (k + 1) = g.2 := List.drop_left' ltk
        have htr : (pile0.take (k + 1) ++ g.2).take k = pile0.take k := by
          rw [List.take_append_of_le_length (by omega), List.take_take, Nat.min_eq_left (by omega)]
        have cr : (cutV pws' (some ((k : Int) + 1)) none).reverse = (pws'.drop (k + 1)).reverse := by rw [show ((k : Nat) : Int) + 1 = ((k + 1 : Nat) : Int) by omega, cut_fromN]
        have c0 : cutV pws' (some ((k : Int) + 1)) none = pws'.drop (k + 1) := by rw [show ((k : Nat) : Int) + 1 = ((k + 1 : Nat) : Int) by omega, cut_fromN]
        have s1 := Shg.same_upd (o := .lst (cutV pws' (some ((k : Int) + 1)) none)) hq1
        have s2 := Shg.same_upd (o := .lst (cutV pws' (some ((k : Int) + 1)) none).reverse) hq2
        have eq2 : (upd (upd Hb q1 (.lst (cutV pws' (some ((k : Int) + 1)) none))) q2 (.lst (cutV pws' (some ((k : Int) + 1)) none).reverse)) q2 = some (.lst (cutV pws' (some ((k : Int) + 1)) none).reverse) := upd_same
        have s12 := s1.trans s2
        have nqL : q2 ≠ Li := fun z => by rw [z, s1 _ _ eL4] at hq2; cases hq2
        have nqP : q2 ≠ Pl' := fun z => by rw [z, s1 _ _ eP4] at hq2; cases hq2
        rw [c0] at eq2 s12 ⊢
        generalize upd (upd Hb q1 (.lst (pws'.drop (k + 1)))) q2 (.lst (pws'.drop (k + 1)).reverse) = Hc at *
        clear s1 s2 hq1 hq2 cr c0
        have pR : PySem.Paired (PlayAt nv Hc) (pws'.drop (k + 1)).reverse g.2.reverse := by
          have := Shg.pair_drop (k + 1) pP4
          rw [hdr] at this
          exact pair_rev (play_keep (.same s12) this)
        have lR := Shg.pair_len pR
        rw [List.length_reverse, List.length_reverse] at lR
        refine for_it walk_list (fun j σ H5 => ∃ (out5 : List V) (o7 : Option V), σ = [some (.ref a), some (.ref Pl'), some (.ref Li), some (.ref Di), some (.ref p), some (.int t), some (.int (k : Int)), o7, o8] ∧ Std nv rs H H5 p Li Di ts kvs i ∧ H5 Pl' = some (.lst pws') ∧ H5 q2 = some (.lst (pws'.drop (k + 1)).reverse) ∧ TupK Hc H5 ∧ H5 Li = some (.lst out5) ∧
            PySem.Paired (PairR nv H5) out5 ((outR ++ g.1) ++ (g.2.reverse.take j).map fun y => (x, y)))
          ⟨out', o7, rfl, d4.go s12, s12 _ _ eP4, eq2, .same (Same.refl _), s12 _ _ eL4, by rw [List.take_zero, List.map_nil, List.append_nil]; exact pairR_keep (.same s12) pO4⟩ (fun j σ H5 _ z => by obtain ⟨_, _, _, _, _, e, _⟩ := z; exact SqL.of e) ?_ ?_
        · rintro j y σ Hd He hj ⟨out5, o7, rfl, d5, eP5, eq5, k5, eL5, pO5⟩ ⟨rfl, ey⟩
          obtain ⟨z, hz, tz, rfl, htz⟩ := Shg.pair_get pR ey
          refine name_at ?_
          have lo5 := Shg.pair_len pO5
          rw [List.length_append, List.length_append, List.length_map, List.length_take] at lo5
          refine ⟨_, rfl, .inl ⟨rfl, _, SqL.of eL5⟩, _, rfl, _, rfl, Pl', _, _, _, rfl, rfl, SqL.of eP5, atI_nat hv4, tx, _, 0, nv x, rfl, rfl, SqT.of (k5 _ _ (s12 _ _ htx)), atI_nat (j := 0) rfl, _, rfl, tz, _, 0, nv z, rfl, rfl, SqT.of (k5 _ _ htz), atI_nat (j := 0) rfl, by show 2 ≤ sizeLine; decide, fun u hu => ?_⟩
          have su := Shg.same_upd (o := .tup [nv x, nv z]) hu
          have nu : u ≠ Li := fun z => by rw [z, eL5] at hu; cases hu
          refine ⟨Li, out5, .ref u, rfl, rfl, su _ _ eL5, ?_, ?_⟩
          · have : g.2.reverse.length ≤ 100 := by rw [List.length_reverse]; exact gl2
            exact Nat.lt_of_le_of_lt (show out5.length ≤ 2020000 by omega) (by decide)
          · refine ⟨out5 ++ [.ref u], _, rfl, (d5.go su).out fL npL nDL, by rw [upd_ne nP4]; exact su _ _ eP5, by rw [upd_ne nqL]; exact su _ _ eq5, k5.trans ((TupK.same su).trans (TupK.updL (su _ _ eL5))), upd_same, ?_⟩
            have et : g.2.reverse.take (j + 1) = g.2.reverse.take j ++ [z] := by rw [List.take_add_one, hz]; rfl
            rw [et, List.map_append, ← List.append_assoc]
            exact Shg.pair_app (pairR_keep ((TupK.same su).trans (TupK.updL (su _ _ eL5))) pO5) (.cons ⟨u, rfl, by rw [upd_ne nu]; exact upd_same⟩ .nil)
        · rintro σ Hd ⟨out5, o7, rfl, d5, eP5, eq5, k5, eL5, pO5⟩
          rw [List.length_reverse, lR, List.take_of_length_le (by rw [List.length_reverse]; exact Nat.le_refl _)] at pO5
          refine nx_of ?_
          refine ⟨_, rfl, _, rfl, _, rfl, Pl', _, rfl, SqL.of eP5, fun c1 hc1 => ?_⟩
          rw [cut_toN]
          have u1 := Shg.same_upd (o := .lst (pws'.take k)) hc1
          refine ⟨_, rfl, _, rfl, _, _, rfl, rfl, _, rfl, Pl', _, rfl, SqL.of (u1 _ _ eP5), fun c2 hc2 => ?_⟩
          rw [show ((k : Nat) : Int) + 1 = ((k + 1 : Nat) : Int) by omega, cut_fromN] at *
          have u2 := Shg.same_upd (o := .lst (pws'.drop (k + 1))) hc2
          refine ⟨c1, c2, _, _, rfl, rfl, u2 _ _ upd_same, upd_same, ?_, fun M hM => ?_⟩
          · exact Nat.le_trans (show (pws'.take k).length + (pws'.drop (k + 1)).length ≤ 300 by rw [List.length_take, List.length_drop]; omega) (by decide)
          have u3 := Shg.same_upd (o := .lst (pws'.take k ++ pws'.drop (k + 1))) hM
          have u13 := (u1.trans u2).trans u3
          have nM : M ≠ Li := fun z => by rw [z, (u1.trans u2) _ _ eL5] at hM; cases hM
          refine name_at ⟨M, _, out5, _, _, rfl, d5.go u13, nM, upd_same, ?_, u13 _ _ eL5, ?_⟩
          · rw [e2, gk]
            have h1 := Shg.pair_take k pP4
            rw [htr] at h1
            have h2 := Shg.pair_drop (k + 1) pP4
            rw [hdr] at h2
            exact play_keep ((TupK.same s12).trans (k5.trans (.same u13))) (Shg.pair_app h1 h2)
          · rw [e2, gk, ← List.append_assoc]
            exact pairR_keep (.same u13) pO5
      · have xt : ¬ x.go = t := fun z => q (by simpa using z)
        rw [if_neg xt] at gk
        refine nx_of ⟨Pl', pws', out', _, _, rfl, d4, nP4, eP4, ?_, eL4, ?_⟩
        · rw [e2, gk]
          rw [tk, List.append_assoc] at pP4
          exact pP4
        · rw [e2, gk]
          exact pO4
    · rintro σ H4 ⟨Pl', pws', out', o6, o7, rfl, d4, nP4, eP4, pP4, eL4, pO4⟩
      rw [Nat.sub_self, List.take_zero, List.nil_append, List.drop_zero] at pP4
      rw [Nat.sub_self, List.drop_zero] at pO4
      have gl := gone_len t pile0
      have lp4 := Shg.pair_len pP4
      have few : (gone t pile0).2.length ≤ 100 := Nat.le_trans gl.2 l100
      -- those who come
      refine ⟨_, rfl, _, rfl, a, rfl, ⟨_, d4.same.seq ha⟩, fun D hD => ?_⟩
      refine lc_gather (walk_list (xs := ws)) (fun j => (rs[j]?).bind fun r => if (fun r : Rw => decide (r.come = t)) r = true then ws[j]? else none) hD (by rw [lw]; exact Nat.le_trans hl (by decide)) (fun H s => (d4.same.trans s).seq ha) (fun j v H5 H6 hj s5 vv R2 k1 => ?_) fun H5 s5 e5 => ?_
      · obtain ⟨rfl, ev⟩ := vv
        obtain ⟨r, hr, tr, rfl, htr⟩ := Shg.pair_get hw ev
        have k3 := k1 _ (Same.refl _)
        rw [hr] at k3
        have k3' : R2 (if decide (r.come = t) = true then ws[j]? else none) _ := k3
        rw [ev] at k3'
        refine ⟨rfl, _, rfl, tr, _, 1, .int r.come, rfl, rfl, SqT.of (s5 _ _ (d4.same _ _ htr)), atI_nat (j := 1) rfl, _, rfl, rfl, _, rfl, ?_⟩
        have eV : decide (V.int r.come = V.int t) = decide (r.come = t) := decide_eq_decide.mpr ⟨fun z => by injection z, fun z => by rw [z]⟩
        rw [eV]
        refine ite2 (fun q => ?_) (fun q => ?_)
        · rw [if_pos q] at k3'
          exact ⟨_, rfl, k3'⟩
        · rw [if_neg q] at k3'
          exact k3'
      have pF := pairs_filter (play_keep (.same (d4.same.trans s5)) hw) (fun r : Rw => decide (r.come = t)) rs.length (Nat.le_refl _)
      rw [List.take_length] at pF
      rw [lw] at e5
      generalize gather (fun j => (rs[j]?).bind fun r => if (fun r : Rw => decide (r.come = t)) r = true then ws[j]? else none) rs.length = fs at *
      have lf := Shg.pair_len pF
      have lfr := List.length_filter_le (fun r : Rw => decide (r.come = t)) rs
      refine ⟨Pl', D, _, _, rfl, rfl, s5 _ _ eP4, e5, Nat.le_trans (by omega : _ ≤ 200) (by decide), fun M hM => ?_⟩
      have sM := Shg.same_upd (o := .lst (pws' ++ fs)) hM
      have s45 := s5.trans sM
      have nM : M ≠ Li := fun z => by rw [z, s5 _ _ eL4] at hM; cases hM
      have eM : (upd H5 M (.lst (pws' ++ fs))) M = some (.lst (pws' ++ fs)) := upd_same
      have pM : PySem.Paired (PlayAt nv (upd H5 M (.lst (pws' ++ fs)))) (pws' ++ fs) (pileOf rs t) := by
        have e := tick_pile hv t
        rw [hpile0] at e
        have e' : (gone t pile0).2 ++ rs.filter (fun r => decide (r.come = t)) = pileOf rs t := e
        rw [← e']
        exact Shg.pair_app (play_keep (.same s45) pP4) (play_keep (.same sM) pF)
      have d6 := d4.go s45
      have eL6 := s45 _ _ eL4
      have pO6 := pairR_keep (.same s45) pO4
      generalize upd H5 M (.lst (pws' ++ fs)) = H6 at *
      have lM := Shg.pair_len pM
      have lpo : (pileOf rs t).length ≤ 100 := Nat.le_trans (List.length_filter_le _ _) (by rw [bot_length]; exact hl)
      generalize pws' ++ fs = zs at *
      -- the names behind the tick
      refine name_at ?_
      refine ⟨_, rfl, M, rfl, ⟨_, SqL.of eM⟩, fun D2 hD2 => ?_⟩
      refine lc_map walk_list (fun j => ((pileOf rs t)[j]?).map nv) hD2 (by rw [lM]; exact Nat.le_trans lpo (by decide)) (fun H7 s7 => SqL.of (s7 _ _ eM)) (fun j v H7 H' hj s7 yy R' k1 => ?_) (fun j hj => ⟨_, by rw [List.getElem?_eq_getElem (by omega)]; rfl⟩) fun H7 s7 e7 => ?_
      · obtain ⟨rfl, ev⟩ := yy
        obtain ⟨r, hr, tr, rfl, htr⟩ := Shg.pair_get pM ev
        exact ⟨rfl, _, rfl, tr, _, 0, nv r, rfl, rfl, SqT.of (s7 _ _ htr), atI_nat (j := 0) rfl, k1 _ _ (Same.refl _) (by rw [hr]; rfl)⟩
      rw [lM, gather_map (pileOf rs t) nv] at e7
      have d7 := d6.go s7
      have nD2 : D2 ≠ Li := fun z => by rw [z, eL6] at hD2; cases hD2
      have nDD : D2 ≠ Di := fun z => by rw [z, d6.eD] at hD2; cases hD2
      have lkv := Shg.pair_len d7.pl
      have lti : (ts.take i).length = i := by rw [List.length_take]; omega
      have new : ∀ kv ∈ kvs, kv.1 ≠ (.inl t : Key) := fun kv hkv z => by
        obtain ⟨j, hj, ej⟩ := List.getElem_of_mem hkv
        obtain ⟨u, hu, e1, _⟩ := Shg.pair_get d7.pl (List.getElem?_eq_getElem hj)
        rw [ej, z] at e1
        injection e1 with e1
        have ji : j < i := by omega
        rw [List.getElem?_take_of_lt ji] at hu
        obtain ⟨h1, h2⟩ := List.getElem?_eq_some_iff.mp hu
        obtain ⟨h3, h4⟩ := List.getElem?_eq_some_iff.mp hti
        have := (List.pairwise_iff_getElem.mp rise) j i h1 h3 ji
        omega
      refine ⟨_, rfl, _, rfl, Di, _, rfl, DPut.k (k := .inl t) d7.eD (Nat.lt_of_le_of_lt (show kvs.length ≤ 200 by omega) (by decide)), ?_⟩
      rw [put_new new]
      have tk : TupK H7 (upd H7 Di (.dK (kvs ++ [(.inl t, .ref D2)]))) := fun b vs e => by
        rw [upd_ne fun z => by rw [z, d7.eD] at e; cases e]
        exact e
      have npD : p ≠ Di := fun z => by have h1 := d7.ep; rw [z, d7.eD] at h1; cases h1
      have eM7 := s7 _ _ eM
      refine ⟨M, zs, pileOf rs t, out', kvs ++ [(.inl t, .ref D2)], _, _, _, _, rfl, ⟨same_upd0 d7.same fD, by rw [upd_ne npD]; exact d7.ep, upd_same, ?_⟩, nM, by rw [upd_ne fun z => by rw [z, d7.eD] at eM7; cases eM7]; exact eM7, play_keep ((TupK.same s7).trans tk) pM, by rw [upd_ne (Ne.symm nDL)]; exact s7 _ _ eL6, ?_, fun t' ht' => ?_⟩
      · have et : ts.take (i + 1) = ts.take i ++ [t] := by rw [List.take_add_one, hti]; rfl
        rw [et]
        refine Shg.pair_app (pair_mono (fun _ _ ⟨x, l, e, n, h⟩ => ⟨x, l, e, n, by rw [upd_ne fun z => by rw [z, d7.eD] at h; cases h]; exact h⟩) d7.pl) (.cons ⟨rfl, D2, rfl, nD2, by rw [upd_ne nDD]; exact e7⟩ .nil)
      · have et : ts.take (i + 1) = ts.take i ++ [t] := by rw [List.take_add_one, hti]; rfl
        rw [et, List.flatMap_append, hO, List.flatMap_cons, List.flatMap_nil, List.append_nil, hpile0]
        exact pairR_keep ((TupK.same s7).trans tk) pO6
      · obtain ⟨h3, h4⟩ := List.getElem?_eq_some_iff.mp hti
        obtain ⟨h5, h6⟩ := List.getElem?_eq_some_iff.mp ht'
        have lt := (List.pairwise_iff_getElem.mp rise) i (i + 1) h3 h5 (Nat.lt_succ_self _)
        rw [h4, h6] at lt
        have side : ∀ z ∈ ts, z ≤ t ∨ t' ≤ z := fun z hz => by
          obtain ⟨m, hm, rfl⟩ := List.getElem_of_mem hz
          rcases Nat.lt_or_ge i m with q | q
          · right
            rcases Nat.eq_or_lt_of_le q with q | q
            · subst q
              exact Int.le_of_eq h6.symm
            · have := (List.pairwise_iff_getElem.mp rise) (i + 1) m h5 hm q
              omega
          · left
            rcases Nat.eq_or_lt_of_le q with q | q
            · subst q
              exact Int.le_of_eq h4
            · have := (List.pairwise_iff_getElem.mp rise) m i hm h3 q
              omega
        exact pile_between lt fun r hr => ⟨side _ (hc r hr).1, side _ (hc r hr).2⟩
  · rintro σ H2 ⟨Pl, pws, pile, out, kvs, o5, o6, o7, o8, rfl, d, nPl, ePl, pP, eLi, pO, _⟩
    rw [List.length_map, List.take_length] at pO
    have d2 := d.pl
    rw [List.length_map, List.take_length] at d2
    refine ⟨_, rfl, _, rfl, by show 2 ≤ sizeLine; decide, fun t ht => ?_⟩
    have s := Shg.same_upd (o := .tup [.ref Li, .ref Di]) ht
    exact kk t Li Di out kvs ts _ (d.same.trans s) upd_same (s _ _ eLi) (pairR_keep (.same s) (by rw [ticks_crossed hv nd0 rise hc]; exact pO)) (s _ _ d.eD) (pair_mono (fun _ _ ⟨x, l, e, _, h⟩ => ⟨x, l, e, s _ _ h⟩) d2) rise mem
end
end Pq
set_option Elab.async false
set_option linter.all false
set_option maxRecDepth 100000
set_option maxHeartbeats 2000000
namespace Sh1
open PySem L2 Sho NdefX
/-! ### stays compared -/
def stayD (x : Stay) : PyData := .tuple [.str x.1, .int x.2.1, .int x.2.2]
theorem dp_stays {K : PySem.W.Frag} {H : Hp} : ∀ {ws : List V} {xs : List Stay}, StaysV H ws xs → DpAll K H ws (xs.map stayD)
  | _, _, .nil => .nil
  | _, _, .cons ⟨t, e, ht⟩ r => by
    subst e
    exact .cons (.tup (SqT.of ht) (.cons (.str _) (.cons (.int _) (.cons (.int _) .nil)))) (dp_stays r)
theorem lay_stays : ∀ {xs : List Stay}, Short xs → PyData.canLayAll0 (xs.map stayD) = true
  | [], _ => rfl
  | x :: xs, h => by
    have h1 := (h x List.mem_cons_self).2
    have h2 := lay_stays (xs := xs) fun y hy => h y (List.mem_cons_of_mem _ hy)
    show (PyData.canLay0 (stayD x) && PyData.canLayAll0 (xs.map stayD)) = true
    rw [h2, Bool.and_true]
    show (PyData.canLay0 (.str x.1) && (true && (true && true))) = true
    simp only [Bool.and_true]
    exact h1
theorem depth_stays : ∀ xs : List Stay, PyData.depthAll (xs.map stayD) ≤ 1
  | [] => Nat.zero_le _
  | x :: xs => by
    have h := depth_stays xs
    show max (PyData.depth (stayD x)) (PyData.depthAll (xs.map stayD)) ≤ 1
    have e : PyData.depth (stayD x) = 1 := rfl
    rw [e]
    omega
theorem shaped_tup {xs : List Stay} (h : Short xs) : SeqAt.shaped (.tuple (xs.map stayD)) = true := by
  unfold SeqAt.shaped
  have h1 : PyData.canLay0 (.tuple (xs.map stayD)) = true := lay_stays h
  have h2 : PyData.depth (.tuple (xs.map stayD)) ≤ 64 := Nat.le_trans (Nat.succ_le_succ (depth_stays xs)) (by decide)
  rw [h1, decide_eq_true h2]
  rfl
theorem shaped_lst {xs : List Stay} (h : Short xs) : SeqAt.shaped (.list (xs.map stayD)) = true := by
  unfold SeqAt.shaped
  have h1 : PyData.canLay0 (.list (xs.map stayD)) = true := lay_stays h
  have h2 : PyData.depth (.list (xs.map stayD)) ≤ 64 := Nat.le_trans (Nat.succ_le_succ (depth_stays xs)) (by decide)
  rw [h1, decide_eq_true h2]
  rfl
theorem shaped_stay {x : Stay} (h : x.1.cps.all (· < 0x110000) = true) : SeqAt.shaped (stayD x) = true := by
  unfold SeqAt.shaped
  have h1 : PyData.canLay0 (stayD x) = true := by
    show (PyData.canLay0 (.str x.1) && (true && (true && true))) = true
    simp only [Bool.and_true]
    exact h
  rw [h1]
  rfl
theorem eqv_stay (x y : Stay) : PyData.eqv (stayD x) (stayD y) = decide (x = y) := by
  obtain ⟨x1, x2, x3⟩ := x
  obtain ⟨y1, y2, y3⟩ := y
  show ((x1 == y1) && ((x2 == y2) && ((x3 == y3) && true))) = _
  rw [Bool.eq_iff_iff]
  simp
theorem eqv_stays : ∀ xs ys : List Stay, PyData.eqvAll (xs.map stayD) (ys.map stayD) = decide (xs = ys)
  | [], [] => rfl
  | [], y :: ys => by
    rw [decide_eq_false (by simp)]
    rfl
  | x :: xs, [] => by
    rw [decide_eq_false (by simp)]
    rfl
  | x :: xs, y :: ys => by
    show (PyData.eqv (stayD x) (stayD y) && PyData.eqvAll (xs.map stayD) (ys.map stayD)) = _
    rw [eqv_stay, eqv_stays xs ys, Bool.eq_iff_iff]
    simp
section
variable {P : Program} {w : World} {K : PySem.W.Frag} {mg : Str → Option Value} {base : Heap}
/-! ### __eq__ -/
def spPEq (C : Addr) : Sp := fun vs H Q _ => ∃ (p : Addr) (xs : List Stay) (y : V), vs = [.ref p, y] ∧ PartyAt C H p xs ∧ Short xs ∧
  ((∃ q ys, y = .ref q ∧ PartyAt C H q ys ∧ Short ys ∧ Q (.bl (decide (xs = ys))) H) ∨ ∃ b zs, y = .ref b ∧ H b = some (.tup zs) ∧ Q (.bl false) H)
theorem scPEq : FnScope ["self", "other"] ["self", "other"] (defScope sPEq) := ⟨rfl, rfl, rfl, by decide +kernel, rfl, by decide +kernel, by decide +kernel⟩
theorem ok_peq {f C : Addr} {fd : FuncData} (F : Fun K "__eq__" "Party.__eq__" sPEq f fd) (B : Blt mg) (PC : PartyC K mg C) : FnOk P w K mg base CX0 1 f fd ["self", "other"] (spPEq C) := by
  refine F.ok scPEq (fun vs H Q E h => ?_) (fun cdv A outer s H vs Q E hr h => ?_)
  · obtain ⟨p, xs, y, rfl, _⟩ := h
    rfl
  · obtain ⟨p, xs, y, rfl, ⟨dx, a, ws, h1, h2, h3⟩, hsx, k⟩ := h
    refine ⟨_, pss_one (ps_ret (pe_and (pe_callB call_isi (by rfl) B.isi (by decide +kernel) (pa_cons (pv 1) (pa_cons (pe_glob (v := .ref C) rfl PC.gm rfl) pa_nil)))
      (pe_one (pe_cmpR (op_eqD hr.units) (pe_fld (pv 0) rfl) (pe_fld (pv 1) rfl) (nomark _))))), ?_⟩
    rcases k with ⟨q, ys, rfl, ⟨dy, b, zs, g1, g2, g3⟩, hsy, k⟩ | ⟨b, zs, rfl, hb, k⟩
    · refine ⟨_, rfl, .ref q, .ref C, .ref C, .ref C, true, rfl, .own C, .base (.ins g1 PC.cl PC.ca PC.cn PC.ct PC.mo), PC.kS, _, rfl, iteT ?_⟩
      refine ⟨_, rfl, p, C, dx, _, .ref a, rfl, h1, PC.cl, PC.nS, lk_stays _, _, rfl, q, C, dy, _, .ref b, rfl, g1, PC.cl, PC.nS, lk_stays _, ?_⟩
      refine ⟨.tuple (xs.map stayD), .tuple (ys.map stayD), .tup (SqT.of h2) (dp_stays h3), .tup (SqT.of g2) (dp_stays g3), shaped_tup hsx, shaped_tup hsy, ?_⟩
      have e : PyData.eqv (.tuple (xs.map stayD)) (.tuple (ys.map stayD)) = decide (xs = ys) := eqv_stays xs ys
      rw [e]
      exact k
    · refine ⟨_, rfl, .ref b, .ref C, .type "tuple", .ref C, false, rfl, .own C, .base (.tup hb), PC.kT, _, rfl, iteF k⟩
end
end Sh1
set_option Elab.async false
set_option linter.all false
set_option maxRecDepth 100000
set_option maxHeartbeats 2000000
namespace Sh1
open PySem L2 Sho NdefX
/-! ### valid lists of stays -/
structure Valid (xs : List Stay) : Prop where
  len : xs.length ≤ 24
  nd : (xs.map fun x => x.1).Nodup
  ok : ∀ x ∈ xs, okStay x.1 x.2.1 x.2.2 = true
theorem any_mem {l : List Str} {z : Str} : l.any (fun y => y == z) = true ↔ z ∈ l := by
  rw [List.any_eq_true]
  constructor
  · rintro ⟨y, hy, e⟩
    have := eq_of_beq e
    rw [← this]
    exact hy
  · intro h
    exact ⟨z, h, by simp⟩
theorem fbf_none : ∀ (xs : List Stay) (i : Nat) (seen : List Str), i ≤ 24 → firstBadFrom i seen xs = none →
    i + xs.length ≤ 24 ∧ (∀ x ∈ xs, x.1 ∉ seen) ∧ (xs.map fun x => x.1).Nodup ∧ ∀ x ∈ xs, okStay x.1 x.2.1 x.2.2 = true
  | [], i, seen, hi, _ => ⟨hi, by simp, by simp, by simp⟩
  | x :: r, i, seen, hi, h => by
    unfold firstBadFrom at h
    by_cases hb : badStay i seen x = true
    · rw [if_pos hb] at h
      cases h
    · rw [if_neg hb] at h
      have hb2 := Bool.eq_false_iff.mpr hb
      unfold badStay at hb2
      rw [Bool.or_eq_false_iff, Bool.or_eq_false_iff] at hb2
      obtain ⟨b1, b2, b3⟩ := hb2
      have n24 : (i : Int) ≠ 24 := of_decide_eq_false b1
      have ns : x.1 ∉ seen := fun m => by
        rw [any_mem.mpr m] at b2
        cases b2
      have ok1 : okStay x.1 x.2.1 x.2.2 = true := by
        cases e : okStay x.1 x.2.1 x.2.2 with
        | true => rfl
        | false => rw [e] at b3; cases b3
      obtain ⟨c1, c2, c3, c4⟩ := fbf_none r (i + 1) (seen ++ [x.1]) (by omega) h
      refine ⟨by rw [List.length_cons]; omega, fun y hy => ?_, ?_, fun y hy => ?_⟩
      · rcases List.mem_cons.mp hy with rfl | hy
        · exact ns
        · exact fun m => c2 y hy (List.mem_append_left _ m)
      · rw [List.map_cons, List.nodup_cons]
        refine ⟨fun m => ?_, c3⟩
        obtain ⟨y, hy, e⟩ := List.mem_map.mp m
        exact c2 y hy (by rw [e]; simp)
      · rcases List.mem_cons.mp hy with rfl | hy
        · exact ok1
        · exact c4 y hy
theorem fbf_of : ∀ (xs : List Stay) (i : Nat) (seen : List Str), i + xs.length ≤ 24 → (∀ x ∈ xs, x.1 ∉ seen) → (xs.map fun x => x.1).Nodup → (∀ x ∈ xs, okStay x.1 x.2.1 x.2.2 = true) → firstBadFrom i seen xs = none
  | [], _, _, _, _, _, _ => rfl
  | x :: r, i, seen, h1, h2, h3, h4 => by
    rw [List.length_cons] at h1
    have hb : badStay i seen x = false := by
      unfold badStay
      rw [h4 x List.mem_cons_self, decide_eq_false (by omega)]
      have e : seen.any (fun y => y == x.1) = false := by
        rw [Bool.eq_false_iff]
        exact fun q => h2 x List.mem_cons_self (any_mem.mp q)
      rw [e]
      rfl
    unfold firstBadFrom
    rw [if_neg (by rw [hb]; exact Bool.false_ne_true)]
    rw [List.map_cons, List.nodup_cons] at h3
    refine fbf_of r (i + 1) _ (by omega) (fun y hy m => ?_) h3.2 fun y hy => h4 y (List.mem_cons_of_mem _ hy)
    rcases List.mem_append.mp m with m | m
    · exact h2 y (List.mem_cons_of_mem _ hy) m
    · rw [List.mem_singleton] at m
      exact h3.1 (List.mem_map.mpr ⟨y, hy, m⟩)
theorem valid_iff {xs : List Stay} : firstBad xs = none ↔ Valid xs := by
  constructor
  · intro h
    obtain ⟨a, _, b, c⟩ := fbf_none xs 0 [] (by decide) h
    exact ⟨by omega, b, c⟩
  · intro h
    exact fbf_of xs 0 [] (by have := h.len; omega) (by simp) h.nd h.ok
theorem Valid.filter {xs : List Stay} (h : Valid xs) (p : Stay → Bool) : Valid (xs.filter p) :=
  ⟨Nat.le_trans (List.length_filter_le ..) h.len, (List.Nodup.sublist (List.Sublist.map _ List.filter_sublist) h.nd), fun x hx => h.ok x (List.mem_filter.mp hx).1⟩
theorem Short.filter {xs : List Stay} (h : Short xs) (p : Stay → Bool) : Short (xs.filter p) := fun x hx => h x (List.mem_filter.mp hx).1
/-- what is kept of paired lists -/
theorem stays_filter {H : Hp} (p : Stay → Bool) : ∀ {ws : List V} {xs : List Stay}, StaysV H ws xs → StaysV H ((ws.zip xs).filterMap fun q => if p q.2 = true then some q.1 else none) (xs.filter p)
  | _, _, .nil => .nil
  | _, _, .cons (a := v) (b := x) h r => by
    have ih := stays_filter p r
    rw [List.zip_cons_cons, List.filterMap_cons, List.filter_cons]
    by_cases e : p x = true
    · simp only [e, if_true]
      exact .cons h ih
    · simp only [e, if_false]
      exact ih
section
variable {P : Program} {w : World} {K : PySem.W.Frag} {mg : Str → Option Value} {base : Heap}
/-! ### __sub__ -/
def without (xs : List Stay) (x : Stay) : List Stay := xs.filter fun y => !decide (y = x)
def spPSub (C CU : Addr) : Sp := fun vs H Q E => ∃ (p : Addr) (z : Str) (xs : List Stay), vs = [.ref p, .str z] ∧ PartyAt C H p xs ∧ Short xs ∧ Valid xs ∧ z.length ≤ 100000 ∧
  (∀ x, guest xs z = some x → ∀ q H', Same H H' → H q = none → PartyAt C H' q (without xs x) → Q (.ref q) H') ∧
  (guest xs z = none → ∀ (H' : Hp) (d : Addr), Same H H' → H d = none → H' d = some (.xd [(("name" : Str), .str z)]) → E (.ref CU) (some d) H')
theorem scPSub : FnScope ["self", "name", "gone", "stays", "stay"] ["self", "name"] (defScope sPSub) := ⟨rfl, rfl, rfl, by decide +kernel, rfl, by decide +kernel, by decide +kernel⟩
theorem ok_psub {f C CI CU fS fI : Addr} {fd fdS : FuncData} (F : Fun K "__sub__" "Party.__sub__" sPSub f fd) (PC : PartyC K mg C)
    (GS : FnOk P w K mg base (L2.CX P w) 3 fS fdS ["self", "name"] (spStayOf C CU)) (mS : Meth K C "_stay_of" fS) (bS : Binds K fdS ["self", "name"] [])
    (M : Mk K C fI) (GI : FnR P w K mg base (L2.CX P w) 5 fI (spPNew C CI)) : FnOk P w K mg base (L2.CX P w) 7 f fd ["self", "name"] (spPSub C CU) := by
  refine F.okX scPSub (fun vs H Q E h => ?_) (fun cdv A outer s H vs Q E hr h => ?_)
  · obtain ⟨p, z, xs, rfl, _⟩ := h
    rfl
  · obtain ⟨p, z, xs, rfl, PA, hsh, hv, hz, kOk, kBad⟩ := h
    have nd := scPSub.nd
    have pass : Passes (L2.CX P w) (cxOf (L2.CX P w) P w K mg base ["self", "name", "gone", "stays", "stay"] "Party.__sub__" (defScope sPSub) f cdv A outer s H E) E := passes_call (takes_of rfl rfl rfl rfl) fun _ _ _ _ z => z
    refine ⟨_, pss_cons (ps_set (i := 2) nd rfl (Or.inr rfl) (pe_meth (pv 0) PC.cl mS GS (hr.mono (by decide)) bS .nil pass (pa_cons (pv 1) pa_nil)))
      (pss_cons (ps_setLc (i := 3) (own := [("stay", 4)]) (g := gName 4) (tt := tTest (tOp (rNeD K) (tVar 4) (tVar 2))) rfl nd rfl rfl (sw_true rfl rfl rfl (by decide +kernel)) (pi_tup (pe_fld (pv 0) rfl)) (blkOk_by (own := [("stay", 4)]) (N := ["self", "name", "gone", "stays", "stay"]) (sc := defScope sPSub) (by decide +kernel))
        (fun _ _ _ _ _ => pg_name (i := 4) nd rfl (Or.inl rfl)) (fun _ _ _ _ _ => pts_one (pt_cmpR (op_neD hr.units) (pv 4) (pv 2) (nomark _))) (fun _ _ _ _ _ => pv 4))
      (pss_one (ps_ret (pe_makeS M GI hr rfl PC.gm pass (pv 3))))), ?_⟩
    obtain ⟨dx, a, ws, h1, h2, h3⟩ := id PA
    refine ⟨_, rfl, p, dx, _, rfl, h1, no_meth _ (by decide +kernel), _, rfl, p, z, xs, rfl, PA, hz, fun x t hx ht => ?_, kBad⟩
    refine ⟨_, rfl, p, C, dx, _, .ref a, rfl, h1, PC.cl, PC.nS, lk_stays _, a, rfl, ⟨_, SqT.of h2⟩, fun D hD => ?_⟩
    have lenE := pair_len h3
    have hz24 : ws.length ≤ sizeLine := by
      rw [lenE]
      exact Nat.le_trans hv.len (by decide)
    have hxs : x.1.cps.all (· < 0x110000) = true := (hsh x (List.mem_of_find?_eq_some hx)).2
    have dpx : ∀ {t : Addr} {y : Stay} {H1 : Hp}, H1 t = some (.tup [.str y.1, .int y.2.1, .int y.2.2]) → Dp K H1 (.ref t) (stayD y) := fun {t y H1} e => .tup (SqT.of e) (.cons (.str _) (.cons (.int _) (.cons (.int _) .nil)))
    refine lc_gather walk_tup (fun i => ((ws.zip xs)[i]?).bind fun q => if (!decide (q.2 = x)) = true then some q.1 else none) hD hz24 (fun H1 s1 => SqT.of (s1 _ _ h2)) (fun i v H1 H' hi s1 y R k1 => ?_) fun H1 s1 e1 => ?_
    · obtain ⟨rfl, e2⟩ := y
      obtain ⟨y, hy, t', rfl, ht'⟩ := pair_get h3 e2
      have k2 := k1 _ (Same.refl _)
      have ez : (ws.zip xs)[i]? = some (.ref t', y) := by
        rw [List.getElem?_zip_eq_some]
        exact ⟨e2, hy⟩
      rw [ez] at k2
      refine ⟨rfl, _, rfl, _, rfl, stayD y, stayD x, dpx (s1 _ _ ht'), dpx (s1 _ _ ht), shaped_stay (hsh y (List.mem_of_getElem? hy)).2, shaped_stay hxs, _, rfl, ?_⟩
      rw [eqv_stay]
      by_cases e : y = x
      · have : decide (y = x) = true := decide_eq_true e
        rw [this]
        refine iteF ?_
        simp only [Option.bind_some, this] at k2
        exact k2
      · have : decide (y = x) = false := decide_eq_false e
        rw [this]
        refine iteT ⟨_, rfl, ?_⟩
        simp only [Option.bind_some, this] at k2
        exact k2
    · have e2 : (ws.zip xs).length = ws.length := by
        rw [List.length_zip, lenE]
        exact Nat.min_self _
      rw [← e2, gather_list] at e1
      have sv := stays_filter (fun y => !decide (y = x)) (h3.same s1)
      refine ⟨_, rfl, D, _, rfl, .inr (SqL.of e1), ?_⟩
      refine party_new sv (hsh.filter _) ?_ (fun _ q H' s' hq PQ => ?_) (fun i hi => ?_)
      · rw [pair_len sv]
        exact Nat.le_trans (hv.filter _).len (by decide)
      · exact kOk x hx q H' (s1.trans s') (s1.free hq) PQ
      · rw [valid_iff.mpr (hv.filter _)] at hi
        cases hi
end
end Sh1
set_option Elab.async false
set_option linter.all false
set_option maxRecDepth 100000
set_option maxHeartbeats 2000000
namespace Sh1
open PySem L2 Sho NdefX
theorem cat_one {K : PySem.W.Frag} {H : Hp} {a b : Addr} {xs ys : List V} {Q : VK} (ha : SqT K H a xs) (hb : SqT K H b ys) (hz : xs.length + ys.length ≤ sizeLine) (h : ∀ c H', Same H H' → SqT K H' c (xs ++ ys) → Q (.ref c) H') : rCatA K (.ref a) (.ref b) H Q := by
  refine ⟨a, b, xs, ys, rfl, rfl, ha, hb, hz, fun e => ?_, fun _ e => ?_, fun _ _ p hp => ?_⟩
  · exact h b H (Same.refl _) (by rw [e]; exact hb)
  · exact h a H (Same.refl _) (by rw [e, List.append_nil]; exact ha)
  · refine h p _ (fun c o e => ?_) (SqT.of upd_same)
    rw [upd_ne (ne_of_none e hp)]
    exact e
theorem paired_append {α β : Type} {R : α → β → Prop} : ∀ {a c : List α} {b d : List β}, PySem.Paired R a b → PySem.Paired R c d → PySem.Paired R (a ++ c) (b ++ d)
  | _, _, _, _, .nil, h => h
  | _, _, _, _, .cons x r, h => .cons x (paired_append r h)
theorem Short.append {xs ys : List Stay} (h : Short xs) (k : Short ys) : Short (xs ++ ys) := fun x hx => (List.mem_append.mp hx).elim (h x) (k x)
/-- stays moved -/
def moved (n : Int) (xs : List Stay) : List Stay := xs.map fun x => (x.1, x.2.1 + n, x.2.2 + n)
theorem Short.moved {xs : List Stay} (h : Short xs) (n : Int) : Short (moved n xs) := fun x hx => by
  obtain ⟨y, hy, e⟩ := List.mem_map.mp hx
  subst e
  exact h y hy
theorem stays_of {H : Hp} : ∀ {ys : List V} {xs : List Stay}, ys.length = xs.length → (∀ (i : Nat) (y : V), ys[i]? = some y → ∃ x, xs[i]? = some x ∧ StayV H y x) → StaysV H ys xs
  | [], [], _, _ => .nil
  | [], _ :: _, h, _ => by simp at h
  | _ :: _, [], h, _ => by simp at h
  | y :: ys, x :: xs, h, k => by
    obtain ⟨x', e, r⟩ := k 0 y rfl
    simp at e
    subst e
    exact .cons r (stays_of (by simpa using h) fun i y' e => by
      obtain ⟨x', e2, r2⟩ := k (i + 1) y' (by simpa using e)
      exact ⟨x', by simpa using e2, r2⟩)
section
variable {P : Program} {w : World} {K : PySem.W.Frag} {mg : Str → Option Value} {base : Heap}
/-- what making a Party of xs may end in -/
def Making (C CI : Addr) (H : Hp) (xs : List Stay) (Q : VK) (E : XK) : Prop :=
  (firstBad xs = none → ∀ (p : Addr) (H' : Hp), Same H H' → H p = none → PartyAt C H' p xs → Q (.ref p) H') ∧
  ∀ i, firstBad xs = some i → ∀ (H' : Hp) (d : Addr), Same H H' → H d = none → H' d = some (.xd [(("index" : Str), .int (i : Nat))]) → E (.ref CI) (some d) H'
theorem Making.after {C CI : Addr} {H H1 : Hp} {xs : List Stay} {Q : VK} {E : XK} (m : Making C CI H xs Q E) (s : Same H H1) : Making C CI H1 xs Q E :=
  ⟨fun h p H' s' hp P => m.1 h p H' (s.trans s') (s.free hp) P, fun i h H' d s' hd e => m.2 i h H' d (s.trans s') (s.free hd) e⟩
def spPAdd (C CI : Addr) : Sp := fun vs H Q E => ∃ (p q : Addr) (xs ys : List Stay), vs = [.ref p, .ref q] ∧ PartyAt C H p xs ∧ PartyAt C H q ys ∧ Short xs ∧ Short ys ∧ xs.length + ys.length ≤ 1000 ∧ Making C CI H (xs ++ ys) Q E
theorem scPAdd : FnScope ["self", "other", "stays"] ["self", "other"] (defScope sPAdd) := ⟨rfl, rfl, rfl, by decide +kernel, rfl, by decide +kernel, by decide +kernel⟩
theorem ok_padd {f C CI fI : Addr} {fd : FuncData} (F : Fun K "__add__" "Party.__add__" sPAdd f fd) (PC : PartyC K mg C) (M : Mk K C fI) (GI : FnR P w K mg base (L2.CX P w) 5 fI (spPNew C CI)) :
    FnOk P w K mg base (L2.CX P w) 7 f fd ["self", "other"] (spPAdd C CI) := by
  refine F.okX scPAdd (fun vs H Q E h => ?_) (fun cdv A outer s H vs Q E hr h => ?_)
  · obtain ⟨p, q, xs, ys, rfl, _⟩ := h
    rfl
  · obtain ⟨p, q, xs, ys, rfl, ⟨dx, a, ws, h1, h2, h3⟩, ⟨dy, b, zs, g1, g2, g3⟩, hsx, hsy, hz, k⟩ := h
    have nd := scPAdd.nd
    have pass : Passes (L2.CX P w) (cxOf (L2.CX P w) P w K mg base ["self", "other", "stays"] "Party.__add__" (defScope sPAdd) f cdv A outer s H E) E := passes_call (takes_of rfl rfl rfl rfl) fun _ _ _ _ z => z
    refine ⟨_, pss_cons (ps_set (i := 2) nd rfl (Or.inl rfl) (pe_op op_catA (pe_fld (pv 0) rfl) (pe_fld (pv 1) rfl))) (pss_one (ps_ret (pe_makeS M GI hr rfl PC.gm pass (pv 2)))), ?_⟩
    refine ⟨_, rfl, p, C, dx, _, .ref a, rfl, h1, PC.cl, PC.nS, lk_stays _, _, rfl, q, C, dy, _, .ref b, rfl, g1, PC.cl, PC.nS, lk_stays _, ?_⟩
    have l1 := pair_len h3
    have l2 := pair_len g3
    have l3 : ws.length + zs.length ≤ 1000 := by omega
    refine cat_one (SqT.of h2) (SqT.of g2) (Nat.le_trans l3 (by decide)) fun c H' s' hc => ?_
    have k' := k.after s'
    refine ⟨_, rfl, c, ws ++ zs, rfl, .inl hc, ?_⟩
    exact party_new (paired_append (h3.same s') (g3.same s')) (hsx.append hsy) (by rw [List.length_append]; exact Nat.le_trans l3 (by decide)) k'.1 k'.2
def spPShift (C CI : Addr) : Sp := fun vs H Q E => ∃ (p : Addr) (n : Int) (xs : List Stay), vs = [.ref p, .int n] ∧ PartyAt C H p xs ∧ Short xs ∧ xs.length ≤ 1000 ∧ Making C CI H (moved n xs) Q E
theorem scPShift : FnScope ["self", "ticks", "stays", "name", "come", "go"] ["self", "ticks"] (defScope sPShift) := ⟨rfl, rfl, rfl, by decide +kernel, rfl, by decide +kernel, by decide +kernel⟩
theorem ok_pshift {f C CI fI : Addr} {fd : FuncData} (F : Fun K "__rshift__" "Party.__rshift__" sPShift f fd) (PC : PartyC K mg C) (M : Mk K C fI) (GI : FnR P w K mg base (L2.CX P w) 5 fI (spPNew C CI)) :
    FnOk P w K mg base (L2.CX P w) 7 f fd ["self", "ticks"] (spPShift C CI) := by
  refine F.okX scPShift (fun vs H Q E h => ?_) (fun cdv A outer s H vs Q E hr h => ?_)
  · obtain ⟨p, n, xs, rfl, _⟩ := h
    rfl
  · obtain ⟨p, n, xs, rfl, ⟨dx, a, ws, h1, h2, h3⟩, hsx, hz, k⟩ := h
    have nd := scPShift.nd
    have pass : Passes (L2.CX P w) (cxOf (L2.CX P w) P w K mg base ["self", "ticks", "stays", "name", "come", "go"] "Party.__rshift__" (defScope sPShift) f cdv A outer s H E) E := passes_call (takes_of rfl rfl rfl rfl) fun _ _ _ _ z => z
    refine ⟨_, pss_cons (ps_setLc (i := 2) (own := [("name", 3), ("come", 4), ("go", 5)]) (g := gTup K 3 (gCons (gName 3) (gCons (gName 4) (gCons (gName 5) gNil)))) (tt := tYes) rfl nd rfl rfl (sw_true rfl rfl rfl (by decide +kernel))
        (pi_tup (pe_fld (pv 0) rfl)) (blkOk_by (own := [("name", 3), ("come", 4), ("go", 5)]) (N := ["self", "ticks", "stays", "name", "come", "go"]) (sc := defScope sPShift) (by decide +kernel))
        (fun _ _ _ _ _ => pg_tup rfl (pgs_cons (pg_name (i := 3) nd rfl (Or.inl rfl)) (pgs_cons (pg_name (i := 4) nd rfl (Or.inl rfl)) (pgs_cons (pg_name (i := 5) nd rfl (Or.inl rfl)) pgs_nil))))
        (fun _ _ _ _ _ => pts_nil) (fun _ _ _ _ _ => pe_tup (pa_cons (pv 3) (pa_cons (pe_op op_add (pv 4) (pv 1)) (pa_cons (pe_op op_add (pv 5) (pv 1)) pa_nil)))))
      (pss_one (ps_ret (pe_makeS M GI hr rfl PC.gm pass (pv 2)))), ?_⟩
    have l1 := pair_len h3
    refine ⟨_, rfl, p, C, dx, _, .ref a, rfl, h1, PC.cl, PC.nS, lk_stays _, a, rfl, ⟨_, SqT.of h2⟩, fun D hD => ?_⟩
    refine lc_rel walk_tup (fun i y H => ∃ x, (moved n xs)[i]? = some x ∧ StayV H y x) hD (by rw [l1]; exact Nat.le_trans hz (by decide)) (fun H1 s1 => SqT.of (s1 _ _ h2)) (fun i y H H' st r => ?_) (fun i v H1 H' hi s1 y R k1 => ?_) fun H1 ys s1 e1 e2 e3 => ?_
    · obtain ⟨x, e, t, e2, e3⟩ := r
      exact ⟨x, e, t, e2, st _ _ e3⟩
    · obtain ⟨rfl, e2⟩ := y
      obtain ⟨x, hx, t, rfl, ht⟩ := pair_get h3 e2
      refine ⟨t, _, rfl, SqT.of (s1 _ _ ht), rfl, _, _, rfl, _, _, rfl, _, _, rfl, rfl, rfl, _, rfl, _, rfl, _, rfl, _, _, rfl, rfl, _, rfl, _, rfl, _, _, rfl, rfl, by show 3 ≤ sizeLine; decide, fun q hq => ?_⟩
      refine k1 _ _ (fun b o e => by rw [upd_ne (ne_of_none e hq)]; exact e) ⟨(x.1, x.2.1 + n, x.2.2 + n), ?_, q, rfl, upd_same⟩
      unfold moved
      rw [List.getElem?_map, hx]
      rfl
    · have lm : (moved n xs).length = xs.length := by
        unfold moved
        rw [List.length_map]
      have sv : StaysV H1 ys (moved n xs) := stays_of (by rw [e2, lm, l1]) e3
      have k' := k.after s1
      refine ⟨_, rfl, D, ys, rfl, .inr (SqL.of e1), ?_⟩
      exact party_new sv (hsx.moved n) (by rw [e2, l1]; exact Nat.le_trans hz (by decide)) k'.1 k'.2
end
end Sh1
/-! Draws: told in K1j0, which a law without parties can use too. -/
set_option Elab.async false
set_option linter.all false
set_option maxRecDepth 100000
set_option maxHeartbeats 2000000
namespace Sh1
open PySem L2 Sho NdefX
/-- x stands for d, at most n deep: ints, texts, tuples, lists -/
def Leaf (x : V) (d : PyData) : Prop := (∃ i, x = .int i ∧ d = .int i) ∨ ∃ z, x = .str z ∧ d = .str z
def Stands (H : Hp) : Nat → V → PyData → Prop
  | 0, x, d => Leaf x d
  | n + 1, x, d => Leaf x d ∨ (∃ (a : Addr) (xs : List V) (ds : List PyData), x = .ref a ∧ d = .tuple ds ∧ H a = some (.tup xs) ∧ xs.length ≤ 1000 ∧ PySem.Paired (fun y e => Stands H n y e) xs ds)
theorem Stands.same {H H' : Hp} (s : Same H H') : ∀ {n : Nat} {x : V} {d : PyData}, Stands H n x d → Stands H' n x d
  | 0, _, _, h => h
  | n + 1, x, d, h => by
    rcases h with h | ⟨a, xs, ds, e1, e2, e3, e4, e5⟩
    · exact .inl h
    · refine .inr ⟨a, xs, ds, e1, e2, s _ _ e3, e4, ?_⟩
      clear e3 e4 e1 e2
      induction e5 with
      | nil => exact .nil
      | cons h r ih => exact .cons (Stands.same s h) ih
section
variable {P : Program} {w : World} {K : PySem.W.Frag} {mg : Str → Option Value} {base : Heap}
def spSame (n : Nat) : Sp := fun vs H Q _ => ∃ (x y : V) (d : PyData), vs = [x, y] ∧ Stands H n x d ∧ Stands H n y d ∧ ∀ H', Same H H' → Q (.bl true) H'
theorem scSame : FnScope ["_law_result", "_law_expected", "_law_k"] ["_law_result", "_law_expected"] (defScope sSame) := ⟨rfl, rfl, rfl, by decide +kernel, rfl, by decide +kernel, by decide +kernel⟩
theorem kA {K : PySem.W.Frag} {t : String} (h1 : kitB t "tuple" = some false) (h2 : kitB t "list" = some false) : PySem.W.kitAny K (.type t) [.type "tuple", .type "list"] = some false :=
  kitAny_cons (b := false) h1 (fun _ => kitAny_cons (b := false) h2 (fun _ => rfl) fun z => nomatch z) fun z => nomatch z
theorem kT {K : PySem.W.Frag} : PySem.W.kitAny K (.type "tuple") [.type "tuple", .type "list"] = some true :=
  kitAny_cons (b := true) (show kitB "tuple" "tuple" = some true by decide +kernel) (fun z => nomatch z) fun _ => rfl
/-- a leaf's class -/
theorem leaf_ty {K : PySem.W.Frag} {x : V} {d : PyData} (h : Leaf x d) : ∃ t : String, (∀ H, TyX K H x (.type t)) ∧ PySem.W.kitAny K (.type t) [.type "tuple", .type "list"] = some false ∧ kitB t "bool" = some false ∧ ∃ b, kitB t "int" = some b ∧ (b = true → ∃ i, d = .int i) ∧ (b = false → ∃ z, d = .str z) ∧ scal x x = true := by
  rcases h with ⟨i, rfl, rfl⟩ | ⟨z, rfl, rfl⟩
  · exact ⟨"int", fun _ => .base (.int i), kA (by decide +kernel) (by decide +kernel), by decide +kernel, true, by decide +kernel, fun _ => ⟨i, rfl⟩, (fun z => nomatch z), rfl⟩
  · exact ⟨"str", fun _ => .base (.str z), kA (by decide +kernel) (by decide +kernel), by decide +kernel, false, by decide +kernel, (fun z => nomatch z), fun _ => ⟨z, rfl⟩, rfl⟩
theorem leaf_eq {x y : V} {d : PyData} (h : Leaf x d) (k : Leaf y d) : x = y := by
  rcases h with ⟨i, rfl, rfl⟩ | ⟨z, rfl, rfl⟩ <;> rcases k with ⟨j, rfl, e⟩ | ⟨j, rfl, e⟩ <;> cases e <;> rfl
theorem stands_split {H : Hp} {n : Nat} {sp' : Sp} {x y : V} {d : PyData} (hn : n = 0 ∨ ∃ m, n = m + 1 ∧ sp' = spSame m) (hx : Stands H n x d) (hy : Stands H n y d) :
    (Leaf x d ∧ x = y) ∨ ∃ (m : Nat) (a b : Addr) (xs ys : List V) (ds : List PyData), sp' = spSame m ∧ x = .ref a ∧ y = .ref b ∧ H a = some (.tup xs) ∧ H b = some (.tup ys) ∧ xs.length ≤ 1000 ∧
      PySem.Paired (fun y e => Stands H m y e) xs ds ∧ PySem.Paired (fun y e => Stands H m y e) ys ds := by
  rcases hn with rfl | ⟨m, rfl, e⟩
  · exact .inl ⟨hx, leaf_eq hx hy⟩
  · rcases hx with hx | ⟨a, xs, ds, rfl, rfl, h1, h2, h3⟩
    · rcases hy with hy | ⟨b, ys, es, rfl, rfl, _⟩
      · exact .inl ⟨hx, leaf_eq hx hy⟩
      · rcases hx with ⟨i, _, z⟩ | ⟨i, _, z⟩ <;> cases z
    · rcases hy with hy | ⟨b, ys, es, rfl, e2, g1, g2, g3⟩
      · rcases hy with ⟨i, _, z⟩ | ⟨i, _, z⟩ <;> cases z
      · cases e2
        exact .inr ⟨m, a, b, xs, ys, ds, e, rfl, rfl, h1, g1, h2, h3, g3⟩
theorem same_step {k n : Nat} {sp' : Sp} {f : Addr} {fd : FuncData} (F : Fun K "_law_same" "_law_same" sSame f fd) (B : Blt mg) (mF : mg "_law_same" = some (.ref f)) (bF : Binds K fd ["_law_result", "_law_expected"] [])
    (ih : FnOk P w K mg base CX0 k f fd ["_law_result", "_law_expected"] sp') (hn : n = 0 ∨ ∃ m, n = m + 1 ∧ sp' = spSame m) : FnOk P w K mg base CX0 (k + 1) f fd ["_law_result", "_law_expected"] (spSame n) := by
  refine F.ok scSame (fun vs H Q E h => ?_) (fun cdv A outer s H vs Q E hr h => ?_)
  · obtain ⟨x, y, d, rfl, _⟩ := h
    rfl
  · obtain ⟨x, y, d, rfl, hx, hy, kk⟩ := h
    have nd := scSame.nd
    refine ⟨_, pss_cons (ps_if (pt_val (pe_callB call_isiT (by rfl) B.isi (by decide +kernel) (pa_cons (pv 1) (pa_cons (pe_tup (pa_cons (pe_bltn (v := .ty "tuple") (by rfl) B.tuple (by decide +kernel) rfl) (pa_cons (pe_bltn (v := .ty "list") (by rfl) B.list (by decide +kernel) rfl) pa_nil))) pa_nil))))
        (pss_cons (ps_if (PW.pt (pw_or (pt_not (pt_val (pe_callB call_isiT (by rfl) B.isi (by decide +kernel) (pa_cons (pv 0) (pa_cons (pe_tup (pa_cons (pe_bltn (v := .ty "tuple") (by rfl) B.tuple (by decide +kernel) rfl) (pa_cons (pe_bltn (v := .ty "list") (by rfl) B.list (by decide +kernel) rfl) pa_nil))) pa_nil)))))
            (pw_or1 (pt_cmpR op_ne (pe_callB call_isi (by rfl) B.isi (by decide +kernel) (pa_cons (pv 0) (pa_cons (pe_bltn (v := .ty "list") (by rfl) B.list (by decide +kernel) rfl) pa_nil))) (pe_callB call_isi (by rfl) B.isi (by decide +kernel) (pa_cons (pv 1) (pa_cons (pe_bltn (v := .ty "list") (by rfl) B.list (by decide +kernel) rfl) pa_nil))) (nomark _)))))
            (pss_one (ps_ret pe_bl)) pss_nil)
        (pss_cons (ps_if (pt_cmpR op_ne (pe_callB call_len_seq (by rfl) B.len PySem.boot_len (pa_cons (pv 0) pa_nil)) (pe_callB call_len_seq (by rfl) B.len PySem.boot_len (pa_cons (pv 1) pa_nil)) (nomark _)) (pss_one (ps_ret pe_bl)) pss_nil)
        (pss_one (ps_ret (pe_cmpR (op_eqD (hr.mono (Nat.zero_le _)).units) (pe_lc (own := [("_law_k", 2)]) (g := gName 2) (tt := tNot (tB (tCall sp' [] E0 (tCons (tOp (rIxT K) (tVar 0) (tVar 2)) (tCons (tOp (rIxT K) (tVar 1) (tVar 2)) tNil))))) rfl nd
            (pi_range1 (by rfl) B.range (pa_cons (pe_callB call_len_seq (by rfl) B.len PySem.boot_len (pa_cons (pv 1) pa_nil)) pa_nil)) (blkOk_by (own := [("_law_k", 2)]) (N := ["_law_result", "_law_expected", "_law_k"]) (sc := defScope sSame) (by decide +kernel))
            (fun _ _ _ _ _ => pg_name (i := 2) nd rfl (Or.inl rfl))
            (fun _ _ _ _ _ => pts_one (pt_not (pt_val (pe_call ih hr rfl mF F.kp bF .nil pass0 (pa_cons (pe_ix ix_tup (pv 0) (pv 2) (fun _ _ => rfl)) (pa_cons (pe_ix ix_tup (pv 1) (pv 2) (fun _ _ => rfl)) pa_nil))))))
            (fun _ _ _ _ _ => pv 2)) (pe_lst pa_nil) (nomark _)))))) pss_nil)
      (pss_cons (ps_if (pt_cmpR op_ne (pe_callB call_isi (by rfl) B.isi (by decide +kernel) (pa_cons (pv 0) (pa_cons (pe_bltn (v := .ty "bool") (by rfl) B.bool (by decide +kernel) rfl) pa_nil))) (pe_callB call_isi (by rfl) B.isi (by decide +kernel) (pa_cons (pv 1) (pa_cons (pe_bltn (v := .ty "bool") (by rfl) B.bool (by decide +kernel) rfl) pa_nil))) (nomark _)) (pss_one (ps_ret pe_bl)) pss_nil)
      (pss_one (ps_ret (pe_and (pe_cmpR op_eq (pe_callB call_isi (by rfl) B.isi (by decide +kernel) (pa_cons (pv 0) (pa_cons (pe_bltn (v := .ty "int") (by rfl) B.int (by decide +kernel) rfl) pa_nil))) (pe_callB call_isi (by rfl) B.isi (by decide +kernel) (pa_cons (pv 1) (pa_cons (pe_bltn (v := .ty "int") (by rfl) B.int (by decide +kernel) rfl) pa_nil))) (nomark _))
        (pe_one (pe_cmpR op_eq (pv 0) (pv 1) (nomark _))))))), ?_⟩
    rcases stands_split hn hx hy with ⟨hl, e⟩ | ⟨m, a, b, xs, ys, ds, e, rfl, rfl, h1, h2, h3, h4, h5⟩
    · subst e
      obtain ⟨t, ty, ka, kb, bi, ki, ki1, ki2, hsc⟩ := leaf_ty (K := K) hl
      refine ⟨_, rfl, by decide, fun tp htp => ?_⟩
      have s1 : Same H (upd H tp (.tup [.ty "tuple", .ty "list"])) := fun b o e => by rw [upd_ne (ne_of_none e htp)]; exact e
      refine ⟨x, tp, _, .type t, [.type "tuple", .type "list"], false, rfl, upd_same, .cons (.ty _) (.cons (.ty _) .nil), ty _, ka, _, rfl, iteF ?_⟩
      refine ⟨_, rfl, x, _, .type t, .type "bool", false, rfl, .ty _, ty _, kb, _, rfl, x, _, .type t, .type "bool", false, rfl, .ty _, ty _, kb, rfl, _, rfl, iteF ?_⟩
      refine ⟨_, rfl, x, _, .type t, .type "int", bi, rfl, .ty _, ty _, ki, _, rfl, x, _, .type t, .type "int", bi, rfl, .ty _, ty _, ki, rfl, true, by rw [decide_eq_true rfl], iteT ⟨_, rfl, _, rfl, hsc, ?_⟩⟩
      rw [decide_eq_true rfl]
      exact kk _ s1
    · subst e
      have lx := pair_len h4
      have ly := pair_len h5
      have new : ∀ {H1 : Hp} {p : Addr} {o : HO}, H1 p = none → Same H1 (upd H1 p o) := fun {H1 p o} hp b u e => by rw [upd_ne (ne_of_none e hp)]; exact e
      refine ⟨_, rfl, by decide, fun tp htp => ?_⟩
      have s1 := new (o := .tup [.ty "tuple", .ty "list"]) htp
      refine ⟨.ref b, tp, _, .type "tuple", [.type "tuple", .type "list"], true, rfl, upd_same, .cons (.ty _) (.cons (.ty _) .nil), .base (.tup (s1 _ _ h2)), kT, _, rfl, iteT ?_⟩
      refine ⟨_, rfl, by decide, fun tq htq => ?_⟩
      have s2 := s1.trans (new (o := .tup [.ty "tuple", .ty "list"]) htq)
      refine ⟨.ref a, tq, _, .type "tuple", [.type "tuple", .type "list"], true, rfl, upd_same, .cons (.ty _) (.cons (.ty _) .nil), .base (.tup (s2 _ _ h1)), kT, _, rfl, iteF ?_⟩
      refine ⟨_, rfl, .ref a, _, .type "tuple", .type "list", false, rfl, .ty _, .base (.tup (s2 _ _ h1)), kit_ty (by decide +kernel), _, rfl, .ref b, _, .type "tuple", .type "list", false, rfl, .ty _, .base (.tup (s2 _ _ h2)), kit_ty (by decide +kernel), rfl, _, rfl, iteF ?_⟩
      generalize upd (upd H tp (.tup [.ty "tuple", .ty "list"])) tq (.tup [.ty "tuple", .ty "list"]) = H2 at s2
      refine ⟨_, rfl, a, xs, rfl, .inr (SqT.of (s2 _ _ h1)), _, rfl, b, ys, rfl, .inr (SqT.of (s2 _ _ h2)), rfl, false, ?_, iteF ?_⟩
      · have e : (xs.length : Int) = (ys.length : Int) := by rw [lx, ly]
        rw [e, decide_eq_true rfl]
        rfl
      · have hlen : (ys.length : Int).toNat = ys.length := by simp
        have l1000 : ys.length ≤ 1000 := by omega
        refine ⟨_, rfl, b, ys, rfl, .inr (SqT.of (s2 _ _ h2)), (ys.length : Nat), rfl, by omega, by omega, fun D hD => ?_⟩
        refine lc_gather walk_range (fun _ => none) hD (by rw [hlen]; exact Nat.le_trans l1000 (by decide)) (fun _ _ => trivial) (fun i v H3 H4 hi s3 yv R k1 => ?_) fun H3 s3 e3 => ?_
        · obtain ⟨rfl, rfl⟩ := yv
          rw [hlen] at hi
          obtain ⟨y', hy'⟩ : ∃ y', ys[i]? = some y' := ⟨_, List.getElem?_eq_getElem hi⟩
          obtain ⟨x', hx'⟩ : ∃ x', xs[i]? = some x' := ⟨_, List.getElem?_eq_getElem (by omega)⟩
          obtain ⟨e1, he1, st1⟩ := pair_get h4 hx'
          obtain ⟨e2, he2, st2⟩ := pair_get h5 hy'
          rw [he1] at he2
          cases he2
          have s23 := s2.trans s3
          have zi : (0 : Int) + (i : Nat) = (i : Nat) := by omega
          refine ⟨rfl, _, rfl, _, rfl, a, xs, _, x', rfl, rfl, SqT.of (s23 _ _ h1), by rw [zi]; exact atI_nat hx', _, rfl, _, rfl, b, ys, _, y', rfl, rfl, SqT.of (s23 _ _ h2), by rw [zi]; exact atI_nat hy', ?_⟩
          exact ⟨x', y', e1, rfl, st1.same s23, st2.same s23, fun H5 s5 => ⟨_, rfl, iteF (k1 _ s5)⟩⟩
        · have g0 : gather (fun _ => none) ((ys.length : Int).toNat) = [] := by
            unfold gather
            simp
          rw [g0] at e3
          refine ⟨by decide, fun L hL => ?_⟩
          have s4 := new (o := .lst []) hL
          exact ⟨.list [], .list [], .lst (SqL.of (s4 _ _ e3)) .nil, .lst (SqL.of upd_same) .nil, rfl, rfl, kk _ ((s2.trans s3).trans s4)⟩
theorem ok_same {f : Addr} {fd : FuncData} (F : Fun K "_law_same" "_law_same" sSame f fd) (B : Blt mg) (mF : mg "_law_same" = some (.ref f)) (bF : Binds K fd ["_law_result", "_law_expected"] []) : ∀ n, FnOk P w K mg base CX0 (n + 1) f fd ["_law_result", "_law_expected"] (spSame n)
  | 0 => same_step (sp' := fun _ _ _ _ => False) F B mF bF ⟨fun _ _ _ _ h => False.elim h, fun _ _ _ _ _ _ _ _ _ _ _ _ _ h => False.elim h⟩ (.inl rfl)
  | n + 1 => same_step F B mF bF (ok_same F B mF bF n) (.inr ⟨n, rfl, rfl⟩)
end
end Sh1
set_option Elab.async false
set_option linter.all false
set_option maxRecDepth 100000
set_option maxHeartbeats 2000000
/-! list(text). -/
namespace Sho
open PySem PySem.Spec PyProof.Rows L2
def signs (z : Str) : List V := z.cps.toList.map fun c => V.str ⟨#[c]⟩
theorem paired_of {α β : Type} {R : α → β → Prop} : ∀ {as : List α} {bs : List β}, as.length = bs.length → (∀ (i : Nat) (b : β), bs[i]? = some b → ∃ a, as[i]? = some a ∧ R a b) → PySem.Paired R as bs
  | [], [], _, _ => .nil
  | [], _ :: _, h, _ => by simp at h
  | _ :: _, [], h, _ => by simp at h
  | a :: as, b :: bs, h, k => by
    obtain ⟨a', e, r⟩ := k 0 b rfl
    simp at e
    subst e
    exact .cons r (paired_of (by simpa using h) fun i b' e => by
      obtain ⟨a', e2, r2⟩ := k (i + 1) b' (by simpa using e)
      exact ⟨a', by simpa using e2, r2⟩)
theorem vals_signs {z : Str} {acc : Array Value} (h : ItemsOf (SignAt z) acc z.cps.size) : Vals (signs z) acc.toList := by
  refine paired_of ?_ fun i v e => ?_
  · unfold signs
    rw [List.length_map, Array.length_toList, Array.length_toList]
    exact h.1.symm
  · rw [Array.getElem?_toList] at e
    obtain ⟨c, t, hc, rfl⟩ := h.2 i v e
    refine ⟨.str ⟨#[c]⟩, ?_, t, rfl⟩
    unfold signs
    rw [List.getElem?_map, Array.getElem?_toList, hc]
    rfl
theorem call_listStr {X : Cx} (hc : X.calm = true) : CallR X (.type "list") (fun xs H Q => ∃ z : Str, xs = [.str z] ∧ z.length ≤ sizeLine ∧ ∀ l, H l = none → Q (.ref l) (upd H l (.lst (signs z)))) := by
  intro pins s σ H xs us Q I r h
  obtain ⟨z, rfl, hz, q⟩ := h
  obtain ⟨u, rfl, rx⟩ := vals1 r
  obtain ⟨t, rfl⟩ := rx
  refine call_list_str (I.ok.hd hc) z t (fun h' tk acc' c' kp e hi => ?_) hz
  refine ⟨.ref s.heap.objs.size, _, I.laid (t' := tk) kp (Nat.le_refl _) (show ObjOk X.prog X.w _ h' _ (.lst (signs z)) from ⟨?_, acc'.toList, c', vals_signs hi, by simpa using e⟩), rfl, q _ (I.hok.fresh (Nat.le_refl _))⟩
  unfold signs
  rw [List.length_map, Array.length_toList]
  exact hz
end Sho
set_option Elab.async false
set_option linter.all false
set_option maxRecDepth 100000
set_option maxHeartbeats 2000000
namespace Sh1
open PySem L2 Sho NdefX
abbrev sg (c : Nat) : V := .str ⟨#[c]⟩
def l26 : List Nat := (List.range 26).map fun i => 97 + i
theorem signs_l26 : signs (Str.ofString "abcdefghijklmnopqrstuvwxyz") = l26.map sg := by
  have e : (Str.ofString "abcdefghijklmnopqrstuvwxyz").cps.toList = l26 := by decide +kernel
  unfold signs
  rw [e]
structure Rows (high : Int) (xs : List Stay) : Prop where
  nd : (xs.map fun x => x.1).Nodup
  one : ∀ x ∈ xs, ∃ c : Nat, x.1 = ⟨#[c]⟩ ∧ 97 ≤ c ∧ c ≤ 122
  tm : ∀ x ∈ xs, 0 ≤ x.2.1 ∧ x.2.1 < high ∧ x.2.1 < x.2.2 ∧ x.2.2 ≤ x.2.1 + high
theorem StayV.but {l : Addr} {H H' : Hp} {v : V} {x : Stay} {zs : List V} (hl : H l = some (.lst zs)) (s : But l H H') (h : StayV H v x) : StayV H' v x := by
  obtain ⟨t, e, ht⟩ := h
  refine ⟨t, e, s _ _ ht fun z => ?_⟩
  rw [z, hl] at ht
  cases ht
theorem StaysV.but {l : Addr} {H H' : Hp} {zs : List V} (hl : H l = some (.lst zs)) (s : But l H H') : ∀ {vs : List V} {xs : List Stay}, StaysV H vs xs → StaysV H' vs xs
  | _, _, .nil => .nil
  | _, _, .cons h r => .cons (h.but hl s) (StaysV.but hl s r)
theorem DrawSt.at {K : PySem.W.Frag} {H : Hp} {l a : Addr} {ns : List Int} (d : DrawSt K H l a ns) : ∃ zs, H l = some (.lst (V.ref a :: zs)) := by
  obtain ⟨⟨p, s, r, h, _⟩, _, _⟩ := d
  exact ⟨_, h⟩
theorem DrawSt.but {K : PySem.W.Frag} {H H' : Hp} {l a : Addr} {ns : List Int} (d : DrawSt K H l a ns) (h : H' l = H l) (b : But l H H') : DrawSt K H' l a ns := by
  obtain ⟨⟨p, s, r, e, k⟩, sc, len⟩ := d
  exact ⟨⟨p, s, r, h.trans e, k⟩, sql_but e sc b, len⟩
section
variable {P : Program} {w : World} {K : PySem.W.Frag} {mg : Str → Option Value} {base : Heap}
def spRows (K : PySem.W.Frag) : Sp := fun vs H Q _ => ∃ (l a : Addr) (ns : List Int) (most high : Int), vs = [.ref l, .int most, .int high] ∧ DrawSt K H l a ns ∧ 0 ≤ most ∧ most ≤ 25 ∧ 0 < high ∧ high < 1073741824 ∧
  ∀ (H' : Hp) (R : Addr) (ws : List V) (xs : List Stay), But l H H' → DrawSt K H' l a ns → H R = none → H' R = some (.lst ws) → StaysV H' ws xs → (xs.length : Int) ≤ most → Rows high xs → Q (.ref R) H'
theorem scRows : FnScope ["_law_state", "_law_most", "_law_high", "_law_left", "_law_rows_here", "_law_k", "_law_come"] ["_law_state", "_law_most", "_law_high"] (defScope sRows) := ⟨rfl, rfl, rfl, by decide +kernel, rfl, by decide +kernel, by decide +kernel⟩
theorem map_erase {α β : Type} (f : α → β) : ∀ (l : List α) (k : Nat), (l.map f).eraseIdx k = (l.eraseIdx k).map f
  | [], k => by simp
  | x :: l, 0 => rfl
  | x :: l, k + 1 => by simp [map_erase f l k]
theorem seq_nat {j n : Nat} (h : j < n) : seqIndex? (j : Int) n = some j := by
  have e0 : (if (j : Int) < 0 then (j : Int) + n else (j : Int)) = (j : Int) := if_neg (by omega)
  show (if (decide (0 ≤ (if (j : Int) < 0 then (j : Int) + n else (j : Int))) && decide ((if (j : Int) < 0 then (j : Int) + n else (j : Int)) < (n : Int))) = true then some (if (j : Int) < 0 then (j : Int) + n else (j : Int)).toNat else none) = some j
  rw [e0]
  have e : (decide (0 ≤ (j : Int)) && decide ((j : Int) < (n : Int))) = true := by simp; omega
  rw [if_pos e]
  simp
theorem sql_fresh {K : PySem.W.Frag} {H : Hp} {a L : Addr} {xs : List V} (h : SqL K H a xs) (hL : H L = none) : a ≠ L ∨ ∀ H', SqL K H' a xs := by
  rcases h with (h | ⟨o, h⟩) | h
  · exact .inl (ne_of_none h hL)
  · exact .inl (ne_of_none h hL)
  · exact .inr fun _ => .inr h
theorem sql_to {K : PySem.W.Frag} {H H' : Hp} {a L : Addr} {xs : List V} (h : SqL K H a xs) (n : a ≠ L ∨ ∀ H', SqL K H' a xs) (b : But L H H') : SqL K H' a xs := by
  rcases n with n | n
  · rcases h with (h | ⟨o, h⟩) | h
    · exact .inl (.inl (b _ _ h n))
    · exact .inl (.inr ⟨o, b _ _ h n⟩)
    · exact .inr h
  · exact n H'
theorem DrawSt.to {K : PySem.W.Frag} {H H' : Hp} {l a L : Addr} {ns : List Int} (d : DrawSt K H l a ns) (nl : l ≠ L) (n : a ≠ L ∨ ∀ H', SqL K H' a (ns.map V.int)) (b : But L H H') : DrawSt K H' l a ns := by
  obtain ⟨⟨p, s, r, e, k⟩, sc, len⟩ := d
  exact ⟨⟨p, s, r, b _ _ e nl, k⟩, sql_to sc n b, len⟩
theorem but_upd {l : Addr} {H : Hp} {o : HO} : But l H (upd H l o) := fun b u e nb => by rw [upd_ne nb]; exact e
theorem same_upd {p : Addr} {H : Hp} {o : HO} (hp : H p = none) : Same H (upd H p o) := fun b u e => by rw [upd_ne (ne_of_none e hp)]; exact e
theorem DrawSt.same {K : PySem.W.Frag} {H H' : Hp} {l a : Addr} {ns : List Int} (d : DrawSt K H l a ns) (s : Same H H') : DrawSt K H' l a ns := by
  obtain ⟨⟨p, s', r, e, k⟩, sc, len⟩ := d
  exact ⟨⟨p, s', r, s _ _ e, k⟩, s.seq sc, len⟩
theorem Rows.snoc {high : Int} {xs : List Stay} {c : Nat} {a t : Int} (h : Rows high xs) (hc : 97 ≤ c ∧ c ≤ 122) (hx : ∀ x ∈ xs, x.1 ≠ ⟨#[c]⟩) (a0 : 0 ≤ a) (a1 : a < high) (t0 : 0 ≤ t) (t1 : t < high) : Rows high (xs ++ [(⟨#[c]⟩, a, a + 1 + t)]) := by
  refine ⟨?_, fun x hx' => ?_, fun x hx' => ?_⟩
  · rw [List.map_append, List.nodup_append]
    refine ⟨h.nd, by simp, fun z hz y hy e => ?_⟩
    simp at hy
    obtain ⟨x, hx', e2⟩ := List.mem_map.mp hz
    exact hx x hx' (e2.trans (e.trans hy))
  · rcases List.mem_append.mp hx' with q | q
    · exact h.one x q
    · rw [List.mem_singleton] at q
      subst q
      exact ⟨c, rfl, hc.1, hc.2⟩
  · rcases List.mem_append.mp hx' with q | q
    · exact h.tm x q
    · rw [List.mem_singleton] at q
      subst q
      exact ⟨a0, a1, by show a < a + 1 + t; omega, by show a + 1 + t ≤ a + high; omega⟩
theorem one_ne {c d : Nat} (h : c ≠ d) : (⟨#[c]⟩ : Str) ≠ ⟨#[d]⟩ := fun e => by
  injection e with e
  simp at e
  exact h e
/-- between two turns -/
def RowsIn (K : PySem.W.Frag) (H0 : Hp) (l a : Addr) (ns : List Int) (high : Int) (L R : Addr) (i : Nat) (H : Hp) : Prop :=
  ∃ (left : List Nat) (ws : List V) (xs : List Stay), But l H0 H ∧ DrawSt K H l a ns ∧ H L = some (.lst (left.map sg)) ∧ H R = some (.lst ws) ∧ StaysV H ws xs ∧ xs.length = i ∧ left.length + i = 26 ∧ left.Nodup ∧ (∀ c ∈ left, 97 ≤ c ∧ c ≤ 122) ∧
    Rows high xs ∧ ∀ x ∈ xs, ∀ c ∈ left, x.1 ≠ ⟨#[c]⟩
theorem ok_rows {f fD : Addr} {fd fdD : FuncData} (F : Fun K "_law_rows" "_law_rows" sRows f fd) (B : Blt mg)
    (GD : FnOk P w K mg base CX0 1 fD fdD ["_law_state", "_law_count"] (spDrawn K)) (mD : mg "_law_drawn" = some (.ref fD)) (kD : PySem.W.keepIn K (.ref fD) = true) (bD : Binds K fdD ["_law_state", "_law_count"] []) :
    FnOk P w K mg base CX0 2 f fd ["_law_state", "_law_most", "_law_high"] (spRows K) := by
  refine F.ok scRows (fun vs H Q E h => ?_) (fun cdv A outer s H vs Q E hr h => ?_)
  · obtain ⟨l, a, ns, most, high, rfl, _⟩ := h
    rfl
  · obtain ⟨l, a, ns, most, high, rfl, hD, m0, m1, h0, h1, k⟩ := h
    have nd := scRows.nd
    refine ⟨_, pss_cons (ps_set (i := 3) nd rfl (Or.inl rfl) (pe_callTy (call_listStr rfl) (by rfl) B.list (by decide +kernel) (pa_cons pe_str pa_nil)))
      (pss_cons (ps_set (i := 4) nd rfl (Or.inl rfl) (pe_lst pa_nil))
      (pss_cons (ps_for PassesOwn.never rfl (pi_range1 (by rfl) B.range (pa_cons (pe_call GD hr rfl mD kD bD .nil pass0 (pa_cons (pv 0) (pa_cons (pe_op op_add (pv 1) pe_int) pa_nil))) pa_nil)) (pg_name (i := 5) nd rfl (Or.inl rfl))
        (pss_cons (ps_set (i := 6) nd rfl (Or.inl rfl) (pe_call GD hr rfl mD kD bD .nil pass0 (pa_cons (pv 0) (pa_cons (pv 2) pa_nil))))
        (pss_one (ps_expr (pe_bm PySem.F.plainAttrs_list PySem.F.slot_list_append PySem.F.type_list_append mt_append (pv 4) (pa_cons (pe_tup (pa_cons
            (pe_bm PySem.F.plainAttrs_list PySem.F.slot_list_pop PySem.F.type_list_pop mt_popAt (pv 3) (pa_cons (pe_call GD hr rfl mD kD bD .nil pass0 (pa_cons (pv 0) (pa_cons (pe_callB call_len_seq (by rfl) B.len PySem.boot_len (pa_cons (pv 3) pa_nil)) pa_nil))) pa_nil))
            (pa_cons (pv 6) (pa_cons (pe_op op_add (pe_op op_add (pv 6) pe_int) (pe_call GD hr rfl mD kD bD .nil pass0 (pa_cons (pv 0) (pa_cons (pv 2) pa_nil)))) pa_nil)))) pa_nil))))))
      (pss_one (ps_ret (pv 4))))), ?_⟩
    refine ⟨_, rfl, by decide +kernel, fun L hL => ⟨Nat.zero_le _, fun R hR => ?_⟩⟩
    rw [signs_l26] at hR ⊢
    obtain ⟨zs, hl⟩ := hD.at
    have hL0 : H L = none := hL
    have nLR : L ≠ R := fun z => by
      rw [← z, upd_same] at hR
      cases hR
    have hR0 : H R = none := by
      rw [upd_ne (Ne.symm nLR)] at hR
      exact hR
    have nl1 : l ≠ L := ne_of_none hl hL0
    have nl2 : l ≠ R := ne_of_none hl hR0
    have aL := sql_fresh hD.sc hL0
    have aR := sql_fresh hD.sc hR0
    have sm : Same H (upd (upd H L (.lst (l26.map sg))) R (.lst [])) := fun b o e => by
      rw [upd_ne (ne_of_none e hR0), upd_ne (ne_of_none e hL0)]
      exact e
    have hD1 : DrawSt K (upd (upd H L (.lst (l26.map sg))) R (.lst [])) l a ns := hD.but (by rw [upd_ne nl2, upd_ne nl1]) (But.of sm)
    have hL1 : (upd (upd H L (.lst (l26.map sg))) R (.lst [])) L = some (.lst (l26.map sg)) := by rw [upd_ne nLR, upd_same]
    have hR1 : (upd (upd H L (.lst (l26.map sg))) R (.lst [])) R = some (.lst []) := upd_same
    generalize upd (upd H L (.lst (l26.map sg))) R (.lst []) = H1 at *
    refine ⟨_, rfl, _, rfl, _, _, rfl, rfl, l, a, ns, most + 1, rfl, hD1, by omega, by omega, fun r H2 r0 r1 b2 hD2 => ⟨r, rfl, by omega, by omega, ?_⟩⟩
    refine for_it walk_range (fun i σ H2 => ∃ o5 o6, σ = [some (.ref l), some (.int most), some (.int high), some (.ref L), some (.ref R), o5, o6] ∧ RowsIn K H l a ns high L R i H2)
      ⟨none, none, rfl, l26, [], [], (But.of sm).trans b2, hD2, b2 _ _ hL1 (Ne.symm nl1), b2 _ _ hR1 (Ne.symm nl2), .nil, rfl, by decide +kernel, by decide +kernel, by decide +kernel, ⟨List.nodup_nil, by simp, by simp⟩, by simp⟩ (fun _ _ _ _ _ => trivial) ?_ ?_
    · rintro i v σ H3' H3 hi ⟨o5, o6, rfl, left, ws, xs, b3, d3, hL3, hR3, sv3, lx, ll, ln, lr, rows, sep⟩ ⟨rfl, rfl⟩
      have hleft : 0 < left.length := by omega
      have lw : ws.length = i := by rw [pair_len sv3]; exact lx
      -- come
      refine ⟨_, rfl, _, rfl, l, a, ns, high, rfl, d3, h0, h1, fun c H4 c0 c1 b4 d4 => ?_⟩
      obtain ⟨z3, hl3⟩ := d3.at
      have hL4 := b4 _ _ hL3 (Ne.symm nl1)
      have hR4 := b4 _ _ hR3 (Ne.symm nl2)
      have sv4 := sv3.but hl3 b4
      refine ⟨_, rfl, .inl ⟨rfl, _, SqL.of hR4⟩, _, rfl, .inl ⟨rfl, _, SqL.of hL4⟩, _, rfl, _, rfl, L, _, rfl, .inl (SqL.of hL4), ?_⟩
      rw [List.length_map]
      refine ⟨l, a, ns, (left.length : Nat), rfl, d4, by omega, by omega, fun q H5 q0 q1 b5 d5 => ?_⟩
      obtain ⟨z4, hl4⟩ := d4.at
      have hL5 := b5 _ _ hL4 (Ne.symm nl1)
      have hR5 := b5 _ _ hR4 (Ne.symm nl2)
      have sv5 := sv4.but hl4 b5
      obtain ⟨j, rfl⟩ : ∃ j : Nat, q = (j : Int) := ⟨q.toNat, by omega⟩
      have jl : j < left.length := by omega
      obtain ⟨g, hg⟩ : ∃ g, left[j]? = some g := ⟨_, List.getElem?_eq_getElem jl⟩
      have hgm : g ∈ left := List.mem_of_getElem? hg
      refine ⟨L, _, (j : Int), j, sg g, rfl, rfl, hL5, by omega, by omega, ?_, by rw [List.getElem?_map, hg]; rfl, ?_⟩
      · rw [List.length_map]
        exact seq_nat jl
      rw [map_erase]
      have bL : But L H5 (upd H5 L (.lst ((left.eraseIdx j).map sg))) := but_upd
      have sv6 := sv5.but hL5 bL
      have d6 := d5.to nl1 aL bL
      have hR6 := bL _ _ hR5 (Ne.symm nLR)
      have hL6 : (upd H5 L (.lst ((left.eraseIdx j).map sg))) L = some (.lst ((left.eraseIdx j).map sg)) := upd_same
      have b36 : ∀ b o, H3 b = some o → b ≠ l → b ≠ L → (upd H5 L (.lst ((left.eraseIdx j).map sg))) b = some o := fun b o e n1 n2 => bL _ _ (b5 _ _ (b4 _ _ e n1) n1) n2
      generalize upd H5 L (.lst ((left.eraseIdx j).map sg)) = H6 at *
      -- the other items of the tuple
      refine ⟨_, rfl, _, rfl, _, _, rfl, rfl, _, rfl, _, rfl, l, a, ns, high, rfl, d6, h0, h1, fun t H7 t0 t1 b7 d7 => ⟨_, _, rfl, rfl, by show 3 ≤ sizeLine; decide, fun p hp => ?_⟩⟩
      obtain ⟨z6, hl6⟩ := d6.at
      have s8 : Same H7 (upd H7 p (.tup [sg g, .int c, .int (c + 1 + t)])) := same_upd hp
      have hp8 : (upd H7 p (.tup [sg g, .int c, .int (c + 1 + t)])) p = some (.tup [sg g, .int c, .int (c + 1 + t)]) := upd_same
      have hR8 := s8 _ _ (b7 _ _ hR6 (Ne.symm nl2))
      have hL8 := s8 _ _ (b7 _ _ hL6 (Ne.symm nl1))
      have d8 := d7.same s8
      have sv8 := (sv6.but hl6 b7).same s8
      have b38 : ∀ b o, H3 b = some o → b ≠ l → b ≠ L → (upd H7 p (.tup [sg g, .int c, .int (c + 1 + t)])) b = some o := fun b o e n1 n2 => s8 _ _ (b7 _ _ (b36 _ _ e n1 n2) n1)
      generalize upd H7 p (.tup [sg g, .int c, .int (c + 1 + t)]) = H8 at *
      refine ⟨R, ws, _, rfl, rfl, hR8, ?_, ?_⟩
      · rw [lw]
        have : (i : Int) < r := by omega
        exact Nat.lt_of_lt_of_le (show i < 26 by omega) (by decide)
      · have bR : But R H8 (upd H8 R (.lst (ws ++ [.ref p]))) := but_upd
        have np : p ≠ R := fun z => by
          rw [z, hR8] at hp8
          cases hp8
        refine ⟨_, _, rfl, left.eraseIdx j, ws ++ [.ref p], xs ++ [(⟨#[g]⟩, c, c + 1 + t)], fun b o e nb => ?_, d8.to nl2 aR bR, bR _ _ hL8 nLR, upd_same, ?_, by simp [lx], ?_, ln.sublist (List.eraseIdx_sublist ..), fun d hd => lr d ((List.eraseIdx_sublist ..).subset hd), rows.snoc (lr g hgm) (fun x hx => sep x hx g hgm) c0 c1 t0 t1, fun x hx d hd => ?_⟩
        · have n1 : b ≠ L := ne_of_none e hL0
          have n2 : b ≠ R := ne_of_none e hR0
          exact bR _ _ (b38 _ _ (b3 _ _ e nb) nb n1) n2
        · exact paired_append (sv8.but hR8 bR) (.cons ⟨p, rfl, bR _ _ hp8 np⟩ .nil)
        · rw [List.length_eraseIdx, if_pos jl]
          omega
        · have hdl := (List.eraseIdx_sublist left j).subset hd
          rcases List.mem_append.mp hx with q | q
          · exact sep x q d hdl
          · rw [List.mem_singleton] at q
            subst q
            refine one_ne fun z => ?_
            subst z
            obtain ⟨i2, hi2, ne2, e2⟩ := List.mem_eraseIdx_iff_getElem.mp hd
            have e3 := (List.getElem?_eq_some_iff.mp hg).2
            exact ne2 ((List.getElem_inj ln).mp (e2.trans e3.symm))
    · rintro σ H3 ⟨o5, o6, rfl, left, ws, xs, b3, d3, hL3, hR3, sv3, lx, ll, ln, lr, rows, sep⟩
      refine ⟨_, rfl, k H3 R ws xs b3 d3 hR0 hR3 sv3 ?_ rows⟩
      rw [lx]
      omega
end
end Sh1
set_option Elab.async false
set_option linter.all false
set_option maxRecDepth 100000
set_option maxHeartbeats 2000000
set_option autoImplicit false
/-! Numbers of the law of whole lifting. -/
namespace Kb
open PySem L2 Sho NdefX Shg Sh1
theorem crossed_nm (rs : List Rw) : Sh1.crossed rs = (Pq.crossed rs).map fun q => (q.1.nm, q.2.nm) := by
  show (Pq.takers rs).flatMap (fun x => (lifted rs x).map fun y => (x.nm, y.nm)) = ((Pq.takers rs).flatMap fun x => (lifted rs x).map fun y => (x, y)).map fun q => (q.1.nm, q.2.nm)
  rw [List.map_flatMap]
  congr 1
  funext x
  rw [List.map_map]
  rfl
theorem one_taker (f : Rw → List Rw) : ∀ {l : List Rw} {r : Rw}, (l.map Rw.nm).Nodup → r ∈ l → (l.flatMap fun x => (f x).map fun y => (x, y)).filter (fun q => decide (q.1.nm = r.nm)) = (f r).map fun y => (r, y)
  | x :: l, r, nd, h => by
    rw [List.map_cons, List.nodup_cons] at nd
    rw [List.flatMap_cons, List.filter_append]
    have all : ∀ z : Rw, z.nm = r.nm → ((f z).map fun y => (z, y)).filter (fun q => decide (q.1.nm = r.nm)) = (f z).map fun y => (z, y) := fun z e => List.filter_eq_self.mpr fun q hq => by
      obtain ⟨y, _, rfl⟩ := List.mem_map.mp hq
      exact decide_eq_true e
    have non : ∀ z : Rw, z.nm ≠ r.nm → ((f z).map fun y => (z, y)).filter (fun q => decide (q.1.nm = r.nm)) = [] := fun z e => List.filter_eq_nil_iff.mpr fun q hq => by
      obtain ⟨y, _, rfl⟩ := List.mem_map.mp hq
      simp [e]
    rcases List.mem_cons.mp h with rfl | h
    · rw [all _ rfl]
      have : (l.flatMap fun x => (f x).map fun y => (x, y)).filter (fun q => decide (q.1.nm = r.nm)) = [] := List.filter_eq_nil_iff.mpr fun q hq => by
        obtain ⟨z, hz, hq⟩ := List.mem_flatMap.mp hq
        obtain ⟨y, _, rfl⟩ := List.mem_map.mp hq
        have : z.nm ≠ r.nm := fun e => nd.1 (List.mem_map.mpr ⟨z, hz, e⟩)
        simp [this]
      rw [this, List.append_nil]
    · rw [non x fun e => nd.1 (List.mem_map.mpr ⟨r, h, e.symm⟩), List.nil_append]
      exact one_taker f nd.2 h
theorem takers_perm (rs : List Rw) : (Pq.takers rs).Perm rs := by
  unfold Pq.takers
  refine (sortV_perm Rw.go _).trans ((List.reverse_perm _).trans (bot_perm rs))
theorem lifts_of {rs : List Rw} {r : Rw} (nd : (rs.map Rw.nm).Nodup) (h : r ∈ rs) : (Pq.crossed rs).filter (fun q => decide (q.1.nm = r.nm)) = (lifted rs r).map fun y => (r, y) :=
  one_taker (lifted rs) ((takers_perm rs).map Rw.nm |>.nodup_iff.mpr nd) ((takers_perm rs).mem_iff.mpr h)
/-- between two ticks the pile stays -/
theorem pile_same {rs : List Rw} {t t0 : Int} (h0 : t0 ≤ t) (h : ∀ k, (∃ r ∈ rs, r.come = k ∨ r.go = k) → k ≤ t → k ≤ t0) : Pq.pileOf rs t = Pq.pileOf rs t0 := by
  unfold Pq.pileOf
  refine List.filter_congr fun r hr => ?_
  have hr : r ∈ rs := bot_mem.mp hr
  have h1 := h r.come ⟨r, hr, .inl rfl⟩
  have h2 := h r.go ⟨r, hr, .inr rfl⟩
  have e1 : decide (r.come ≤ t) = decide (r.come ≤ t0) := decide_eq_decide.mpr ⟨h1, fun z => by omega⟩
  have e2 : decide (t < r.go) = decide (t0 < r.go) := decide_eq_decide.mpr ⟨fun z => by omega, fun z => Int.lt_of_not_ge fun y => by have := h2 y; omega⟩
  rw [e1, e2]
theorem pile_none {rs : List Rw} {t : Int} (h : ∀ k, (∃ r ∈ rs, r.come = k ∨ r.go = k) → ¬ k ≤ t) : Pq.pileOf rs t = [] := by
  unfold Pq.pileOf
  refine List.filter_eq_nil_iff.mpr fun r hr => ?_
  have := h r.come ⟨r, bot_mem.mp hr, .inl rfl⟩
  simp [this]
theorem last_le {l : List Int} {t : Int} (hs : l.Pairwise (· < ·)) : ∀ k ∈ l.filter (fun k => decide (k ≤ t)), ∀ z, (l.filter fun k => decide (k ≤ t)).getLast? = some z → k ≤ z := by
  intro k hk z hz
  have hs' := hs.filter (p := fun k => decide (k ≤ t))
  generalize l.filter (fun k => decide (k ≤ t)) = m at hk hz hs'
  clear hs
  induction m with
  | nil => cases hk
  | cons x m ih =>
    cases m with
    | nil =>
      have : z = x := by simpa using hz.symm
      have : k = x := by simpa using hk
      omega
    | cons y m =>
      rw [List.getLast?_cons_cons] at hz
      rw [List.pairwise_cons] at hs'
      rcases List.mem_cons.mp hk with rfl | hk
      · exact Int.le_of_lt (hs'.1 z (List.mem_of_getLast? hz))
      · exact ih hk hz hs'.2
theorem rows_ok {high : Int} {xs : List Stay} (h : Rows high xs) (len : xs.length ≤ 24) (h0 : high ≤ 100000000) : Valid xs ∧ Short xs := by
  have one : ∀ x ∈ xs, (x.1.length ≤ 100000 ∧ x.1.cps.all (· < 0x110000) = true) ∧ okName x.1 = true := fun x hx => by
    obtain ⟨c, e, c0, c1⟩ := h.one x hx
    rw [e]
    refine ⟨⟨by show 1 ≤ 100000; decide, ?_⟩, ?_⟩
    · show (#[c].all fun x => decide (x < 0x110000)) = true
      simp
      omega
    · have l1 : ({ cps := #[c] } : Str).length = 1 := rfl
      unfold okName letter
      rw [l1]
      simp
      omega
  refine ⟨⟨by omega, h.nd, fun x hx => ?_⟩, fun x hx => (one x hx).1⟩
  obtain ⟨t0, t1, t2, t3⟩ := h.tm x hx
  have t4 := (one x hx).2
  unfold okStay okTick
  simp only [Bool.and_eq_true, decide_eq_true_eq]
  exact ⟨t4, by omega⟩
theorem guest_me : ∀ {xs : List Stay} {x : Stay}, (xs.map fun y => y.1).Nodup → x ∈ xs → guest xs x.1 = some x
  | y :: ys, x, nd, h => by
    rw [List.map_cons, List.nodup_cons] at nd
    unfold guest
    rcases List.mem_cons.mp h with e | h'
    · rw [List.find?_cons, e]
      simp
    · have ih := guest_me nd.2 h'
      unfold guest at ih
      have ne : (y.1 == x.1) = false := by
        rw [Bool.eq_false_iff]
        intro q
        exact nd.1 (List.mem_map.mpr ⟨x, h', (eq_of_beq q).symm⟩)
      rw [List.find?_cons, ne]
      exact ih
theorem nm_nodup {xs : List Stay} (h : (xs.map fun x => x.1).Nodup) : ((xs.map rw3).map Rw.nm).Nodup := by
  rw [List.map_map]
  exact h
theorem rw_nodup {xs : List Stay} (h : (xs.map fun x => x.1).Nodup) : (xs.map rw3).Nodup := by
  have := nm_nodup h
  exact (List.pairwise_map.mp this).imp fun h e => h (congrArg _ e)
end Kb
set_option Elab.async false
set_option linter.all false
set_option maxRecDepth 100000
set_option maxHeartbeats 8000000
set_option autoImplicit false
/-! _law_cross: whose stays cross whose, by playing. -/
namespace Ck
open PySem L2 Sho NdefX Shg Sh1 Gq
open Kb (crossed_nm takers_perm rw_nodup)
abbrev NLc : List Str := ["_law_rows_here", "_law_near", "_law_one", "_law_other", "_law_row"]
abbrev nvS : Rw → V := fun r => .str r.nm
theorem play_of {H : Hp} : ∀ {ws : List V} {xs : List Stay}, StaysV H ws xs → PySem.Paired (Pq.PlayAt nvS H) ws (xs.map rw3)
  | _, _, .nil => .nil
  | _, _, .cons ⟨t, e, h⟩ r => .cons ⟨t, e, h⟩ (play_of r)
theorem merge_new : ∀ (l acc : List (Key × V)), ((acc ++ l).map fun kv => kv.1).Nodup → mergeK acc l = acc ++ l
  | [], acc, _ => (List.append_nil acc).symm
  | kv :: l, acc, h => by
    have fresh : valV acc kv.1 = none := val_none fun x hx e => by
      rw [List.map_append, List.nodup_append] at h
      exact h.2.2 _ (List.mem_map.mpr ⟨x, hx, rfl⟩) _ (List.mem_map.mpr ⟨kv, List.mem_cons_self, rfl⟩) e
    show mergeK (putK acc kv.1 kv.2) l = _
    rw [putK_new _ fresh, merge_new l (acc ++ [(kv.1, kv.2)]) (by rw [List.append_assoc]; exact h), List.append_assoc]
    rfl
section
variable {P : Program} {w : World} {K : PySem.W.Frag} {mg : Str → Option Value} {base : Heap}
def spLawNear (K : PySem.W.Frag) : Sp := fun vs H Q _ => ∃ (R : Addr) (ws : List V) (xs : List Stay), vs = [.ref R] ∧ SqL K H R ws ∧ StaysV H ws xs ∧ xs.length ≤ 100 ∧ (∀ x ∈ xs, x.2.1 < x.2.2) ∧ (xs.map fun x => x.1).Nodup ∧
  ∀ (D : Addr) (kvs : List (Key × V)) H', Same H H' → H' D = some (.dK kvs) → NearK H' kvs (xs.map fun x => x.1) (nearOf (crossed (xs.map rw3))) → Q (.ref D) H'
theorem scLc : FnScope NLc ["_law_rows_here"] (defScope sLawCross) := ⟨rfl, rfl, rfl, by decide +kernel, rfl, by decide +kernel, by decide +kernel⟩
theorem ok_lawNear {f fY : Addr} {fd fdY : FuncData} (F : Fun K "_law_cross" "_law_cross" sLawCross f fd) (B : Shg.Blt mg) (GY : FnOk P w K mg base CX0 1 fY fdY ["_law_rows_here"] (Pq.spPlayed K)) (mY : mg "_law_played" = some (.ref fY)) (kY : PySem.W.keepIn K (.ref fY) = true) (bY : Binds K fdY ["_law_rows_here"] []) :
    FnOk P w K mg base CX0 2 f fd ["_law_rows_here"] (spLawNear K) := by
  refine F.ok scLc (fun vs H Q E h => ?_) (fun cdv A outer s H vs Q E hr h => ?_)
  · obtain ⟨R, ws, xs, rfl, _⟩ := h
    rfl
  obtain ⟨R, ws, xs, rfl, hR, sv, hl, hv, nm, k⟩ := h
  have nd := scLc.nd
  refine ⟨_, pss_cons (ps_set (i := 1) nd rfl (Or.inl rfl) (pe_callTy (call_dictP rfl) (by rfl) B.dict (by decide +kernel) (pa_cons (pe_lc (own := [("_law_row", 4)]) (g := gName 4) (tt := tYes) (te := tTup (tCons (tOp (rIxT K) (tVar 4) (tC (.int 0))) (tCons (tLst tNil) tNil))) rfl nd (pi_list (pv 0)) (blkOk_by (own := [("_law_row", 4)]) (N := NLc) (sc := defScope sLawCross) (by decide +kernel))
        (fun _ _ _ _ _ => pg_name (i := 4) nd rfl (Or.inl rfl)) (fun _ _ _ _ _ => pts_nil) (fun _ _ _ _ _ => pe_tup (pa_cons (pe_ix ix_tup (pv 4) pe_int (fun _ _ => rfl)) (pa_cons (pe_lst pa_nil) pa_nil)))) pa_nil)))
    (pss_cons (ps_for PassesOwn.never rfl (pi_list (pe_ix ix_tup (pe_call GY (hr.mono (by decide)) rfl mY kY bY .nil pass0 (pa_cons (pv 0) pa_nil)) pe_int (fun _ _ => rfl))) (pg_tup rfl (pgs_cons (pg_name (i := 2) nd rfl (Or.inl rfl)) (pgs_cons (pg_name (i := 3) nd rfl (Or.inl rfl)) pgs_nil)))
      (pss_cons (ps_expr (pe_bm PySem.F.plainAttrs_list PySem.F.slot_list_append PySem.F.type_list_append mt_append (pe_dget (units1 hr) (pv 1) (pv 2) (fun _ _ => rfl)) (pa_cons (pv 3) pa_nil)))
        (pss_one (ps_expr (pe_bm PySem.F.plainAttrs_list PySem.F.slot_list_append PySem.F.type_list_append mt_append (pe_dget (units1 hr) (pv 1) (pv 3) (fun _ _ => rfl)) (pa_cons (pv 2) pa_nil))))))
      (pss_one (ps_ret (pv 1)))), ?_⟩
  have lw := Shg.pair_len sv
  -- an empty list for each
  refine asg_rel (fun v H' => ∃ (D : Addr) (kvs : List (Key × V)), v = .ref D ∧ Same H H' ∧ H' D = some (.dK kvs) ∧ PySem.Paired (fun (kv : Key × V) (n : Str) => kv.1 = .inr n ∧ ∃ a, kv.2 = .ref a ∧ H' a = some (.lst []) ∧ H a = none) kvs (xs.map fun x => x.1) ∧ (kvs.map fun kv => kv.2).Nodup) (fun R0 h0 => ?_) fun vD HD hD => ?_
  · refine ⟨_, rfl, R, rfl, ⟨_, hR⟩, fun D0 nD0 => ?_⟩
    refine loop_any (walk_list (K := K) (a := R) (xs := ws)) (fun j H' => ∃ (ps : List Addr) (kvs : List (Key × V)), Same H H' ∧ H' D0 = some (.lst (ps.map V.ref)) ∧ PySem.Paired (fun (q : Addr) (kv : Key × V) => H' q = some (.tup [kV kv.1, kv.2])) ps kvs ∧ PySem.Paired (fun (kv : Key × V) (n : Str) => kv.1 = .inr n ∧ ∃ a, kv.2 = .ref a ∧ a ≠ D0 ∧ H' a = some (.lst []) ∧ H a = none) kvs ((xs.map fun x => x.1).take j) ∧ (kvs.map fun kv => kv.2).Nodup)
      ⟨[], [], Shg.same_upd nD0, upd_same, .nil, .nil, List.nodup_nil⟩ (fun j H' _ q => by
        obtain ⟨_, _, s, _⟩ := q
        exact Dw.sql_e (LamX.ExtN.of s) hR) (fun j v H4 H5 hj q yy => ?_) fun H4 q => ?_
    · obtain ⟨ps, kvs, s4, e4, r4, n4, d4⟩ := q
      obtain ⟨rfl, e2⟩ := yy
      obtain ⟨x, hx, t, rfl, ht⟩ := Shg.pair_get sv e2
      have lk := Shg.pair_len n4
      have lp := Shg.pair_len r4
      refine ⟨rfl, _, rfl, t, _, 0, .str x.1, rfl, rfl, SqT.of (s4 _ _ ht), atI_nat (j := 0) rfl, Nat.zero_le _, fun a ha => ⟨by show 2 ≤ sizeLine; decide, fun q hq => ?_⟩⟩
      have s5 := Shg.same_upd (o := .lst []) ha
      have ea : upd H5 a (.lst []) a = some (.lst []) := upd_same
      have s6 := Shg.same_upd (o := .tup [.str x.1, .ref a]) hq
      have eq6 : upd (upd H5 a (.lst [])) q (.tup [.str x.1, .ref a]) q = some (.tup [.str x.1, .ref a]) := upd_same
      have e6 := s6 _ _ (s5 _ _ e4)
      have ea6 := s6 _ _ ea
      have aD : a ≠ D0 := fun z => by rw [z, e4] at ha; cases ha
      have s46 := s5.trans s6
      generalize upd (upd H5 a (.lst [])) q (.tup [.str x.1, .ref a]) = H6 at s6 eq6 e6 ea6 s46 ⊢
      have kp : ∀ b o, H6 b = some o → b ≠ D0 → upd H6 D0 (.lst ((ps.map V.ref) ++ [.ref q])) b = some o := fun b o e n => by rw [upd_ne n]; exact e
      refine ⟨_, e6, ?_, ps ++ [q], kvs ++ [(.inr x.1, .ref a)], fun b u e => ?_, ?_, ?_, ?_, ?_⟩
      · rw [List.length_map, lp, lk, List.length_take, List.length_map]
        have : 1000 < sizeLine := by decide
        omega
      · rw [upd_ne (ne_of_none e nD0)]
        exact (s4.trans s46) b u e
      · rw [upd_same, List.map_append]
        rfl
      · refine Shg.pair_app (Shg.pair_mono (fun p kv e => kp _ _ (s46 _ _ e) fun z => ?_) r4) (.cons (kp _ _ eq6 fun z => ?_) .nil)
        · rw [z, e4] at e; cases e
        · rw [z, e6] at eq6; cases eq6
      · rw [List.take_succ, List.getElem?_map, hx]
        exact Shg.pair_app (Shg.pair_mono (fun kv n ⟨e1, a', e2, e3, e4, e5⟩ => ⟨e1, a', e2, e3, kp _ _ (s46 _ _ e4) e3, e5⟩) n4) (.cons ⟨rfl, a, rfl, aD, kp _ _ ea6 aD, none_back s4 ha⟩ .nil)
      · rw [List.map_append, List.nodup_append]
        refine ⟨d4, by simp, fun u hu z hz e => ?_⟩
        rw [List.mem_singleton.mp hz] at e
        subst e
        obtain ⟨kv, hkv, e⟩ := List.mem_map.mp hu
        obtain ⟨i, hi⟩ := List.getElem?_of_mem hkv
        obtain ⟨n, hn, _, a', e1, _, e2, _⟩ := Shg.pair_get n4 hi
        rw [e] at e1
        rw [← V.ref.inj e1, ha] at e2
        cases e2
    · obtain ⟨ps, kvs, s4, e4, r4, n4, d4⟩ := q
      rw [List.take_of_length_le (by rw [List.length_map, lw]; exact Nat.le_refl _)] at n4
      refine ⟨D0, ps, kvs, rfl, SqL.of e4, Shg.pair_mono (fun p kv e => SqT.of e) r4, fun D nD => ?_⟩
      have s5 := Shg.same_upd (o := .dK (mergeK [] kvs)) nD
      have e5 : upd H4 D (.dK (mergeK [] kvs)) D = some (.dK kvs) := by
        rw [upd_same, merge_new kvs [] ?_]
        · rfl
        · rw [List.nil_append]
          have ek : kvs.map (fun kv => kv.1) = (xs.map fun x => x.1).map Sum.inr := by
            clear e4 r4 s5 d4
            generalize (xs.map fun x => x.1) = ns at n4
            induction n4 with
            | nil => rfl
            | cons h t ih => rw [List.map_cons, List.map_cons, ih, h.1]
          rw [ek]
          exact List.pairwise_map.mpr (nm.imp fun h e => h (Sum.inr.inj e))
      exact h0 _ _ ⟨D, kvs, rfl, s4.trans s5, e5, Shg.pair_mono (fun kv n ⟨e1, a, e2, _, e3, e4⟩ => ⟨e1, a, e2, s5 _ _ e3, e4⟩) n4, d4⟩
  obtain ⟨D, kvs, rfl, sD, eD, rD, nD⟩ := hD
  have svD : StaysV HD ws xs := Shg.pair_mono (fun _ _ ⟨t, q, ht⟩ => ⟨t, q, sD _ _ ht⟩) sv
  refine ⟨_, rfl, R, ws, xs.map rw3, nvS, rfl, Dw.sql_e (LamX.ExtN.of sD) hR, play_of svD, by rw [List.length_map]; exact hl, ?_, rw_nodup nm, fun t L D2 out kvs2 ts H1 s1 et eL o1 _ _ _ _ => ?_⟩
  · intro r hr'
    obtain ⟨x, hx, rfl⟩ := List.mem_map.mp hr'
    exact hv x hx
  have eD1 := s1 _ _ eD
  have rD1 : PySem.Paired (fun (kv : Key × V) (n : Str) => kv.1 = .inr n ∧ ∃ a, kv.2 = .ref a ∧ H1 a = some (.lst []) ∧ H a = none) kvs (xs.map fun x => x.1) := Shg.pair_mono (fun kv n ⟨e1, a, e2, e3, e4⟩ => ⟨e1, a, e2, s1 _ _ e3, e4⟩) rD
  have lo := Shg.pair_len o1
  -- all that was there stays, but the lists
  have mEm : ∀ kv ∈ kvs, ∀ a, kv.2 = V.ref a → H1 a = some (.lst []) ∧ H a = none := fun kv hkv a e => by
    obtain ⟨i, hi⟩ := List.getElem?_of_mem hkv
    obtain ⟨n, hn, _, a', e1, e2, e3⟩ := Shg.pair_get rD1 hi
    rw [e] at e1
    rw [V.ref.inj e1]
    exact ⟨e2, e3⟩
  refine ⟨t, _, 0, .ref L, rfl, rfl, SqT.of et, atI_nat (j := 0) rfl, L, rfl, ⟨_, SqL.of eL⟩, for_it (walk_list (K := K) (a := L) (xs := out)) (fun j σ H' => (∃ o2 o3 o4, σ = [some (.ref R), some (.ref D), o2, o3, o4]) ∧ (∀ b o, H1 b = some o → (∀ kv ∈ kvs, kv.2 ≠ .ref b) → H' b = some o) ∧ H' L = some (.lst out) ∧ NearK H' kvs (xs.map fun x => x.1) (nearOf (((Pq.crossed (xs.map rw3)).take j).map fun q => (q.1.nm, q.2.nm))))
    ⟨⟨_, _, _, rfl⟩, fun b o e _ => e, eL, Shg.pair_mono (fun kv n ⟨e1, a, e2, e3, _⟩ => ⟨e1, a, e2, e3⟩) rD1⟩ (fun j σ H' _ z => SqL.of z.2.2.1) ?_ ?_⟩
  · rintro j y σ H3 H2 hj ⟨⟨o2, o3, o4, rfl⟩, kp, eL2, nk⟩ ⟨rfl, e2⟩
    obtain ⟨q, hq, tq, rfl, htq⟩ := Shg.pair_get o1 e2
    have nt : ∀ {b : Addr} {o : HO}, H1 b = some o → o ≠ .lst [] → ∀ kv ∈ kvs, kv.2 ≠ .ref b := fun {b o} h n kv hkv e => by
      have := (mEm kv hkv b e).1
      rw [h] at this
      exact n (Option.some.inj this)
    have htq2 := kp _ _ htq (nt htq fun z => nomatch z)
    have eD2 := kp _ _ eD1 (nt eD1 fun z => nomatch z)
    have nL : ∀ kv ∈ kvs, kv.2 ≠ .ref L := nt eL fun z => by
      have := HO.lst.inj z
      rw [this] at e2
      cases e2
    refine ⟨tq, _, rfl, SqT.of htq2, rfl, _, _, rfl, _, _, rfl, rfl, ?_⟩
    have mem : q.1.nm ∈ (xs.map fun x => x.1) ∧ q.2.nm ∈ (xs.map fun x => x.1) := by
      have h1 := List.mem_of_getElem? hq
      unfold Pq.crossed at h1
      obtain ⟨r, hr', h2⟩ := List.mem_flatMap.mp h1
      obtain ⟨r2, hr2, rfl⟩ := List.mem_map.mp h2
      obtain ⟨x, hx, rfl⟩ := List.mem_map.mp (Pq.takers_mem hr')
      obtain ⟨y, hy, rfl⟩ := List.mem_map.mp (lifted_mem hr2)
      exact ⟨List.mem_map.mpr ⟨x, hx, rfl⟩, List.mem_map.mpr ⟨y, hy, rfl⟩⟩
    generalize hps : ((Pq.crossed (xs.map rw3)).take j).map (fun q => (q.1.nm, q.2.nm)) = ps at nk
    have et2 : ((Pq.crossed (xs.map rw3)).take (j + 1)).map (fun q => (q.1.nm, q.2.nm)) = ps ++ [(q.1.nm, q.2.nm)] := by
      rw [List.take_succ, hq, List.map_append, hps]
      rfl
    have few : ∀ n, (nearOf ps n).length + 2 < sizeLine := fun n => by
      have h1 : (nearOf ps n).length ≤ ps.length * 2 := flat_le (f := fun q : Str × Str => (if q.1 = n then [q.2] else []) ++ (if q.2 = n then [q.1] else [])) (n := 2) (fun q => by
        rw [List.length_append]
        have e1 : ((if q.1 = n then [q.2] else [] : List Str)).length ≤ 1 := by split <;> simp
        have e2 : ((if q.2 = n then [q.1] else [] : List Str)).length ≤ 1 := by split <;> simp
        omega) ps
      have h3 := flat_le (f := fun x : Rw => (lifted (xs.map rw3) x).map fun y => (x, y)) (n := 100) (fun x => by
        rw [List.length_map]
        exact Nat.le_trans (lifted_len _ x) (by rw [List.length_map]; exact hl)) (Pq.takers (xs.map rw3))
      have h4 : (Pq.crossed (xs.map rw3)).length ≤ (Pq.takers (xs.map rw3)).length * 100 := h3
      have h6 : (Pq.takers (xs.map rw3)).length = xs.length := by rw [(takers_perm _).length_eq, List.length_map]
      have h5 : 30000 < sizeLine := by decide
      have h7 : ps.length ≤ (Pq.crossed (xs.map rw3)).length := by rw [← hps, List.length_map, List.length_take]; exact Nat.min_le_right _ _
      rw [h6] at h4
      omega
    obtain ⟨a1, i1, kv1, c1, c2, c3, c4, c5⟩ := near_get nk mem.1
    refine ⟨_, rfl, _, rfl, D, .ref a1, rfl, ?_, .inl ⟨rfl, _, SqL.of c5⟩, _, rfl, a1, _, _, rfl, rfl, c5, ?_, ?_⟩
    · rw [← c4]
      exact DGet.k (k := Sum.inr q.1.nm) eD2
    · rw [List.length_map]
      have := few q.1.nm
      omega
    have nk3 := near_upd nk nD nm c1 c2 c3 (z := q.2.nm)
    have k3 : ∀ b o, H2 b = some o → (∀ kv ∈ kvs, kv.2 ≠ .ref b) → upd H2 a1 (.lst ((nearOf ps q.1.nm).map V.str ++ [.str q.2.nm])) b = some o := fun b o e n => by
      rw [upd_ne fun z => n kv1 (List.mem_of_getElem? c1) (by rw [z]; exact c3)]
      exact e
    have eD3 := k3 _ _ eD2 (nt eD1 fun z => nomatch z)
    generalize upd H2 a1 (.lst ((nearOf ps q.1.nm).map V.str ++ [.str q.2.nm])) = H4 at nk3 k3 eD3 ⊢
    obtain ⟨a2, i2, kv2, d1, d2, d3, d4, d5⟩ := near_get nk3 mem.2
    refine ⟨_, rfl, _, rfl, D, .ref a2, rfl, ?_, .inl ⟨rfl, _, SqL.of d5⟩, _, rfl, a2, _, _, rfl, rfl, d5, ?_, ?_⟩
    · rw [← d4]
      exact DGet.k (k := Sum.inr q.2.nm) eD3
    · rw [List.length_map]
      have := few q.2.nm
      show ((nearOf ps q.2.nm) ++ _).length < _
      rw [List.length_append]
      have : ((if q.1.nm = q.2.nm then [q.2.nm] else [] : List Str)).length ≤ 1 := by split <;> simp
      omega
    have nk4 := near_upd nk3 nD nm d1 d2 d3 (z := q.1.nm)
    have ef : (fun n => (nearOf ps n ++ if q.1.nm = n then [q.2.nm] else []) ++ if q.2.nm = n then [q.1.nm] else []) = nearOf (ps ++ [(q.1.nm, q.2.nm)]) := by
      funext n
      unfold nearOf
      rw [List.flatMap_append, List.flatMap_cons, List.flatMap_nil, List.append_nil, List.append_assoc]
    have nk5 : NearK _ kvs (xs.map fun x => x.1) _ := nk4
    rw [ef, ← et2] at nk5
    have k4 : ∀ b o, H4 b = some o → (∀ kv ∈ kvs, kv.2 ≠ .ref b) → upd H4 a2 (.lst ((nearOf ps q.2.nm ++ if q.1.nm = q.2.nm then [q.2.nm] else []).map V.str ++ [.str q.1.nm])) b = some o := fun b o e n => by
      rw [upd_ne fun z => n kv2 (List.mem_of_getElem? d1) (by rw [z]; exact d3)]
      exact e
    exact ⟨⟨_, _, _, rfl⟩, fun b o e n => k4 _ _ (k3 _ _ (kp b o e n) n) n, k4 _ _ (k3 _ _ eL2 nL) nL, nk5⟩
  · rintro σ H2 ⟨⟨o2, o3, o4, rfl⟩, kp, eL2, nk⟩
    rw [lo, List.take_length, ← crossed_nm] at nk
    have old : ∀ {b : Addr} {o : HO}, H b = some o → ∀ kv ∈ kvs, kv.2 ≠ .ref b := fun {b o} h kv hkv e => by
      have := (mEm kv hkv b e).2
      rw [h] at this
      cases this
    refine ⟨_, rfl, k D kvs H2 (fun b o e => kp b o (s1 _ _ (sD _ _ e)) (old e)) (kp _ _ eD1 fun kv hkv e => ?_) nk⟩
    have := (mEm kv hkv D e).1
    rw [eD1] at this
    cases this
end
end Ck
set_option Elab.async false
set_option linter.all false
set_option maxRecDepth 100000
set_option maxHeartbeats 4000000
/-! set(list of texts), sorted(that set). -/
namespace Shg
open PySem PySem.Spec PyProof.Rows L2
/-- the text that an element is -/
def txE (e : Int × Value) : Str := match e.2 with | .str x _ => x | _ => ⟨#[]⟩
def TxtE (w : World) (e : Int × Value) : Prop := ∃ x tk, e.2 = Value.str x tk ∧ e.1 = hashStr w x
/-- the set of texts at a; it can be walked -/
def SetX (w : World) (hp : Heap) (a : Addr) (M : Str → Bool) (n : Nat) : Prop :=
  ∃ o es ep t, hp.get? a = some o ∧ o.ExactSet ∧ o.data = .set es ep t ∧ (∀ e ∈ es.toList, TxtE w e) ∧ (es.toList.map txE).Nodup ∧ (∀ k, M k = true ↔ k ∈ es.toList.map txE) ∧
    es.size < scanBound ∧ t.fits es.size = true ∧ es.size = n ∧ Ris t.place.toList ∧ (w.params.followText "set-order" = true ∨ t.led = true)
section
variable {P : Program} {w : World} {hp hp' : Heap} {a : Addr} {M : Str → Bool} {n : Nat}
theorem SetX.keep (R : SetX w hp a M n) (k : ∀ o, hp.get? a = some o → hp'.get? a = some o) : SetX w hp' a M n := by
  obtain ⟨o, es, ep, t, ho, q⟩ := R
  exact ⟨o, es, ep, t, k o ho, q⟩
theorem SetX.as {M' : Str → Bool} (R : SetX w hp a M n) (e : ∀ k, M' k = M k) : SetX w hp a M' n := by
  obtain rfl : M' = M := funext e
  exact R
theorem txt_elems {l : List (Int × Value)} (g : ∀ e ∈ l, TxtE w e) : ElemsOf (strKind P w) l := fun e he => by
  obtain ⟨x, tk, q1, q2⟩ := g e he
  exact ⟨⟨x, (by rw [q1]; exact strKind_is P w x tk), q2⟩, (by rw [q1]; rfl)⟩
theorem txt_is {e : Int × Value} (g : TxtE w e) (k : Str) : (strKind P w).is k e.2 = true ↔ txE e = k := by
  obtain ⟨x, tk, q1, _⟩ := g
  unfold txE
  rw [q1]
  constructor
  · intro h
    exact (strKind P w).inj (.str x tk) x k (strKind_is P w x tk) h
  · intro h
    have h : x = k := h
    rw [← h]
    exact strKind_is P w x tk
theorem txt_mem {l : List (Int × Value)} (g : ∀ e ∈ l, TxtE w e) (k : Str) : k ∈ l.map txE ↔ ∃ e ∈ l, (strKind P w).is k e.2 = true := by
  rw [List.mem_map]
  exact ⟨fun ⟨e, he, q⟩ => ⟨e, he, (txt_is (g e he) k).mpr q⟩, fun ⟨e, he, q⟩ => ⟨e, he, (txt_is (g e he) k).mp q⟩⟩
end
section
variable {P : Program} {w : World} {A : Around} {E : Value → Shared → Prop} {s : Shared} {a : Addr} {M : Str → Bool} {n : Nat}
theorem setX_tail {gw : Bool → Sem Unit} (free : ∀ (b : Bool) (s1 : Shared) (R : Unit → Shared → Prop), R () s1 → wpAny (model P w) A (gw b) R E s1)
    {o : Obj} {es es1 : Array (Int × Value)} {ep : Nat} {t t2 : SetTable} {M1 : Str → Bool} (ho : s.heap.get? a = some o) (hex : o.ExactSet) (hd : o.data = .set es ep t)
    (g1 : ∀ e ∈ es1.toList, TxtE w e) (nd1 : (es1.toList.map txE).Nodup) (mem1 : ∀ k, M1 k = true ↔ k ∈ es1.toList.map txE) (few : es1.size < scanBound) (fit : t2.fits es1.size = true) (rs : Ris t2.place.toList)
    (led : w.params.followText "set-order" = true ∨ t2.led = true) {dm : Bool} {R : Option Bool → Shared → Prop} (fin : ∀ hp, Heap.SameBut a s.heap hp → SetX w hp a M1 es1.size → R (some true) { s with heap := hp }) :
    wpAny (model P w) A (do
        storeSet a es1 t2
        if (!dm && t2.tooFull) = true then do
            gw (relayAll t2 es1 (SetTable.grown es1.size)).2.2
            storeSet a (relayAll t2 es1 (SetTable.grown es1.size)).1 (relayAll t2 es1 (SetTable.grown es1.size)).2.1
            pure (some true)
          else pure (some true)) R E s := by
  have at1 := L2.store_at (es' := es1) (t' := t2) ho hd
  have but1 := Heap.SameBut.update s.heap a (Obj.putSet es1 t2)
  refine wpAny_bind (wpAny_storeSet_of ho hd ?_ (fits_of_scanBound few))
  by_cases full : (!dm && t2.tooFull) = true
  · rw [if_pos full]
    have p1 := relayAll_perm t2 es1 (SetTable.grown es1.size)
    have p2 := relayAll_fits t2 es1 (SetTable.grown es1.size)
    have p3 := relayAll_ris t2 es1 (SetTable.grown es1.size)
    have p4 := relayAll_led t2 es1 (SetTable.grown es1.size)
    revert p1 p2 p3 p4
    generalize relayAll t2 es1 (SetTable.grown es1.size) = Z
    obtain ⟨es2, t3, gave⟩ := Z
    intro p1 p2 p3 p4
    dsimp only at p1 p2 p3 p4 ⊢
    have same : es2.size = es1.size := by rw [← Array.length_toList, p1.length_eq, Array.length_toList]
    have few2 : es2.size < scanBound := by rw [same]; exact few
    refine wpAny_bind (free _ _ _ (wpAny_bind (wpAny_storeSet_of at1 rfl ?_ (fits_of_scanBound few2))))
    have at2 := L2.store_at (es' := es2) (t' := t3) at1 rfl
    exact wpAny_pure (fin _ (but1.trans (Heap.SameBut.update _ a _)) ⟨_, es2, _, t3, at2, hex, rfl, fun e he => g1 e (p1.mem_iff.mp he), (p1.map txE).nodup_iff.mpr nd1, fun k => (mem1 k).trans (p1.map txE).mem_iff.symm, few2, p2, same, p3, led.imp id fun z => p4.trans z⟩)
  · rw [if_neg full]
    exact wpAny_pure (fin _ but1 ⟨_, es1, _, t2, at1, hex, rfl, g1, nd1, mem1, few, fit, rfl, rs, led⟩)
theorem setX_add {x : Str} {tk : Tok} {Q : Bool → Shared → Prop} (R : SetX w s.heap a M n) (room : n + 1 < scanBound)
    (fin : ∀ hp, Heap.SameBut a s.heap hp → SetX w hp a (fun j => M j || decide (j = x)) (if M x = true then n else n + 1) → Q (!M x) { s with heap := hp }) :
    wpAny (model P w) A (setAddHashed a (.str x tk) ((strKind P w).hash x)) Q E s := by
  obtain ⟨o, es, ep, t, ho, hex, hd, g, nd, mem, few, fit, size, rs, led⟩ := R
  have is : (strKind P w).is x (.str x tk) = true := strKind_is P w x tk
  have scan : (Value.str x tk).scannable = true := rfl
  have el : ElemsOf (strKind P w) es.toList := txt_elems g
  unfold setAddHashed setAddHashedIn
  refine wpAny_holding (wpAny_bind (wpAny_setState_of ho hd fit ?_))
  dsimp only
  rw [byScan_of scan few el]
  simp only [↓reduceIte]
  unfold setAddByScan
  refine wpAny_bind (wpAny_bind (wpAny_rule (wpAny_bind (wpAny_setScan_of is ho hd fit el ?_))))
  cases found : List.findIdx? (fun e => (strKind P w).is x e.2) es.toList with
  | some j =>
    dsimp only
    obtain ⟨hj, pj, _⟩ := List.findIdx?_eq_some_iff_getElem.mp found
    have inM : M x = true := (mem x).mpr ((txt_mem (P := P) g x).mpr ⟨es.toList[j], List.getElem_mem hj, pj⟩)
    refine wpAny_pure (wpAny_pure ?_)
    have q := fin s.heap (Heap.SameBut.refl a s.heap) ⟨o, es, ep, t, ho, hex, hd, g, nd, fun i => (by
      rw [Bool.or_eq_true, decide_eq_true_eq, ← mem i]
      exact ⟨fun z => z.elim id fun e => e ▸ inM, .inl⟩), few, fit, (by rw [if_pos inM]; exact size), rs, led⟩
    rw [inM] at q
    exact q
  | none =>
    dsimp only
    have notIn : x ∉ es.toList.map txE := fun z => by
      obtain ⟨e, he, q⟩ := (txt_mem (P := P) g x).mp z
      have no := List.findIdx?_eq_none_iff.mp found e he
      rw [q] at no
      cases no
    have notM : M x = false := Bool.eq_false_iff.mpr fun q => notIn ((mem x).mp q)
    have free : ∀ (b : Bool) {s1 : Shared} {R : Unit → Shared → Prop}, R () s1 → wpAny (model P w) A (match b with | true => rule "set.scan.the-table-gave-way" | false => pure ()) R E s1 :=
      fun b s1 R q => by cases b <;> first | exact wpAny_pure q | exact wpAny_rule q
    have p1 := layNew_perm t es ((strKind P w).hash x) (.str x tk)
    have p2 := layNew_fits t es ((strKind P w).hash x) (.str x tk)
    have p3 := layNew_ris t es ((strKind P w).hash x) (.str x tk) rs
    have p4 := layNew_led t es ((strKind P w).hash x) (.str x tk)
    revert p1 p2 p3 p4
    generalize layNew t es ((strKind P w).hash x) (.str x tk) = Z
    obtain ⟨es1, t1, dm, gave⟩ := Z
    intro p1 p2 p3 p4
    dsimp only at p1 p2 p3 p4 ⊢
    rw [Array.toList_push] at p1
    have pe : es1.toList.Perm (((strKind P w).hash x, Value.str x tk) :: es.toList) := p1.trans (List.perm_append_singleton _ _)
    have px : (es1.toList.map txE).Perm (x :: es.toList.map txE) := pe.map txE
    have g1 : ∀ e ∈ es1.toList, TxtE w e := fun e he => (List.mem_cons.mp (pe.mem_iff.mp he)).elim (fun z => by rw [z]; exact ⟨x, tk, rfl, rfl⟩) (g e)
    have nd1 : (es1.toList.map txE).Nodup := px.nodup_iff.mpr (List.nodup_cons.mpr ⟨notIn, nd⟩)
    have mem1 : ∀ i, (M i || decide (i = x)) = true ↔ i ∈ es1.toList.map txE := fun i => by
      rw [Bool.or_eq_true, decide_eq_true_eq, mem i, px.mem_iff, List.mem_cons]
      exact Or.comm
    have size1 : es1.size = n + 1 := by rw [← Array.length_toList, pe.length_eq, List.length_cons, Array.length_toList, size]
    have few1 : es1.size < scanBound := by rw [size1]; exact room
    have led1 : w.params.followText "set-order" = true ∨ t1.led = true := led.imp id fun z => p4.trans z
    have last : ∀ hp, Heap.SameBut a s.heap hp → SetX w hp a (fun j => M j || decide (j = x)) es1.size → Q true { s with heap := hp } := fun hp but r => by
      have q := fin hp but
      rw [notM] at q
      rw [size1] at r
      exact q r
    refine wpAny_bind (free _ ?_)
    split
    · refine wpAny_bind ?_
      rw [hashByValue_scannable 8 scan]
      refine wpAny_pure (setX_tail ?_ ho hex hd g1 nd1 mem1 few1 ?_ ?_ ?_ ?_)
      · exact fun b s1 R q => by cases b <;> first | exact wpAny_pure q | exact wpAny_rule q
      · first | (split <;> first | exact p2 | exact SetTable.fits_plain_off p2) | exact p2
      · first | (split <;> exact p3) | exact p3
      · first | (split <;> exact led1) | exact led1
      · exact fun hp but r => wpAny_pure (last hp but r)
    · refine wpAny_bind (wpAny_pure ?_)
      simp only [↓reduceIte]
      exact setX_tail (fun b s1 R q => by cases b <;> first | exact wpAny_pure q | exact wpAny_rule q) ho hex hd g1 nd1 mem1 few1 p2 p3 led1 fun hp but r => wpAny_pure (last hp but r)
end
theorem setX_none {w : World} {hp : Heap} {a : Addr} {zs : List Str} (ho : hp.get? a = some { cls := .type "set", dict := none, data := .set #[] 0 (.fresh 0 0 (!w.params.followText "set-order")) }) : SetX w hp a (fun j => decide (j ∈ zs.take 0)) 0 := by
  refine ⟨_, #[], 0, _, ho, ⟨rfl, rfl, rfl⟩, rfl, fun e he => (by simp at he), (by simp), fun k => (by simp), (by decide), (by rfl), rfl, .nil, ?_⟩
  cases w.params.followText "set-order"
  · exact .inr rfl
  · exact .inl rfl
abbrev nsetX (w : World) : Obj := { cls := .type "set", dict := none, data := .set #[] 0 (.fresh 0 0 (!w.params.followText "set-order")) }
theorem txt_at : ∀ {vs : List Value} {zs : List Str}, StrsAre vs zs → ∀ (i : Nat) (v : Value), vs[i]? = some v → ∃ k t, zs[i]? = some k ∧ v = .str k t
  | _, _, .nil, i, v, h => by rw [List.getElem?_nil] at h; cases h
  | _, _, .cons y t r, 0, v, h => ⟨y, t, rfl, (Option.some.inj h).symm⟩
  | _, _, .cons y t r, i + 1, v, h => txt_at r i v h
section
variable {P : Program} {w : World} {A : Around} {E : Value → Shared → Prop} {s : Shared}
theorem set_update_txts {I : Addr} {fp wr : List Addr} {G : Array GenState → Array GenState → Prop} {n : Nat} {Pv : Nat → Value → Prop} {St : Nat → Shared → Prop} {R : Result → Shared → Prop}
    (W : WalksS P w A.in1 I fp wr G n Pv St) (S : Addr) (out : S ∉ fp) (zs : List Str) (len : n = zs.length) (few : zs.length + 1 < scanBound) (each : ∀ i v, Pv i v → ∃ k t, zs[i]? = some k ∧ v = .str k t) :
    ∀ (m i : Nat) (s : Shared), n - i = m → i ≤ n → St i s → (∃ c, c ≤ i ∧ SetX w s.heap S (fun j => decide (j ∈ zs.take i)) c) →
      (∀ s' c, Moved (S :: wr) G s s' → c ≤ n → SetX w s'.heap S (fun j => decide (j ∈ zs)) c → R (.ok (.ret .none)) s') →
      codeAny (model P w) A (.builtin "set.update.loop" ⟨[.ref S, .ref I], []⟩) R s := by
  have notWr : S ∉ wr := fun h => out (W.sub _ h)
  have more : ∀ b ∈ wr, b ∈ S :: wr := fun b hb => List.mem_cons_of_mem _ hb
  intro m
  induction m with
  | zero =>
    intro i s e hi hst ⟨c, hc, hS⟩ fin
    obtain rfl : i = n := by omega
    refine codeAny_builtin F.entry_set_update_loop ?_
    rw [Around.under_plainId F.plain_set_update_loop _]
    show wpAny _ A.in1 (pyNext (.ref I) >>= _) _ _ s
    refine wpAny_bind (W.done s _ _ hst fun s' hm => ?_)
    rw [List.take_of_length_le (by omega)] at hS
    exact wpAny_pure (fin s' c (hm.mono more) hc (hS.keep fun o e => hm.heap S o notWr e))
  | succ m ih =>
    intro i s e hi hst ⟨c, hc, hS⟩ fin
    have lt : i < n := by omega
    refine codeAny_builtin F.entry_set_update_loop ?_
    rw [Around.under_plainId F.plain_set_update_loop _]
    show wpAny _ A.in1 (pyNext (.ref I) >>= _) _ _ s
    refine wpAny_bind (W.item i s _ _ lt hst fun v s1 hP st1 mv => ?_)
    obtain ⟨z, t, hz, rfl⟩ := each i v hP
    have hS1 : SetX w s1.heap S (fun j => decide (j ∈ zs.take i)) c := hS.keep fun o e => mv.heap S o notWr e
    show wpAny _ A.in1 (holding [Value.str z t] (setAdd S (.str z t)) >>= _) _ _ s1
    refine wpAny_bind (wpAny_holding ?_)
    unfold setAdd
    refine wpAny_holding (wpAny_bind ((strKind P w).pyHash (k := z) (strKind_is _ _ _ _) ?_))
    refine setX_add (s := { s1 with toks := s1.toks + 1 }) hS1 (by omega) fun hp but hS2 => ?_
    have hS3 : SetX w hp S (fun j => decide (j ∈ zs.take (i + 1))) (if decide (z ∈ zs.take i) = true then c else c + 1) := hS2.as fun j => by
      rw [List.take_add_one, hz]
      simp [List.mem_append]
    have c3 : (if decide (z ∈ zs.take i) = true then c else c + 1) ≤ i + 1 := by split <;> omega
    refine wpAny_pure ⟨plainId_quiet F.plain_set_update_loop _, ih (i + 1) _ (by omega) lt (W.frame _ s1 _ _ st1 (Nat.le_succ _) fun b hb o e => ?_) ⟨_, c3, hS3⟩ fun s2 c2 mv2 le2 hS4 => ?_⟩
    · exact (but.2 b (fun q : b = S => out (q ▸ hb))).trans e
    · exact fin s2 c2 (Moved.trans W.gtrans ((mv.mono more).then_heap (Nat.le_succ _) fun b o hb e => (but.2 b fun q : b = S => hb (by rw [q]; exact List.mem_cons_self)).trans e) mv2) le2 hS4
set_option maxHeartbeats 3200000 in
theorem set_of_txts {b : Addr} {vals : Array Value} (zs : List Str) {G : Value → Shared → Prop} (nh : A.handled = none) (lst : s.heap.IsList b vals) (are : StrsAre vals.toList zs) (few : zs.length + 1 < scanBound)
    (got : ∀ (hp : Heap) (t n : Nat), SetX w hp s.heap.objs.size (fun j => decide (j ∈ zs)) n → n ≤ zs.length → (∀ a o, s.heap.get? a = some o → hp.get? a = some o) → G (.ref s.heap.objs.size) { s with heap := hp, toks := t }) :
    wpAny (model P w) A (call (.type "set") [.ref b]) G E s := by
  have len : vals.size = zs.length := (Array.length_toList (xs := vals)).symm.trans (StrsAre.length are)
  obtain ⟨c0, tl0, mro0⟩ := F.called_set.mro
  have q1 := F.called_set.made
  have q2 := F.called_set.sub
  have q3 := F.called_set.notType
  have q4 := F.called_set.canCreate
  have q5 := F.typeCall_set_1 (.ref b)
  refine wpAny_call (codeAny_of_tree (wpAny_pure ⟨Code.quiet_builtin _ (by decide +kernel), codeAny_builtin F.entry_type_call ?_⟩))
  rw [Around.under_plain (weight_type_call_type "set" [.ref b] []) rfl]
  repeat (any_goals (first | assumption | wp_step))
  refine codeAny_mono (code_set_led1 (.ref b) (E := E) (Q₁ := fun x s1 => x = .ref s.heap.objs.size ∧ s1 = { s with heap := s.heap.push (nsetX w) }) ⟨rfl, rfl⟩) fun r s1 hr => ?_
  rcases r with e | fl
  · exact hr
  cases fl with
  | ret x =>
    obtain ⟨rfl, rfl⟩ := hr
    have there : (s.heap.push (nsetX w)).get? s.heap.objs.size = some (nsetX w) := Heap.get?_push_size _ rfl
    have isset : Shared.TypeIs { s with heap := s.heap.push (nsetX w) } (.ref s.heap.objs.size) "set" := ⟨_, there, rfl⟩
    have i1 := F.called_set.init.lookup
    have i2 := F.called_set.init.bind (.ref s.heap.objs.size)
    repeat (any_goals (first | assumption | wp_step))
    refine codeAny_mono (codeAny_call_builtin (R := wants (fun r s2 => r = .none ∧ ∃ hp t n, s2 = { s with heap := hp, toks := t } ∧ SetX w hp s.heap.objs.size (fun j => decide (j ∈ zs)) n ∧ n ≤ zs.length ∧ (∀ a o, s.heap.get? a = some o → hp.get? a = some o)) E)
      F.called_set.init.plain F.entry_set_init (check_set_init_1 isset ?_)) fun r2 s2 hr2 => ?_
    · obtain ⟨ob, hob, cl, nb, dt⟩ := lst
      obtain ⟨ob1, ob2, ob3, ob4⟩ := ob
      simp only at cl dt
      subst cl dt
      have hob' : (s.heap.push (nsetX w)).get? b = some { cls := .type "list", dict := ob2, data := .seq vals nb, slots := ob4 } := Heap.get?_push_of_some _ hob
      have n1 := F.sub_list_set
      have n2 := F.sub_list_frozenset
      have n3 : (Value.type "list" == Value.type "dict") = false := by decide
      have lst' : (s.heap.push (nsetX w)).IsList b vals := ⟨_, hob', rfl, nb, rfl⟩
      unfold Builtin.«set.__init__» noKeywords Builtin.Frozenset.updateFrom
      generalize hit : pyIter = IT
      wp_walk
      subst hit
      refine wpAny_pyIter_list lst' (wpAny_bind (wpAny_runValue ?_))
      have old : b < s.heap.objs.size := Heap.lt_size hob
      have sz : (s.heap.push (nsetX w)).objs.size = s.heap.objs.size + 1 := Heap.size_push ..
      have nh3 : A.in1.in1.in1.handled = none := by simp [nh]
      have ne1 : b ≠ (s.heap.push (nsetX w)).objs.size := by
        rw [sz]
        exact Nat.ne_of_lt (Nat.lt_succ_of_lt old)
      have ne2 : s.heap.objs.size ∉ [(s.heap.push (nsetX w)).objs.size, b] := by
        rw [sz]
        simp only [List.mem_cons, List.not_mem_nil, or_false, not_or]
        exact ⟨Nat.ne_of_lt (Nat.lt_succ_self _), Nat.ne_of_gt old⟩
      have each : ∀ (i : Nat) (v : Value), vals[i]? = some v → ∃ k t, zs[i]? = some k ∧ v = .str k t := fun i v hv => by
        have hv' : vals.toList[i]? = some v := (Array.getElem?_toList ..).trans hv
        exact txt_at are i v hv'
      refine set_update_txts ((Walks.list nh3 _ b ne1 vals).toS) s.heap.objs.size ne2 zs len few each (vals.size - 0) 0 _ (by omega) (Nat.zero_le _) ⟨⟨_, Heap.get?_push_size _ rfl, rfl, rfl⟩, (lst'.push _)⟩ ⟨0, Nat.le_refl 0, setX_none (Heap.get?_push_of_some _ there)⟩ fun s3 n mv le R => ?_
      obtain ⟨hp, g3, d3, t3, o3⟩ := s3
      obtain rfl : g3 = s.gens := mv.gens
      obtain rfl : d3 = s.drawn := mv.drawn
      obtain rfl : o3 = s.os := mv.os
      refine wpAny_pure (wpAny_pure ⟨rfl, hp, t3, n, rfl, R, len ▸ le, fun a o e => ?_⟩)
      have la : a < s.heap.objs.size := Heap.lt_size e
      refine mv.heap a o ?_ (Heap.get?_push_of_some _ (Heap.get?_push_of_some _ e))
      rw [sz]
      simp only [List.mem_cons, List.not_mem_nil, or_false, not_or]
      exact ⟨Nat.ne_of_lt la, Nat.ne_of_lt (Nat.lt_succ_of_lt la)⟩
    · rcases r2 with e | f2
      · exact hr2
      cases f2 with
      | ret r =>
        obtain ⟨rfl, hp, t, n, rfl, R, le, kp⟩ := hr2
        repeat (any_goals (first | assumption | wp_step))
        exact got _ _ _ R le kp
      | _ => exact hr2.elim
  | _ => exact hr.elim
theorem txts_of : ∀ (l : List Value), (∀ v ∈ l, ∃ x tk, v = Value.str x tk) → StrsAre l (l.map strOf)
  | [], _ => .nil
  | v :: l, h => by
    obtain ⟨x, tk, rfl⟩ := h v List.mem_cons_self
    exact .cons x tk (txts_of l fun u hu => h u (List.mem_cons_of_mem _ hu))
theorem sorted_setX {a : Addr} {M : Str → Bool} {n : Nat} {Q : Value → Shared → Prop} (R : SetX w s.heap a M n) (hd0 : A.handled = none)
    (fin : ∀ s' p (out : Array Value) (c : Nat) (ks : List Str), (∀ b o, s.heap.get? b = some o → s'.heap.get? b = some o) → s'.gens = s.gens → s'.os = s.os → s.heap.objs.size ≤ p →
      s'.heap.get? p = some (seqObj "list" out c) → StrsAre out.toList ks → sortedS ks = true → ks.Nodup → (∀ k, k ∈ ks ↔ M k = true) → ks.length = n → Q (.ref p) s') :
    wpAny (model P w) A (call (.builtin "sorted") [.ref a]) Q E s := by
  obtain ⟨o, es, ep, t, ho, hex, hd, g, nd, mem, few, fit, size, rs, led⟩ := R
  refine Calls.call_function_entry kind_sorted plain_sorted entry_sorted (args_sorted1 _) ?_
  unfold Builtin.«sorted»
  refine wpAny_bind (m := checkCount "sorted" 1 1 _) (wpAny_pure (wpAny_bind (collect_set (A := A.in1) hd0 ⟨o, ho, hex.1, hd⟩ fit few rs led fun s1 us kept sz gens os perm => ?_)))
  have len : us.length = n := (perm.length_eq.trans (List.length_map ..)).trans ((Array.length_toList).trans size)
  have are : StrsAre us (us.map strOf) := txts_of us fun v hv => by
    obtain ⟨e, he, q⟩ := List.mem_map.mp (perm.mem_iff.mp hv)
    obtain ⟨x, tk, h1, _⟩ := g e he
    exact ⟨x, tk, q.symm.trans h1⟩
  have keys : (us.map strOf).Perm (es.toList.map txE) := by
    have q := perm.map strOf
    rw [List.map_map] at q
    exact q
  have line : us.length ≤ sizeLine := by
    rw [len, ← size, sizeLine_eq]
    have : scanBound = 4096 := rfl
    omega
  refine wpAny_bind (wpAny_newList ?_ line)
  have new : (s1.heap.push (seqObj "list" us.toArray 0)).get? s1.heap.objs.size = some (seqObj "list" us.toArray 0) := Heap.get?_push_size _ rfl
  refine wpAny_bind (wpAny_holding (wpAny_call_entry slot_list_sort ⟨_, new, rfl⟩ entry_list_sort (list_sort_treeKAny strKind_oneLt new are.keysOf (fun v1 v2 rest e => keyKind_strs (by rw [← e]; exact are)) line fun st h1 h2 => ⟨_, rfl, ?_⟩) (args_list_sort _)))
  obtain ⟨ks, k1, k2, k3⟩ := sorted_out_str are h1 h2
  obtain ⟨c, hc⟩ := sortedHeap_at (vs := us) (out := (arrOf st).map (·.2)) new
  have all : ks.Perm (es.toList.map txE) := k2.trans keys
  refine wpAny_pure ⟨_, rfl, fin _ s1.heap.objs.size _ c ks (fun b u e => ?_) gens os sz hc k1 k3 (all.nodup_iff.mpr nd) (fun k => by rw [all.mem_iff, ← mem k]) ?_⟩
  · have q := kept b u e
    have lt := Heap.lt_size q
    show (sortedHeap (s1.heap.push (seqObj "list" us.toArray 0)) s1.heap.objs.size us _).get? b = some u
    rw [sortedHeap_old (Nat.ne_of_lt lt) (Nat.lt_of_lt_of_le lt (by rw [Heap.size_push]; exact Nat.le_succ _))]
    exact Heap.get?_push_of_some _ q
  · rw [all.length_eq, List.length_map, Array.length_toList]
    exact size
end
/-! ### as rules -/
def SetXO (w : World) (a : Addr) (M : Str → Bool) (n : Nat) : HO := .ext fun h => SetX w h a M n
theorem setXO_new {w : World} {P : Program} {H : Hp} {h : Heap} {a : Addr} {M : Str → Bool} {n : Nat} (R : SetX w h a M n) : ObjOk P w H h a (SetXO w a M n) := by
  have ⟨o, _, _, _, ho, _⟩ := R
  exact ⟨R, ⟨o, ho⟩, fun h1 h2 p k => SetX.keep p k⟩
/-- set(list of texts): a new set of them -/
def rSetS (K : PySem.W.Frag) (w : World) : List V → Hp → VK → Prop := fun vs H Q => ∃ (a : Addr) (xs : List Str), vs = [.ref a] ∧ SqL K H a (xs.map V.str) ∧ xs.length ≤ 4000 ∧
  ∀ (p : Addr) (n : Nat), H p = none → n ≤ xs.length → Q (.ref p) (upd H p (SetXO w p (fun j => decide (j ∈ xs)) n))
theorem cr_setS {X : Cx} (hc : X.calm = true) : CallR X (.type "set") (rSetS X.K X.w) := by
  intro pins s σ H vs us Q I r h
  obtain ⟨a, xs, rfl, ha, hl, q⟩ := h
  rw [Vals.ref1 r]
  obtain ⟨its, rv, pl, _⟩ := I.list ha
  refine set_of_txts xs (I.ok.hd hc) pl.isList (by rw [List.toList_toArray]; exact strs_of_vals rv) (by unfold scanBound; omega) fun hp t n R le kp => ?_
  exact ⟨.ref s.heap.objs.size, upd H s.heap.objs.size (SetXO X.w s.heap.objs.size (fun j => decide (j ∈ xs)) n), I.laid (t' := t) kp (Nat.le_refl _) (setXO_new R), rfl, q _ n (I.hok.fresh (Nat.le_refl _)) le⟩
def rSortedSetS (w : World) : List V → Hp → VK → Prop := fun vs H Q => ∃ (a : Addr) (M : Str → Bool) (n : Nat), vs = [V.ref a] ∧ H a = some (SetXO w a M n) ∧ n ≤ 4000 ∧
  ∀ (ks : List Str) (p : Addr), sortedS ks = true → ks.Nodup → (∀ k : Str, k ∈ ks ↔ M k = true) → ks.length = n → H p = none → Q (.ref p) (upd H p (.lst (ks.map V.str)))
theorem cr_sortedSetS {X : Cx} (hc : X.calm = true) : CallR X (.builtin "sorted") (rSortedSetS X.w) := by
  intro pins s σ H vs us Q I r h
  obtain ⟨a, M, n, rfl, ha, few, q⟩ := h
  rw [Vals.ref1 r]
  refine sorted_setX ((I.hok a _ ha).1) (I.ok.hd hc) fun s' p out c ks kept gens os hp at_ are srt nd mem len => ?_
  have line : (ks.map V.str).length ≤ sizeLine := by rw [List.length_map, len, sizeLine_eq]; omega
  have free : H p = none := I.hok.fresh hp
  refine ⟨.ref p, _, I.call' (ch := []) (H' := upd H p (.lst (ks.map V.str))) os (Un.laid kept hp free) (I.hok.laid kept hp ⟨line, out.toList, c, vals_of_strs are, by rw [Array.toArray_toList]; exact at_⟩) (by rw [gens]; exact I.bare) (fun _ z => nomatch z), rfl, q ks p srt nd mem len free⟩
/-! ### a sorted list without repetitions is told by its members -/
theorem rising_pair : ∀ {p : Str} {l : List Str}, risingS p l = true → (p :: l).Pairwise fun a b => ltCps b.cps.toList a.cps.toList = false
  | p, [], _ => List.pairwise_cons.mpr ⟨fun _ h => (nomatch h), .nil⟩
  | p, x :: r, h => by
    have h : (!ltCps x.cps.toList p.cps.toList && risingS x r) = true := h
    rw [Bool.and_eq_true] at h
    have h1 : ltCps x.cps.toList p.cps.toList = false := by
      have := h.1
      revert this
      cases ltCps x.cps.toList p.cps.toList <;> simp
    have ih := rising_pair h.2
    refine List.pairwise_cons.mpr ⟨fun y hy => ?_, ih⟩
    rcases List.mem_cons.mp hy with rfl | hy
    · exact h1
    · have h2 := (List.pairwise_cons.mp ih).1 y hy
      rw [ltCps_eq] at h1 h2 ⊢
      have a := of_decide_eq_false h1
      have b := of_decide_eq_false h2
      refine decide_eq_false fun c => ?_
      exact List.not_lt.mpr (List.le_trans (List.not_lt.mp a) (List.not_lt.mp b)) c
theorem sorted_pair {l : List Str} (h : sortedS l = true) : l.Pairwise fun a b => ltCps b.cps.toList a.cps.toList = false := by
  cases l with
  | nil => exact .nil
  | cons x r => exact rising_pair h
theorem cps_inj {a b : Str} (h : a.cps.toList = b.cps.toList) : a = b := by
  cases a
  cases b
  simp only [Str.mk.injEq]
  exact Array.toList_inj.mp h
theorem sorted_eq {l m : List Str} (hl : sortedS l = true) (hm : sortedS m = true) (nl : l.Nodup) (nm : m.Nodup) (mem : ∀ x, x ∈ l ↔ x ∈ m) : l = m := by
  have pl := sorted_pair hl
  have pm := sorted_pair hm
  have perm : l.Perm m := (List.perm_ext_iff_of_nodup nl nm).mpr mem
  refine List.Perm.eq_of_pairwise (fun a b _ _ h1 h2 => ?_) pl pm perm
  rw [ltCps_eq] at h1 h2
  have a1 := of_decide_eq_false h1
  have a2 := of_decide_eq_false h2
  exact cps_inj (List.le_antisymm (List.not_lt.mp a1) (List.not_lt.mp a2))
end Shg
set_option Elab.async false
set_option linter.all false
set_option maxRecDepth 100000
set_option maxHeartbeats 4000000
set_option autoImplicit false
/-! len(set of texts). -/
namespace Shg
open PySem PySem.Spec PyProof.Rows L2
def rLenSetS (w : World) : List V → Hp → VK → Prop := fun vs H Q => ∃ (a : Addr) (M : Str → Bool) (n : Nat) (zs : List Str), vs = [V.ref a] ∧ H a = some (SetXO w a M n) ∧ zs.Nodup ∧ (∀ k, k ∈ zs ↔ M k = true) ∧ Q (.int (zs.length : Nat)) H
theorem call_lenSetS {X : Cx} : CallR X (.builtin "len") (rLenSetS X.w) := by
  intro pins s σ H vs us Q I r h
  obtain ⟨a, M, n, zs, rfl, ha, nd, mem, q⟩ := h
  rw [Vals.ref1 r]
  obtain ⟨o, es, ep, t, ho, ex, hd, _, nd2, mem2, few, fit, sz, _⟩ := (I.hok a _ ha).1
  have len : zs.length = es.size := by
    have h1 := List.Nodup.length_le_of_subset nd (l₂ := es.toList.map txE) fun k hk => (mem2 k).mp ((mem k).mp hk)
    have h2 := List.Nodup.length_le_of_subset nd2 (l₂ := zs) fun k hk => (mem k).mpr ((mem2 k).mpr hk)
    have e : es.toList.length = es.size := Array.length_toList ..
    rw [List.length_map] at h1 h2
    omega
  have : es.size < 4096 := few
  have big : (4096 : Int) < 2 ^ 63 := by decide
  refine call_len_set ho ex hd fit (by omega) ?_
  exact ⟨.int (zs.length : Nat), H, I.tok _, ⟨_, by rw [len]⟩, q⟩
end Shg
set_option Elab.async false
set_option linter.all false
set_option maxRecDepth 100000
set_option maxHeartbeats 2000000
/-! Answers of readings that stand in every law. -/
namespace Shg
open PySem L2 Sho NdefX
/-- a op b op c of ints -/
theorem chainI {f g : Int → Int → Bool} {ta tb tc : TE} {σ : L2.St} {H : Hp} {R : Bool → Hp → Prop} (i j k : Int) (h1 : ∀ Q : VK, Q (.int i) H → ta σ H Q) (h2 : ∀ Q : VK, Q (.int j) H → tb σ H Q) (h3 : ∀ Q : VK, Q (.int k) H → tc σ H Q) (h : R (f i j && g j k) H) :
    tTest (tChain (rI0 fun i j => .bl (f i j)) (rI0 fun i j => .bl (g i j)) ta tb tc) σ H R := by
  refine h1 _ (h2 _ ⟨i, j, rfl, rfl, f i j, rfl, ?_⟩)
  cases e : f i j with
  | false =>
    rw [if_neg Bool.false_ne_true]
    rw [e] at h
    exact ⟨_, rfl, h⟩
  | true =>
    rw [if_pos rfl]
    rw [e] at h
    exact h3 _ ⟨j, k, rfl, rfl, _, rfl, h⟩
theorem chainN {f g : Int → Int → Bool} {ta tb tc : TE} {σ : L2.St} {H : Hp} {R : Bool → Hp → Prop} (i j k : Int) (h1 : ∀ Q : VK, Q (.int i) H → ta σ H Q) (h2 : ∀ Q : VK, Q (.int j) H → tb σ H Q) (h3 : ∀ Q : VK, Q (.int k) H → tc σ H Q) (h : R (!(f i j && g j k)) H) :
    tNot (tTest (tChain (rI0 fun i j => .bl (f i j)) (rI0 fun i j => .bl (g i j)) ta tb tc)) σ H R := chainI (R := fun b H' => R (!b) H') i j k h1 h2 h3 h
/-- a, b = x, y: what is known of x -/
theorem par_rel {i j : Nat} {te : TE} {tr : TA} {u : TS} {D : Ends} {σ : L2.St} {H : Hp} (P : V → Hp → Prop) (h1 : ∀ R : VK, (∀ v H', P v H' → R v H') → te σ H R)
    (h2 : ∀ v H', P v H' → tr σ H' fun ws H2 => ∃ v1 w, v :: ws = [v1, w] ∧ u D ((σ.set i (some v1)).set j (some w)) H2) : tSeq (tPar i j (tCons te tr)) u D σ H := h1 _ h2
/-- paired place by place -/
theorem pair_of {α β : Type} {R : α → β → Prop} : ∀ {as : List α} {bs : List β}, as.length = bs.length → (∀ (i : Nat) a b, as[i]? = some a → bs[i]? = some b → R a b) → PySem.Paired R as bs
  | [], [], _, _ => .nil
  | [], _ :: _, h, _ => by simp at h
  | _ :: _, [], h, _ => by simp at h
  | a :: as, b :: bs, h, k => .cons (k 0 a b rfl rfl) (pair_of (by simpa using h) fun i x y hx hy => k (i + 1) x y hx hy)
end Shg
set_option Elab.async false
set_option linter.all false
set_option maxRecDepth 100000
set_option maxHeartbeats 8000000
set_option autoImplicit false
/-! _law_least_odd. -/
namespace Fp
open PySem L2 Sho NdefX Shg Sh1 Gq Ck
/-- all who cross some of different guests: at most two for each pair -/
theorem near_sum (qs : List (Str × Str)) : ∀ {ns : List Str}, ns.Nodup → (ns.flatMap (nearOf qs)).length ≤ 2 * qs.length := by
  induction qs with
  | nil =>
    intro ns _
    rw [show (ns.flatMap (nearOf [])) = [] from List.flatMap_eq_nil_iff.mpr fun _ _ => rfl]
    exact Nat.zero_le _
  | cons q qs ih =>
    intro ns nd
    have split : ∀ (l : List Str), (l.flatMap (nearOf (q :: qs))).length = (l.flatMap fun n => (if q.1 = n then [q.2] else []) ++ (if q.2 = n then [q.1] else [])).length + (l.flatMap (nearOf qs)).length := fun l => by
      induction l with
      | nil => rfl
      | cons n l il =>
        rw [List.flatMap_cons, List.flatMap_cons, List.flatMap_cons, List.length_append, List.length_append (bs := List.flatMap _ _), List.length_append (bs := List.flatMap (nearOf qs) l), il]
        have : nearOf (q :: qs) n = ((if q.1 = n then [q.2] else []) ++ (if q.2 = n then [q.1] else [])) ++ nearOf qs n := by
          unfold nearOf
          rw [List.flatMap_cons]
        rw [this, List.length_append]
        omega
    have one : ∀ (x y : Str) {l : List Str}, l.Nodup → (l.flatMap fun n => if x = n then [y] else []).length ≤ 1 := fun x y l => by
      induction l with
      | nil => intro _; exact Nat.zero_le _
      | cons n l il =>
        intro nd
        rw [List.nodup_cons] at nd
        rw [List.flatMap_cons, List.length_append]
        by_cases e : x = n
        · subst e
          have : (l.flatMap fun n => if x = n then [y] else []) = [] := List.flatMap_eq_nil_iff.mpr fun m hm => if_neg fun z => nd.1 (by rw [z]; exact hm)
          rw [this, if_pos rfl]
          exact Nat.le_refl _
        · rw [if_neg e]
          have := il nd.2
          simpa using this
    have two : ∀ (l : List Str), (l.flatMap fun n => (if q.1 = n then [q.2] else []) ++ (if q.2 = n then [q.1] else [])).length = (l.flatMap fun n => if q.1 = n then [q.2] else []).length + (l.flatMap fun n => if q.2 = n then [q.1] else []).length := fun l => by
      induction l with
      | nil => rfl
      | cons n l il =>
        rw [List.flatMap_cons, List.flatMap_cons, List.flatMap_cons, List.length_append, List.length_append, List.length_append, List.length_append, il]
        omega
    rw [split, two]
    have h1 := one q.1 q.2 nd
    have h2 := one q.2 q.1 nd
    have h3 := ih nd
    rw [List.length_cons]
    omega
abbrev NLo : List Str := ["_law_near", "_law_names", "_law_best", "_law_start_here", "_law_reached", "_law_steps", "_law_later", "_law_one"]
/-- the least odd number of steps, of those who start at some of the guests -/
def BestOf (f : Str → List Str) (N : Nat) (ss : List Str) (lim : Str → Nat) : Option Nat → Prop
  | none => ∀ s ∈ ss, ∀ k, 1 ≤ k → k ≤ lim s → k % 2 = 1 → ¬ Reach f s s k
  | some b => b % 2 = 1 ∧ b ≤ N ∧ (∃ s ∈ ss, Reach f s s b) ∧ ∀ s ∈ ss, ∀ k, 1 ≤ k → k ≤ lim s → k % 2 = 1 → Reach f s s k → b ≤ k
abbrev limT (st : Str) (N t : Nat) : Str → Nat := fun x => if x = st then t else N
theorem lim_st (st : Str) (N t : Nat) : limT st N t st = t := if_pos rfl
theorem lim_ne {st x : Str} (N t : Nat) (h : x ≠ st) : limT st N t x = N := if_neg h
theorem best_start {f : Str → List Str} {N : Nat} {ss : List Str} {st : Str} {o : Option Nat} (h : BestOf f N ss (fun _ => N) o) (n : st ∉ ss) : BestOf f N (ss ++ [st]) (limT st N 0) o := by
  have key : ∀ x ∈ ss ++ [st], ∀ k, 1 ≤ k → k ≤ limT st N 0 x → x ∈ ss ∧ k ≤ N := fun x hx k k1 k2 => by
    rcases List.mem_append.mp hx with h | h
    · rw [lim_ne N 0 (fun z => n (by rw [← z]; exact h))] at k2
      exact ⟨h, k2⟩
    · rw [List.mem_singleton.mp h, lim_st] at k2
      omega
  cases o with
  | none => exact fun x hx k k1 k2 ko => h x (key x hx k k1 k2).1 k k1 (key x hx k k1 k2).2 ko
  | some b =>
    obtain ⟨b1, b2, ⟨x0, b3, b4⟩, b5⟩ := h
    exact ⟨b1, b2, ⟨x0, List.mem_append_left _ b3, b4⟩, fun x hx k k1 k2 ko r => b5 x (key x hx k k1 k2).1 k k1 (key x hx k k1 k2).2 ko r⟩
theorem lim_succ {st x : Str} {N t k : Nat} (h : k ≤ limT st N (t + 1) x) : k ≤ limT st N t x ∨ (x = st ∧ k = t + 1) := by
  by_cases e : x = st
  · subst e
    rw [lim_st] at h ⊢
    by_cases hk : k = t + 1
    · exact .inr ⟨rfl, hk⟩
    · exact .inl (by omega)
  · rw [lim_ne N _ e] at h ⊢
    exact .inl h
theorem best_no {f : Str → List Str} {N t : Nat} {ss : List Str} {st : Str} {o : Option Nat} (h : BestOf f N ss (limT st N t) o) (n : (t + 1) % 2 = 1 → Reach f st st (t + 1) → ∃ b, o = some b ∧ b ≤ t + 1) : BestOf f N ss (limT st N (t + 1)) o := by
  cases o with
  | none =>
    intro x hx k k1 k2 ko r
    rcases lim_succ k2 with k2 | ⟨rfl, rfl⟩
    · exact h x hx k k1 k2 ko r
    · obtain ⟨b, hb, _⟩ := n ko r
      cases hb
  | some b =>
    obtain ⟨b1, b2, b3, b5⟩ := h
    refine ⟨b1, b2, b3, fun x hx k k1 k2 ko r => ?_⟩
    rcases lim_succ k2 with k2 | ⟨rfl, rfl⟩
    · exact b5 x hx k k1 k2 ko r
    · obtain ⟨b', hb, h2⟩ := n ko r
      cases hb
      exact h2
theorem best_yes {f : Str → List Str} {N t : Nat} {ss : List Str} {st : Str} {o : Option Nat} (h : BestOf f N ss (limT st N t) o) (hs : st ∈ ss) (h1 : (t + 1) % 2 = 1) (h2 : Reach f st st (t + 1)) (h3 : ∀ b, o = some b → t + 1 < b) (hN : t + 1 ≤ N) : BestOf f N ss (limT st N (t + 1)) (some (t + 1)) := by
  refine ⟨h1, hN, ⟨st, hs, h2⟩, fun x hx k k1 k2 ko r => ?_⟩
  rcases lim_succ k2 with k2 | ⟨rfl, rfl⟩
  · cases o with
    | none => exact absurd r (h x hx k k1 k2 ko)
    | some b =>
      have := h3 b rfl
      have := h.2.2.2 x hx k k1 k2 ko r
      omega
  · exact Nat.le_refl _
def optV : Option Nat → V
  | none => .non
  | some b => .int (b : Nat)
section
variable {P : Program} {w : World} {K : PySem.W.Frag} {mg : Str → Option Value} {base : Heap}
def spLeast (K : PySem.W.Frag) : Sp := fun vs H Q _ => ∃ (D L : Addr) (kvs : List (Key × V)) (gs : List Str) (qs : List (Str × Str)), vs = [.ref D, .ref L] ∧ H D = some (.dK kvs) ∧ NearK H kvs gs (nearOf qs) ∧ SqL K H L (gs.map V.str) ∧ gs.length ≤ 100 ∧ qs.length ≤ 1000 ∧ gs.Nodup ∧ (∀ n ∈ gs, ∀ m ∈ nearOf qs n, m ∈ gs) ∧
  ∀ (o : Option Nat) H', Same H H' → BestOf (nearOf qs) gs.length gs (fun _ => gs.length) o → Q (optV o) H'
theorem scLo : FnScope NLo ["_law_near", "_law_names"] (defScope sLawLeastOdd) := ⟨rfl, rfl, rfl, by decide +kernel, rfl, by decide +kernel, by decide +kernel⟩
theorem ok_least {f : Addr} {fd : FuncData} (F : Fun K "_law_least_odd" "_law_least_odd" sLawLeastOdd f fd) (B : Shg.Blt mg) : FnOk P w K mg base CX0 1 f fd ["_law_near", "_law_names"] (spLeast K) := by
  refine F.ok scLo (fun vs H Q E h => ?_) (fun cdv A outer s H vs Q E hr h => ?_)
  · obtain ⟨D, L, kvs, gs, qs, rfl, _⟩ := h
    rfl
  obtain ⟨D, L, kvs, gs, qs, rfl, eD, nk, hL, gl, ql, nd0, hF, k⟩ := h
  have nd := scLo.nd
  refine ⟨_, (pss_cons (ps_set (i := 2) nd rfl (Or.inl rfl) pe_non)
      (pss_cons (ps_for PassesOwn.never rfl (pi_list (pv 1)) (pg_name (i := 3) nd rfl (Or.inl rfl)) (pss_cons (ps_set (i := 4) nd rfl (Or.inl rfl) (pe_lst (pa_cons (pv 3) pa_nil)))
      (pss_one (ps_for PassesOwn.never rfl (pi_range2 (by rfl) B.range (pa_cons pe_int (pa_cons (pe_op op_add (pe_callB call_len_seq (by rfl) B.len PySem.boot_len (pa_cons (pv 1) pa_nil)) pe_int) pa_nil))) (pg_name (i := 5) nd rfl (Or.inl rfl)) (pss_cons (ps_set (i := 6) nd rfl (Or.inl rfl) (pe_lst pa_nil))
      (pss_cons (ps_for PassesOwn.never rfl (pi_list (pv 4)) (pg_name (i := 7) nd rfl (Or.inl rfl)) (pss_one (ps_set (i := 6) nd rfl (Or.inl rfl) (pe_op op_cat (pv 6) (pe_dget (units1 hr) (pv 0) (pv 7) (fun _ _ => rfl))))))
      (pss_cons (ps_set (i := 4) nd rfl (Or.inl rfl) (pe_callB (cr_sortedSetS rfl) (by rfl) B.sorted (by decide +kernel) (pa_cons (pe_callTy (cr_setS rfl) (by rfl) B.set (by decide +kernel) (pa_cons (pv 6) pa_nil)) pa_nil)))
      (pss_one (ps_if (PW.pt (pw_and (pt_cmpR op_eq (pe_op op_mod (pv 5) pe_int) pe_int (nomark _)) (pw_and (pt_cmpR op_in_seq (pv 3) (pv 4) rfl) (pw_and1 (PW.pt (pw_or (pt_cmp (pc_isN (pv 2)) rfl) (pw_or1 (pt_cmpR op_lt (pv 5) (pv 2) (nomark _))))))))) (pss_one (ps_set (i := 2) nd rfl (Or.inl rfl) (pv 5))) pss_nil)))))))))
      (pss_one (ps_ret (pv 2))))), ?_⟩
  have line : 100000 < sizeLine := by decide
  refine ⟨_, rfl, L, rfl, ⟨_, hL⟩, for_it (walk_list (K := K) (a := L) (xs := gs.map V.str)) (fun j σ H' => ∃ (o : Option Nat) (o3 o4 o5 o6 o7 : Option V), σ = [some (.ref D), some (.ref L), some (optV o), o3, o4, o5, o6, o7] ∧ Same H H' ∧ BestOf (nearOf qs) gs.length (gs.take j) (fun _ => gs.length) o)
    ⟨none, none, none, none, none, none, rfl, Same.refl _, fun s hs => nomatch hs⟩ (fun j σ H' _ z => by obtain ⟨_, _, _, _, _, _, _, z, _⟩ := z; exact Dw.sql_e (LamX.ExtN.of z) hL) ?_ ?_⟩
  · rintro j y σ H2' H2 hj ⟨o, o3, o4, o5, o6, o7, rfl, s2, best⟩ ⟨rfl, ey⟩
    rw [List.getElem?_map] at ey
    obtain ⟨st, hst, rfl⟩ := Option.map_eq_some_iff.mp ey
    have sg : st ∈ gs := List.mem_of_getElem? hst
    have snt : st ∉ gs.take j := fun h => by
      obtain ⟨i, hi⟩ := List.getElem?_of_mem h
      rw [List.getElem?_take] at hi
      split at hi
      · have := L2.nodup_ix nd0 hi hst
        omega
      · cases hi
    refine name_at ⟨_, rfl, by show 1 ≤ sizeLine; decide, fun R0 nR0 => name_at ?_⟩
    have s3 := s2.trans (Shg.same_upd (o := .lst [.str st]) nR0)
    have r3 : upd H2 R0 (.lst [.str st]) R0 = some (.lst ([st].map V.str)) := upd_same
    generalize upd H2 R0 (.lst [.str st]) = H3 at s3 r3 ⊢
    have lg : (gs.map V.str).length = gs.length := List.length_map _
    refine ⟨_, rfl, L, _, rfl, .inl (Dw.sql_e (LamX.ExtN.of s3) hL), _, _, rfl, rfl, 1, (gs.map V.str).length + 1, rfl, ⟨by decide, by decide, by omega, by omega⟩, ?_⟩
    rw [show (((gs.map V.str).length : Int) + 1 - 1).toNat = gs.length from by rw [lg]; omega]
    refine for_it (walk_range (lo := 1) (n := gs.length)) (fun t σ H' => ∃ (o : Option Nat) (R : Addr) (rs : List Str) (o5 o6 o7 : Option V), σ = [some (.ref D), some (.ref L), some (optV o), some (.str st), some (.ref R), o5, o6, o7] ∧ Same H H' ∧ H' R = some (.lst (rs.map V.str)) ∧ rs.Nodup ∧ (∀ m, m ∈ rs ↔ Reach (nearOf qs) st m t) ∧ BestOf (nearOf qs) gs.length (gs.take j ++ [st]) (limT st gs.length t) o)
      ⟨o, R0, [st], _, _, _, rfl, s3, r3, by simp, fun m => ?_, ?_⟩ (fun _ _ _ _ _ => trivial) ?_ ?_
    · rw [List.mem_singleton]
      constructor
      · rintro rfl
        exact reach0 _
      · rintro ⟨w, _, h2, h3⟩
        obtain rfl := List.eq_nil_of_length_eq_zero h3
        exact h2.symm
    · exact best_start best snt
    · rintro t v σ H4' H4 ht ⟨o, R, rs, o5, o6, o7, rfl, s4, eR, ndr, mem, best⟩ ⟨rfl, ev⟩
      have ev' : v = V.int ((t + 1 : Nat) : Int) := ev.trans (by show V.int (1 + (t : Int)) = _; congr 1; omega)
      clear ev
      subst ev'
      refine name_at ⟨Nat.zero_le _, fun L0 nL0 => name_at ?_⟩
      have s5 := s4.trans (Shg.same_upd (o := .lst []) nL0)
      have R5 := (Shg.same_upd (o := .lst []) nL0) _ _ eR
      have L5 : upd H4 L0 (.lst []) L0 = some (.lst ((([] : List Str).flatMap (nearOf qs)).map V.str)) := upd_same
      generalize upd H4 L0 (.lst []) = H5 at s5 R5 L5 ⊢
      have rsg : ∀ m ∈ rs, m ∈ gs := fun m hm => reach_in hF sg ((mem m).mp hm)
      have bound : ∀ k, ((rs.take k).flatMap (nearOf qs)).length ≤ 2000 := fun k => by
        have := near_sum qs (ns := rs.take k) (ndr.sublist (List.take_sublist k rs))
        omega
      refine ⟨_, rfl, R, rfl, ⟨_, SqL.of R5⟩, for_it (walk_list (K := K) (a := R) (xs := rs.map V.str)) (fun k σ H' => ∃ (La : Addr) (o7 : Option V), σ = [some (.ref D), some (.ref L), some (optV o), some (.str st), some (.ref R), some (.int ((t + 1 : Nat) : Int)), some (.ref La), o7] ∧ Same H H' ∧ H' R = some (.lst (rs.map V.str)) ∧ H' La = some (.lst (((rs.take k).flatMap (nearOf qs)).map V.str)))
        ⟨L0, _, rfl, s5, R5, L5⟩ (fun k σ H' _ z => by obtain ⟨_, _, _, _, z, _⟩ := z; exact SqL.of z) ?_ ?_⟩
      · rintro k y σ H6' H6 hk ⟨La, o7, rfl, s6, R6, L6⟩ ⟨rfl, ey⟩
        rw [List.getElem?_map] at ey
        obtain ⟨m, hm, rfl⟩ := Option.map_eq_some_iff.mp ey
        have hmg := rsg m (List.mem_of_getElem? hm)
        obtain ⟨a, i1, kv1, c1, c2, c3, c4, c5⟩ := near_get (near_same nk s6) hmg
        have e1 : (rs.take (k + 1)).flatMap (nearOf qs) = (rs.take k).flatMap (nearOf qs) ++ nearOf qs m := by
          rw [List.take_succ, hm, List.flatMap_append]
          simp
        have b1 := bound (k + 1)
        rw [e1, List.length_append] at b1
        refine name_at ⟨_, rfl, _, rfl, _, rfl, D, .ref a, rfl, ?_, La, a, _, _, rfl, rfl, L6, c5, ?_, fun p np => ?_⟩
        · rw [← c4]
          exact DGet.k (k := Sum.inr m) (s6 _ _ eD)
        · rw [List.length_map, List.length_map]
          omega
        · refine ⟨p, _, rfl, s6.trans (Shg.same_upd np), (Shg.same_upd np) _ _ R6, ?_⟩
          rw [upd_same, e1, List.map_append]
      · rintro σ H6 ⟨La, o7', rfl, s6, R6, L6⟩
        rw [List.length_map, List.take_length] at L6
        have b0 := bound rs.length
        rw [List.take_length] at b0
        refine nx_of (asg_rel (fun v H' => ∃ (p : Addr) (ks : List Str), v = .ref p ∧ Same H H' ∧ H' p = some (.lst (ks.map V.str)) ∧ ks.Nodup ∧ ∀ m, m ∈ ks ↔ Reach (nearOf qs) st m (t + 1)) (fun R0 h0 => ⟨_, rfl, La, _, rfl, SqL.of L6, by omega, fun sa n nsa ln => ⟨sa, _, n, rfl, upd_same, by omega, fun ks p srt ndk memk _ np => h0 _ _ ⟨p, ks, rfl, (s6.trans (Shg.same_upd nsa)).trans (Shg.same_upd np), upd_same, ndk, fun m => ?_⟩⟩⟩) fun v H7 h7 => ?_)
        · rw [memk m, decide_eq_true_eq, List.mem_flatMap, reach_snoc]
          exact ⟨fun ⟨b, h1, h2⟩ => ⟨b, (mem b).mp h1, h2⟩, fun ⟨b, h1, h2⟩ => ⟨b, (mem b).mpr h1, h2⟩⟩
        obtain ⟨p, ks, rfl, s7, K7, ndk, memt⟩ := h7
        refine name_at ?_
        have fin : ∀ (o' : Option Nat) (H8 : Hp), Same H7 H8 → BestOf (nearOf qs) gs.length (gs.take j ++ [st]) (limT st gs.length (t + 1)) o' → ∃ (o : Option Nat) (R : Addr) (rs : List Str) (o5 o6 o7 : Option V), [some (V.ref D), some (V.ref L), some (optV o'), some (V.str st), some (V.ref p), some (V.int ((t + 1 : Nat) : Int)), some (V.ref La), o7'] = [some (.ref D), some (.ref L), some (optV o), some (.str st), some (.ref R), o5, o6, o7] ∧ Same H H8 ∧ H8 R = some (.lst (rs.map V.str)) ∧ rs.Nodup ∧ (∀ m, m ∈ rs ↔ Reach (nearOf qs) st m (t + 1)) ∧ BestOf (nearOf qs) gs.length (gs.take j ++ [st]) (limT st gs.length (t + 1)) o := fun o' H8 s8 b => ⟨o', p, ks, _, _, _, rfl, s7.trans s8, s8 _ _ K7, ndk, memt, b⟩
        by_cases h1 : (t + 1) % 2 = 1
        · refine and_yes (fun R h => ⟨_, rfl, _, _, rfl, rfl, (by show (0 : Int) < 2; decide), rfl, _, rfl, ?_⟩) ?_
          · have : decide (V.int (((t + 1 : Nat) : Int) % 2) = V.int 1) = true := by rw [show ((t + 1 : Nat) : Int) % 2 = 1 from by omega]; rfl
            exact this ▸ h
          by_cases h2 : st ∈ ks
          · refine and_yes (fun R h => ⟨_, rfl, _, rfl, p, _, rfl, .inl (SqL.of K7), rfl, Sh1.flat_strs _, _, rfl, ?_⟩) ?_
            · rw [if_neg Bool.false_ne_true, inV_strs]
              rw [show (ks.any fun y => y == st) = true from List.any_eq_true.mpr ⟨st, h2, by simp⟩]
              exact h
            cases o with
            | none =>
              refine ans_or true true (fun R h => ⟨_, rfl, _, rfl, ?_⟩) (fun H5 s5 z => nomatch z) fun H5 s5 => ?_
              · exact h _ (Same.refl _)
              · exact iteT ⟨_, rfl, fin (some (t + 1)) H5 s5 (best_yes best (List.mem_append_right _ (List.mem_singleton.mpr rfl)) h1 ((memt st).mp h2) (fun b z => nomatch z) ht)⟩
            | some b =>
              refine ans_or false (decide (t + 1 < b)) (fun R h => ⟨_, rfl, _, rfl, ?_⟩) (fun H5 s5 _ R h => ⟨_, rfl, _, rfl, _, _, rfl, rfl, _, rfl, ?_⟩) fun H5 s5 => ?_
              · exact h _ (Same.refl _)
              · have : decide (((t + 1 : Nat) : Int) < ((b : Nat) : Int)) = decide (t + 1 < b) := decide_eq_decide.mpr Int.ofNat_lt
                exact this ▸ h _ (Same.refl _)
              · rw [Bool.false_or]
                by_cases hb : t + 1 < b
                · rw [decide_eq_true hb]
                  exact iteT ⟨_, rfl, fin (some (t + 1)) H5 s5 (best_yes best (List.mem_append_right _ (List.mem_singleton.mpr rfl)) h1 ((memt st).mp h2) (fun b' z => by cases z; exact hb) ht)⟩
                · rw [decide_eq_false hb]
                  exact iteF (fin (some b) H5 s5 (best_no best fun _ _ => ⟨b, rfl, by omega⟩))
          · refine and_not (fun R h => ⟨_, rfl, _, rfl, p, _, rfl, .inl (SqL.of K7), rfl, Sh1.flat_strs _, _, rfl, ?_⟩) (iteF ?_)
            · rw [if_neg Bool.false_ne_true, inV_strs]
              rw [show (ks.any fun y => y == st) = false from List.any_eq_false.mpr fun y hy z => h2 (by rw [← eq_of_beq z]; exact hy)]
              exact h
            · exact fin o _ (Same.refl _) (best_no best fun _ r => absurd ((memt st).mpr r) h2)
        · refine and_not (fun R h => ⟨_, rfl, _, _, rfl, rfl, (by show (0 : Int) < 2; decide), rfl, _, rfl, ?_⟩) (iteF ?_)
          · have : decide (V.int (((t + 1 : Nat) : Int) % 2) = V.int 1) = false := by rw [show ((t + 1 : Nat) : Int) % 2 = 0 from by omega]; rfl
            exact this ▸ h
          · exact fin o _ (Same.refl _) (best_no best fun z => absurd z h1)
    · rintro σ H4 ⟨o, R, rs, o5, o6, o7, rfl, s4, eR, ndr, mem, best⟩
      refine ⟨o, _, _, _, _, _, rfl, s4, ?_⟩
      rw [show limT st gs.length gs.length = fun _ => gs.length from funext fun x => by unfold limT; split <;> rfl] at best
      rw [List.take_succ, hst]
      exact best
  · rintro σ H2 ⟨o, o3, o4, o5, o6, o7, rfl, s2, best⟩
    rw [List.length_map, List.take_length] at best
    exact ⟨_, rfl, k o H2 s2 best⟩
end
end Fp
set_option Elab.async false
set_option linter.all false
set_option maxRecDepth 100000
set_option maxHeartbeats 2000000
/-! t[:j:-1] of a tuple; xs[i:] = ys. -/
namespace Sho
open PySem PySem.Spec PyProof.Rows L2 HT
theorem adjust_down {j n : Nat} (h : j < n) : Builtin.Slice.sliceAdjust none (some (j : Int)) (-1) (n : Int) = ((n : Int) - 1, (j : Int)) := by
  unfold Builtin.Slice.sliceAdjust
  have e1 : ¬ ((j : Int) < 0) := by omega
  have e2 : min (j : Int) ((n : Int) - 1) = j := by omega
  simp only [show ((-1 : Int) < 0) by decide, if_true, e1, if_false, e2]
theorem places_down {j n : Nat} (h : j < n) : Builtin.Slice.slicePlaces ((n : Int) - 1) (j : Int) (-1) = n - 1 - j := by
  unfold Builtin.Slice.slicePlaces
  rw [if_neg (by decide : ¬ ((-1 : Int) > 0))]
  have e : (((n : Int) - 1 - j - 1) / (- -1)) = (n : Int) - 1 - j - 1 := by rw [show (- -1 : Int) = 1 by decide, Int.ediv_one]
  rw [e]
  split <;> omega
theorem pick_down (xs : Array Value) {j : Nat} (h : j < xs.size) : ((List.range (xs.size - 1 - j)).filterMap fun (m : Nat) => xs[((xs.size : Int) - 1 + (m : Int) * (-1)).toNat]?) = (xs.toList.drop (j + 1)).reverse := by
  have e1 : ((List.range (xs.size - 1 - j)).filterMap fun (m : Nat) => xs[((xs.size : Int) - 1 + (m : Int) * (-1)).toNat]?) = ((List.range (xs.size - 1 - j)).map fun k => xs.size - 1 - j - 1 - k).filterMap fun m => xs[(j + 1) + m]? := by
    rw [List.filterMap_map]
    have key : ∀ l : List Nat, (∀ m ∈ l, m < xs.size - 1 - j) → l.filterMap (fun (m : Nat) => xs[((xs.size : Int) - 1 + (m : Int) * (-1)).toNat]?) = l.filterMap ((fun m => xs[(j + 1) + m]?) ∘ fun k => xs.size - 1 - j - 1 - k) := fun l => by
      induction l with
      | nil => exact fun _ => rfl
      | cons m l ih =>
        intro hl
        have hm := hl m List.mem_cons_self
        rw [List.filterMap_cons, List.filterMap_cons, ih fun k hk => hl k (List.mem_cons_of_mem _ hk)]
        have e : ((xs.size : Int) - 1 + (m : Int) * (-1)).toNat = (j + 1) + (xs.size - 1 - j - 1 - m) := by omega
        rw [e]
        rfl
    exact key _ fun m hm => List.mem_range.mp hm
  have e2 := pick_run xs (j + 1) (xs.size - 1 - j)
  rw [List.filterMap_map] at e2
  rw [e1, PySem.W.krv_range, List.filterMap_reverse]
  have e3 : ((fun x => xs[x]?) ∘ fun x => (j + 1) + x) = fun m => xs[(j + 1) + m]? := rfl
  rw [e3] at e2
  rw [e2, List.take_of_length_le (by rw [List.length_drop, Array.length_toList]; omega)]
section
variable {prog : Program} {w : World} {A : Around} {E : Value → Shared → Prop} {s : Shared}
theorem applied_down {sl : Addr} {vu vs : Value} {j n : Nat} {Q : Int × Int × Nat → Shared → Prop} (hs : s.heap.IsSliceOf sl .none vu vs) (pu : IsPart vu (some (j : Int))) (ps : IsPart vs (some (-1))) (hj : j < n)
    (h : Q ((n : Int) - 1, -1, n - 1 - j) s) : wpAny (model prog w) A (Builtin.Slice.sliceApplied (.ref sl) (pure (n : Int))) Q E s := by
  obtain ⟨os, hos, _, hds⟩ := id hs
  unfold Builtin.Slice.sliceApplied Builtin.Slice.sliceFields
  refine wpAny_bind (wpAny_bind (wpAny_field hos hds (x := .none) rfl (wpAny_bind (wpAny_field hos hds (x := vu) rfl (wpAny_bind (wpAny_field hos hds (x := vs) rfl (wpAny_pure ?_)))))))
  refine wpAny_bind (slicePart_ ps ?_)
  show wpAny _ _ (if ((-1 : Int) == 0) = true then _ else _) _ _ s
  rw [if_neg (show ¬ (((-1 : Int) == 0) = true) by decide)]
  refine wpAny_bind (slicePart_none (wpAny_bind (slicePart_ pu (wpAny_bind (wpAny_pure ?_)))))
  show wpAny _ _ (match Builtin.Slice.sliceAdjust none (some (j : Int)) (-1) (n : Int) with | (lo, hi) => pure (lo, (-1 : Int), Builtin.Slice.slicePlaces lo hi (-1))) _ _ s
  rw [adjust_down hj]
  show wpAny _ _ (pure ((n : Int) - 1, (-1 : Int), Builtin.Slice.slicePlaces ((n : Int) - 1) (j : Int) (-1))) _ _ s
  rw [places_down hj]
  exact wpAny_pure h
theorem getItem_tuple_down {t sl : Addr} {items : Array Value} {vu vs : Value} {j : Nat} {Q : Value → Shared → Prop} (ht : IsTup s.heap t items) (hs : s.heap.IsSliceOf sl .none vu vs) (pu : IsPart vu (some (j : Int))) (ps : IsPart vs (some (-1))) (hj : j < items.size) (hz : items.size ≤ sizeLine)
    (h : Q (.ref s.heap.objs.size) { s with heap := s.heap.push { cls := .type "tuple", data := .seq (items.toList.drop (j + 1)).reverse.toArray } }) : wpAny (model prog w) A (getItem (.ref t) (.ref sl)) Q E s := by
  have hok : sizeOk (.seq (items.toList.drop (j + 1)).reverse.toArray) := by
    show (items.toList.drop (j + 1)).reverse.toArray.size ≤ sizeLine
    rw [List.size_toArray, List.length_reverse, List.length_drop, Array.length_toList]
    omega
  obtain ⟨os, hos, hcs, _⟩ := id hs
  have hT : s.TypeIs (.ref sl) "slice" := ⟨os, hos, hcs⟩
  unfold getItem
  try with_reducible refine wpAny_holding ?_
  first | (refine wpAny_bind (wpAny_pure ?_)) | skip
  refine wpAny_bind (wpAny_sequenceKey ht.typeIs (show _ by decide) ?_)
  refine wpAny_bind (wpAny_callSpecial?_slot (name := Str.ofString "__getitem__") ht.typeIs PyProof.Rows.slot_tuple_getitem (wpAny_call_entry PyProof.Rows.slot_tuple_getitem ht.typeIs entry_tuple_getitem ?_ (args_tuple_getitem _ _)))
  show wpAny _ _ (Builtin.Tuple.tupleItemsOf (.ref t) >>= _) _ _ s
  refine wpAny_bind (tupleItemsOf_ ht (wpAny_bind (wpAny_typeOf hT ?_)))
  rw [if_pos (by decide)]
  refine wpAny_bind (applied_down hs pu ps hj ?_)
  show wpAny _ _ (if (((items.size : Int) - 1 == 0) && (-1 : Int) == 1 && (items.size - 1 - j) == items.size) = true then _ else _) _ _ s
  rw [if_neg (by rw [show ((-1 : Int) == 1) = false by decide, Bool.and_false, Bool.false_and]; exact Bool.false_ne_true)]
  have e := pick_down items hj
  rw [e]
  first
    | exact wpAny_bind (m := Builtin.Tuple.tupleExact _) (wpAny_newObj_type (wpAny_pure ⟨_, rfl, wpAny_pure h⟩) hok)
    | exact wpAny_bind (m := Builtin.Tuple.tupleExact _) (wpAny_newObj_type (wpAny_bind (wpAny_pure (wpAny_pure ⟨_, rfl, wpAny_pure h⟩))) hok)
    | exact wpAny_bind (wpAny_bind (m := Builtin.Tuple.tupleExact _) (wpAny_newObj_type (wpAny_pure (wpAny_pure ⟨_, rfl, wpAny_pure h⟩)) hok))
    | exact wpAny_bind (wpAny_bind (m := Builtin.Tuple.tupleExact _) (wpAny_newObj_type (wpAny_pure ⟨_, rfl, wpAny_pure h⟩) hok))
end
/-- te: the tuple; th: the place at which it ends; ts: the step, which must be -1 -/
def tDown (K : PySem.W.Frag) (te : TE) (th ts : TO) : TE := fun σ H Q => te σ H fun x H1 => th σ H1 fun o1 H2 => ts σ H2 fun o H3 => o = some (-1) ∧ ∃ a xs j, x = .ref a ∧ o1 = some ((j : Nat) : Int) ∧ SqT K H3 a xs ∧ j < xs.length ∧ ∀ p, H3 p = none → Q (.ref p) (upd H3 p (.tup (xs.drop (j + 1)).reverse))
theorem pe_down {X : Cx} {e hi st : Expr} {te : TE} {th ts : TO} {pp pos : Pos} (he : PE X e te) (hh : PO X (some hi) th) (hst : PO X (some st) ts) : PE X (.Subscript e (.Slice none (some hi) (some st) pp) pos) (tDown X.K te th ts) := by
  refine ⟨fun pins s σ H Q I h => Subscript_ (thn (he.run pins s σ H _ I h) fun v sa ⟨x, Ha, Ia, ra, qa⟩ => ?_)⟩
  refine wpAny_Slice (thn (po_none.run pins sa σ Ha (fun o G => o = none ∧ G = Ha) Ia ⟨rfl, rfl⟩) fun va sb ⟨oa, Hb, Ib, pa, za, zb⟩ => ?_)
  obtain rfl := za
  obtain rfl := zb
  refine thn (hh.run pins sb σ Hb _ Ib qa) fun vb sc ⟨ob, Hc, Ic, pb, qc⟩ => thn (hst.run pins sc σ Hc _ Ic qc) fun vc sd ⟨oc, Hd, Id, pc, zo, a, xs, j, zx, zj, hx, hj, q⟩ => ?_
  subst zo zx zj
  cases ra
  cases pa
  have Ie : Inv X pins σ Hd { sd with heap := sd.heap.push { cls := .type "slice", data := .fields #[.none, vb, vc] } } := Id.kept (t' := sd.toks) fun _ _ z => Heap.get?_push_of_some _ z
  obtain ⟨its, rv, pl, hz⟩ := Ie.tuple hx
  have len := rv.length
  show wpAny (model X.prog X.w) X.A (subscriptTail e (.Slice none (some hi) (some st) pp) (.ref a) (.ref sd.heap.objs.size)) (EP X pins σ Q) X.xe _
  refine tail_any (ops := [.ref a, .ref sd.heap.objs.size]) pl.typeIs (PyProof.Rows.slot_tuple_getitem.lookup) ?_ (by with_unfolding_all rfl)
  refine getItem_tuple_down pl (Heap.IsSliceOf.new _ .none vb vc) pb pc (by rw [List.size_toArray, ← len]; exact hj) (by rw [List.size_toArray, ← len]; exact hz) ?_
  refine ⟨.ref _, _, Ie.laid (t' := sd.toks) (o := .tup (xs.drop (j + 1)).reverse) (fun _ _ z => Heap.get?_push_of_some _ z) (Nat.le_refl _) ⟨by rw [List.length_reverse, List.length_drop]; omega, _, (rv.drop (j + 1)).reverse, ⟨_, Heap.get?_push_size _ rfl, rfl, _, rfl⟩⟩, rfl, q _ (Ie.hok.fresh (Nat.le_refl _))⟩
/-! ### xs[i:] = ys -/
theorem bounds_tail {a n : Nat} (h : a ≤ n) : sliceBounds (some (a : Int)) none none n = ((a : Int), (n : Int), 1) := by
  simp only [sliceBounds, Option.getD_none]
  have h1 : ¬ ((a : Int) < 0) := by omega
  simp only [h1, if_false, show (1 : Int) > 0 by decide, if_true]
  congr 1
  omega
theorem splice_tail (xs ys : List Value) (a : Nat) : xs.toArray.extract 0 a ++ ys.toArray ++ xs.toArray.extract xs.length xs.toArray.size = (xs.take a ++ ys).toArray := by
  apply Array.toList_inj.mp
  simp
section
variable {prog : Program} {w : World} {A : Around} {E : Value → Shared → Prop} {s : Shared}
theorem setItem_tail {l b sl : Addr} {items new : Array Value} {n n2 : Nat} {vl : Value} {a : Nat} {Q : Unit → Shared → Prop} (e : s.heap.get? l = some { cls := .type "list", data := .seq items n }) (e2 : s.heap.get? b = some { cls := .type "list", data := .seq new n2 }) (hne : l ≠ b)
    (hs : s.heap.IsSliceOf sl vl .none .none) (pl : IsPart vl (some (a : Int))) (ha : a ≤ items.size) (hsz : items.size + new.size ≤ sizeLine)
    (h : Q () { s with heap := s.heap.update l (Obj.mapSeq fun xs => xs.extract 0 a ++ new ++ xs.extract items.size xs.size) }) : wpAny (model prog w) A (setItem (.ref l) (.ref sl) (.ref b)) Q E s := by
  have hl : s.heap.IsList l items := PySem.IsL.isList e
  have hb : s.heap.IsList b new := PySem.IsL.isList e2
  obtain ⟨os, hos, hcs, hds⟩ := id hs
  have hT : s.TypeIs (.ref sl) "slice" := ⟨os, hos, hcs⟩
  have hsame : Builtin.List.listSameRef (.ref l) (.ref b) = false := by unfold Builtin.List.listSameRef; exact beq_eq_false_iff_ne.mpr hne
  have hmax : (max (a : Int) (items.size : Int)).toNat = items.size := by omega
  have hz' : ((fun xs : Array Value => xs.extract 0 a ++ new ++ xs.extract items.size xs.size) items).size ≤ sizeLine + 1 := by simp only [Array.size_append, Array.size_extract]; omega
  unfold setItem
  try with_reducible refine wpAny_holding ?_
  first | (refine wpAny_bind (wpAny_pure ?_)) | skip
  refine wpAny_bind (wpAny_sequenceKey hl.typeIs (show _ by decide) (wpAny_bind (wpAny_callSpecial?_slot (name := Str.ofString "__setitem__") hl.typeIs slot_list_setitem (wpAny_call_entry slot_list_setitem hl.typeIs entry_list_setitem ?_ (args_list_setitem _ _ _)))))
  show wpAny _ _ (Builtin.List.listSubscript? (.ref sl) >>= _) _ _ s
  refine wpAny_bind ?_
  unfold Builtin.List.listSubscript?
  refine wpAny_bind (wpAny_specialOf hT slice_no_index ?_)
  simp only [Option.isNone_none, if_true]
  refine wpAny_pure ?_
  show wpAny _ _ (typeOf (.ref sl) >>= _) _ _ s
  refine wpAny_bind (wpAny_typeOf hT ?_)
  first | (rw [if_neg (by decide)]) | (refine PySem.W.KFB.if_not (by decide) ?_)
  rw [listSliceParts_eq]
  refine wpAny_bind (wpAny_bind (wpAny_field hos hds (x := .none) rfl (wpAny_bind (wpAny_listPart (k := none) .none ?_))))
  rw [if_neg (show ¬ ((rawPart none == rawInt 0) = true) from Bool.false_ne_true)]
  refine wpAny_bind (wpAny_field hos hds (x := vl) rfl (wpAny_bind (wpAny_listPart pl (wpAny_bind (wpAny_field hos hds (x := .none) rfl (wpAny_bind (wpAny_listPart (k := none) .none (wpAny_pure ?_))))))))
  first | (simp only [hsame, Bool.false_eq_true, if_false]) | (refine PySem.W.KFB.if_not hsame ?_) | (dsimp only; rw [if_neg (by rw [hsame]; exact Bool.false_ne_true)])
  refine wpAny_bind (m := Builtin.List.listAllItems (.ref b) "must assign iterable to extended slice") (?_ : wpAny _ _ _ _ _ _)
  unfold Builtin.List.listAllItems
  refine wpAny_bind (wpAny_typeOf hb.typeIs (?_ : wpAny _ _ _ _ _ _))
  first | (refine PySem.W.KFB.if_so (by decide) ?_) | (rw [if_pos (by decide)]) | (simp only [beq_self_eq_true, Bool.true_or, if_true])
  unfold Builtin.List.listItems
  refine wpAny_bind (wpAny_seqItems e2 rfl (wpAny_pure (wpAny_bind (wpAny_bind (wpAny_seqItems e rfl (wpAny_pure ?_))))))
  refine wpAny_bind (wpAny_of_eq ((sliceIndices_raw (some (a : Int)) none none items.size (by simp)).trans (congrArg (pure : Int × Int × Int → Sem (Int × Int × Int)) (bounds_tail ha))) ?_)
  show wpAny _ _ (if ((1 : Int) == 1) = true then _ else _) _ _ s
  rw [if_pos (show ((1 : Int) == 1) = true by decide)]
  refine wpAny_bind (wpAny_rule ?_)
  first | (simp only [notLongL hsz, Bool.false_eq_true, if_false]) | (refine PySem.W.KFB.if_not (notLongL hsz) ?_)
  first | (refine wpAny_bind (wpAny_pure ?_)) | skip
  show wpAny _ _ (updateSeq l (fun xs => xs.extract 0 ((a : Int)).toNat ++ new ++ xs.extract (max (a : Int) (items.size : Int)).toNat xs.size) >>= _) _ _ s
  rw [hmax, Int.toNat_natCast]
  refine wpAny_bind (wpAny_updateSeq (hz := Nat.le_trans (Nat.le_add_right _ _) hsz) (_hz' := hz') e rfl (wpAny_bind (wpAny_letGo ?_)))
  first | exact wpAny_bind (wpAny_pure (wpAny_pure ⟨.none, rfl, wpAny_pure h⟩)) | exact wpAny_pure ⟨.none, rfl, wpAny_pure h⟩
end
/-- xs[i:] = v -/
def gTail (to : TE) (ti : TO) : TG := fun v σ H Q => to σ H fun x H1 => ti σ H1 fun o H2 => ∃ l b xs ys a, x = .ref l ∧ v = .ref b ∧ o = some ((a : Nat) : Int) ∧ H2 l = some (.lst xs) ∧ H2 b = some (.lst ys) ∧ l ≠ b ∧ a ≤ xs.length ∧ xs.length + ys.length ≤ sizeLine ∧
  Q σ (upd H2 l (.lst (xs.take a ++ ys)))
theorem pg_tail {X : Cx} {o i : Expr} {to : TE} {ti : TO} {p2 pos : Pos} (ho : PE X o to) (hi : PO X (some i) ti)
    (ha : ∀ v, assign (.Subscript o (.Slice (some i) none none p2) pos) X.env v = (do
      let ov ← holding [v] (eval o X.env)
      let iv ← holding [v, ov] (eval (.Slice (some i) none none p2) X.env)
      standAt pos
      holding [v, ov, iv] (setItem ov iv v)
      release [iv, v, ov] []) := by intro _; rfl) : PG X (.Subscript o (.Slice (some i) none none p2) pos) (gTail to ti) := by
  refine ⟨fun pins s σ H v u Q I r h => ?_⟩
  rw [ha]
  refine wpAny_bind (wpAny_holding (thn (ho.run pins s σ H _ I h) fun ov s1 ⟨x, H1, I1, r1, q1⟩ => wpAny_bind (wpAny_holding ?_)))
  refine wpAny_Slice (thn (hi.run pins s1 σ H1 _ I1 q1) fun va s2 ⟨oa, H2, I2, pa, l, b, xs, ys, a, ex, ev, eo, hl, hb, ne, hle, hz, q⟩ => ?_)
  subst ex ev eo
  cases r1
  cases r
  rw [evalPart_none]
  refine wpAny_pure (wpAny_pure ?_)
  have I3 : Inv X pins σ H2 { s2 with heap := s2.heap.push { cls := .type "slice", data := .fields #[va, .none, .none] } } := I2.kept (t' := s2.toks) fun _ _ z => Heap.get?_push_of_some _ z
  obtain ⟨z, its, n, rv, _, e⟩ := I3.lstM hl
  obtain ⟨z2, its2, n2, rv2, _, e2⟩ := I3.lstM hb
  have l1 := rv.length
  have l2 := rv2.length
  refine wpAny_bind (wpAny_standAt (wpAny_bind (wpAny_holding ?_)))
  refine setItem_tail (a := a) e e2 ne (Heap.IsSliceOf.new _ va .none .none) pa (by rw [List.size_toArray, ← l1]; exact hle) (by rw [List.size_toArray, List.size_toArray, ← l1, ← l2]; exact hz) ?_
  refine wpAny_release ⟨σ, _, ?_, q⟩
  refine I3.lset (its' := its.take a ++ its2) (t' := s2.toks) hl e ?_ ((rv.take a).append rv2) ?_
  · have := splice_tail its its2 a
    rw [List.size_toArray]
    exact this
  · rw [List.length_append, List.length_take]
    omega
end Sho
set_option Elab.async false
set_option linter.all false
set_option maxRecDepth 100000
set_option maxHeartbeats 8000000
set_option autoImplicit false
/-! judge_ring. -/
namespace Ck
open PySem L2 Sho NdefX Shg Sh1 Gq
abbrev nfRing (cc cda : Addr) : NF := ⟨"__init__", "InvalidRing.__init__", defArgs sRingInit, defBody sRingInit, defScope sRingInit, [("__class__", cc)], cda⟩
section
variable {X : Cx} {CX : CXT} {C : Addr} {k : Nat} {kws : List Keyword} {te : TA} {p pos : Pos}
theorem pmk_ring (EC : ErrC X.prog X.K X.mg "InvalidRing" "index" nfRing C) (hr : Room (k + 2) X.A) (hx : Passes CX X (fun _ _ _ => False)) (hg : Gl X "InvalidRing")
    (hkw : PK X kws te) (hall : (backToKw pos (keywordEach kws X.env)).all (·.1.isSome) = true) (hks : (backToKw pos (keywordEach kws X.env)).filterMap (·.1) = [("index" : Str)])
    (hpl : ((backTo pos (starEach [] X.env)).any (·.1) || (backToKw pos (keywordEach kws X.env)).any (·.1.isNone)) = false) : PMk X (.Call (.Name "InvalidRing" p) [] kws pos) (tMkW C "index" te) := by
  obtain ⟨f, cc, cda, T, iC, tI⟩ := EC.txt
  have S : NScope ["self", "index", "__class__"] ["self", "index"] ["__class__"] (defScope sRingInit) := nscope_by (by decide +kernel)
  refine pmk_kw (F := nfRing cc cda) (fld := "index") (k := k) T EC.cls EC.xf EC.no iC tI S hr hx hg EC.gm hkw hall hks hpl rfl (fun s doc pm an ct xa u => .of_eq rfl) (fun A outer s H E xa v hv => ?_) (fun L => rfl) (fun L => rfl) (fun L => rfl)
  refine ⟨_, pa_cons (pe_joined (.cons pe_str (.cons (pe_fmt (pv 1)) .nil))) pa_nil, fun R hR => ?_⟩
  have e0 : (Str.empty ++ Str.ofString "the ring breaks at ").length ≤ 30 := by decide +kernel
  refine ⟨_, rfl, Nat.le_trans e0 (by decide), v, rfl, ?_⟩
  rcases tells_len hv with ⟨y, rfl, hy⟩ | ⟨i, rfl, hi, hl⟩
  · have l1 := small_cat e0 hy
    exact .inl ⟨y, rfl, Nat.le_trans hy (by decide), y, rfl, Nat.le_trans l1 (by decide), hR _⟩
  · have l1 := small_cat e0 hl
    exact .inr ⟨i, rfl, hi, _, rfl, Nat.le_trans l1 (by decide), hR _⟩
end
/-- a guest that is none, or that came before -/
def badA (gs names : List Str) (i : Nat) (n : Str) : Bool := !(gs.any fun y => y == n) || (names.take i).any fun y => y == n
/-- .. who does not cross the one before -/
def badB (f : Str → List Str) (names : List Str) (i : Nat) (n : Str) : Bool := decide (0 < i) && !((f (names.getD (i - 1) "")).any fun y => y == n)
def badAt (f : Str → List Str) (gs names : List Str) (i : Nat) : Bool := badA gs names i (names.getD i "") || badB f names i (names.getD i "")
/-- it does not close -/
def open_ (f : Str → List Str) (names : List Str) : Bool := decide (names.length < 2) || !((f (names.getD (names.length - 1) "")).any fun y => y == names.getD 0 "")
/-- the judgement: where it breaks, or how many piles it shows to be needed -/
def judge (f : Str → List Str) (gs names : List Str) : Sum Nat Nat := match (List.range names.length).find? (badAt f gs names) with
  | some i => .inl i
  | none => if open_ f names = true then .inl names.length else .inr (2 + names.length % 2)
theorem judge_bad {f : Str → List Str} {gs names : List Str} {i : Nat} (hi : i < names.length) (hb : badAt f gs names i = true) (h : ∀ j, j < i → badAt f gs names j = false) : judge f gs names = .inl i := by
  have : (List.range names.length).find? (badAt f gs names) = some i := by
    rw [List.find?_range_eq_some]
    exact ⟨hb, List.mem_range.mpr hi, fun j hj => by rw [h j hj]; rfl⟩
  unfold judge
  rw [this]
theorem judge_good {f : Str → List Str} {gs names : List Str} (h : ∀ j, j < names.length → badAt f gs names j = false) : judge f gs names = if open_ f names = true then .inl names.length else .inr (2 + names.length % 2) := by
  have : (List.range names.length).find? (badAt f gs names) = none := List.find?_eq_none.mpr fun j hj => by rw [h j (List.mem_range.mp hj)]; exact Bool.false_ne_true
  unfold judge
  rw [this]
theorem near_is {H : Hp} {kvs : List (Key × V)} {ns : List Str} {f : Str → List Str} (r : NearK H kvs ns f) (n : Str) : (valV kvs (.inr n)).isSome = ns.any fun y => y == n := by
  unfold NearK at r
  induction r with
  | nil => rfl
  | @cons kv m kvs ns h r ih =>
    rw [List.any_cons]
    by_cases e : m = n
    · subst e
      rw [valV_pos h.1]
      simp
    · rw [valV_neg (fun z => e (by rw [h.1] at z; exact Sum.inr.inj z)), ih]
      simp [e]
theorem cut_take (ws : List V) (k : Nat) : cutV ws none (some (k : Int)) = ws.take k := by
  unfold cutV
  rw [HT.sIx_none, HT.sIx_nat, List.drop_zero, Nat.sub_zero]
  by_cases h : k ≤ ws.length
  · rw [Nat.min_eq_left h]
  · rw [Nat.min_eq_right (by omega), List.take_length, List.take_of_length_le (by omega)]
theorem atI_m1 {xs : List V} {x : V} (h : 1 ≤ xs.length) (e : xs[xs.length - 1]? = some x) : atI xs (-1) = some x := by
  have hne : xs ≠ [] := fun z => by rw [z] at h; exact absurd h (by decide)
  have e2 : xs.getLast hne = x := by
    rw [List.getElem?_eq_getElem (by omega)] at e
    rw [List.getLast_eq_getElem]
    exact Option.some.inj e
  have e3 := List.dropLast_concat_getLast hne
  rw [e2] at e3
  rw [← e3]
  exact atI_last _ _
theorem walk_enumL {K : PySem.W.Frag} {a : Addr} {xs : List V} : Walk (Ite K a) xs.length (fun H => SqL K H a xs) (YPair (fun i => some (.int (i : Nat))) (fun i => xs[i]?)) := by
  refine ⟨fun i H hi q => ⟨xs, xs[i], q, by simp [hi]⟩, fun H q => ⟨xs, q, Nat.le_refl _⟩, fun i H v H' _ q y => ?_⟩
  obtain ⟨T, x, h1, h2, h3, h4⟩ := y
  exact ⟨T, .int (i : Nat), x, h1, h2, h3, rfl, h4 xs q⟩
abbrev NJr : List Str := ["party", "names", "crossing", "index", "name"]
section
variable {P : Program} {w : World} {K : PySem.W.Frag} {mg : Str → Option Value} {base : Heap}
def spJudge (K : PySem.W.Frag) (C CR : Addr) (T : List (Addr × Str)) : Sp := fun vs H Q E => ∃ (p b : Addr) (xs : List Stay) (names : List Str), vs = [.ref p, .ref b] ∧ PartyAt C H p xs ∧ Short xs ∧ xs.length ≤ 100 ∧ (xs.map fun x => x.1).Nodup ∧ SqL K H b (names.map V.str) ∧ names.length ≤ 1000 ∧ (∀ n ∈ names, n.length ≤ 1000 ∧ n.cps.all (· < 0x110000) = true) ∧ LamX.Tabs T H ∧
  (∀ n, judge (nearOf (crossed (xs.map rw3))) (xs.map fun x => x.1) names = .inr n → ∀ H', Grows T H H' → Q (.int (n : Nat)) H') ∧
  ∀ i, judge (nearOf (crossed (xs.map rw3))) (xs.map fun x => x.1) names = .inl i → ∀ (H' : Hp) (d : Addr), Grows T H H' → H' d = some (.xd [(("index" : Str), .int (i : Nat))]) → E (.ref CR) (some d) H'
theorem scJr : FnScope NJr ["party", "names"] (defScope sJudgeRing) := ⟨rfl, rfl, rfl, by decide +kernel, rfl, by decide +kernel, by decide +kernel⟩
theorem ok_judge {f C CR fN : Addr} {fd fdN : FuncData} {T : List (Addr × Str)} (F : Fun K "judge_ring" "judge_ring" sJudgeRing f fd) (B : Shg.Blt mg) (EC : ErrC P K mg "InvalidRing" "index" nfRing CR)
    (GN : FnOk P w K mg base CX0 10 fN fdN ["party"] (spNear C T)) (mN : mg "_crossing_names" = some (.ref fN)) (kN : PySem.W.keepIn K (.ref fN) = true) (bN : Binds K fdN ["party"] []) :
    FnOk P w K mg base (L2.CX P w) 11 f fd ["party", "names"] (spJudge K C CR T) := by
  refine F.okX scJr (fun vs H Q E h => ?_) (fun cdv A outer s H vs Q E hr h => ?_)
  · obtain ⟨p, b, xs, names, rfl, _⟩ := h
    rfl
  obtain ⟨p, b, xs, names, rfl, PA, hs, hl, nm, hb, ln, on, hT, kOk, kBad⟩ := h
  have nd := scJr.nd
  have passL : Passes (L2.CX P w) (cxOf (L2.CX P w) P w K mg base NJr "judge_ring" (defScope sJudgeRing) f cdv A outer s H E) (fun _ _ _ => False) := passes_call (takes_of rfl rfl rfl rfl) fun _ _ _ _ z => z.elim
  refine ⟨_, pss_cons (ps_set (i := 2) nd rfl (Or.inl rfl) (pe_call GN (hr.mono (by decide)) rfl mN kN bN .nil pass0 (pa_cons (pv 0) pa_nil)))
    (pss_cons (ps_for (passes_of rfl) rfl (pi_enum (by rfl) B.enum (pa_cons (pv 1) pa_nil)) (pg_tup rfl (pgs_cons (pg_name (i := 3) nd rfl (Or.inl rfl)) (pgs_cons (pg_name (i := 4) nd rfl (Or.inl rfl)) pgs_nil)))
      (pss_cons (ps_if (PW.pt (pw_or (pt_cmp (pc_dnotin (units1 hr) (pv 4) (pv 2)) rfl) (pw_or1 (pt_cmpR op_in_seq (pv 4) (pe_slice sl_list (pv 1) po_none (po_some (pv 3))) rfl)))) (pss_one (ps_raise rfl (takes_of rfl rfl rfl rfl) (pmk_ring (k := 0) EC (hr.mono (by decide)) passL (by rfl) (pk_cons (pv 3) pk_nil) rfl rfl rfl))) pss_nil)
        (pss_one (ps_if (PW.pt (pw_and (pt_cmpR op_gt (pv 3) pe_int (nomark _)) (pw_and1 (pt_cmpR op_notIn_seq (pv 4) (pe_dget (units1 hr) (pv 2) (pe_ix ix_list (pv 1) (pe_op op_sub (pv 3) pe_int) (fun _ _ => rfl)) (fun _ _ => rfl)) rfl)))) (pss_one (ps_raise rfl (takes_of rfl rfl rfl rfl) (pmk_ring (k := 0) EC (hr.mono (by decide)) passL (by rfl) (pk_cons (pv 3) pk_nil) rfl rfl rfl))) pss_nil))))
    (pss_cons (ps_if (PW.pt (pw_or (pt_cmpR op_lt (pe_callB call_len_seq (by rfl) B.len PySem.boot_len (pa_cons (pv 1) pa_nil)) pe_int (nomark _)) (pw_or1 (pt_cmpR op_notIn_seq (pe_ix ix_list (pv 1) pe_int (fun _ _ => rfl)) (pe_dget (units1 hr) (pv 2) (pe_ix ix_list (pv 1) (pe_un un_neg pe_int) (fun _ _ => rfl)) (fun _ _ => rfl)) rfl)))) (pss_one (ps_raise rfl (takes_of rfl rfl rfl rfl) (pmk_ring (k := 0) EC (hr.mono (by decide)) passL (by rfl) (pk_cons (pe_callB call_len_seq (by rfl) B.len PySem.boot_len (pa_cons (pv 1) pa_nil)) pk_nil) rfl rfl rfl))) pss_nil)
      (pss_one (ps_ret (pe_op op_add pe_int (pe_op op_mod (pe_callB call_len_seq (by rfl) B.len PySem.boot_len (pa_cons (pv 1) pa_nil)) pe_int)))))), ?_⟩
  refine asg_rel (fun v H' => ∃ (D : Addr) (kvs : List (Key × V)), v = .ref D ∧ Grows T H H' ∧ H' D = some (.dK kvs) ∧ NearK H' kvs (xs.map fun x => x.1) (nearOf (crossed (xs.map rw3)))) (fun R0 h0 => ⟨_, rfl, p, xs, rfl, PA, hs, hl, nm, hT, fun D kvs H' g eD nk => h0 _ _ ⟨D, kvs, rfl, g, eD, nk⟩⟩) fun vD HD hD => ?_
  obtain ⟨D, kvs, rfl, gD, eD, nk⟩ := hD
  generalize nearOf (crossed (xs.map rw3)) = F0 at kOk kBad nk
  generalize (xs.map fun x => x.1) = gs at kOk kBad nk
  have nkG : ∀ {H' : Hp}, Grows T HD H' → NearK H' kvs gs F0 := fun {H'} g => Shg.pair_mono (fun kv n ⟨e1, a, e2, e3⟩ => ⟨e1, a, e2, g.ext _ _ e3 fun _ z => nomatch z⟩) nk
  have dG : ∀ {H' : Hp}, Grows T HD H' → H' D = some (.dK kvs) := fun {H'} g => g.ext _ _ eD fun _ z => nomatch z
  refine ⟨_, rfl, b, _, rfl, Dw.sql_e gD.ext hb, for_it walk_enumL (fun i σ H' => (∃ o3 o4, σ = [some (.ref p), some (.ref b), some (.ref D), o3, o4]) ∧ Grows T HD H' ∧ ∀ j, j < i → badAt F0 gs names j = false) ⟨⟨none, none, rfl⟩, Grows.rfl' _, fun j hj => absurd hj (Nat.not_lt_zero _)⟩ (fun i σ H' _ z => Dw.sql_e (gD.trans z.2.1).ext hb) ?_ ?_⟩
  · rintro i y σ H2 H3 hi ⟨⟨o3, o4, rfl⟩, g2, hgd⟩ ⟨Tt, y1, y2, rfl, hTt, rfl, e1, e2⟩
    cases e1
    have e2 : (names.map V.str)[i]? = some y2 := e2
    rw [List.getElem?_map] at e2
    obtain ⟨n, hn, rfl⟩ := Option.map_eq_some_iff.mp e2
    have hil : i < names.length := (List.getElem?_eq_some_iff.mp hn).1
    have gn : names.getD i "" = n := by rw [List.getD_eq_getElem?_getD, hn]; rfl
    have g3 : Grows T H2 (upd H2 Tt (.tup [.int (i : Nat), .str n])) := Grows.upd hTt
    have eT : upd H2 Tt (.tup [.int (i : Nat), .str n]) Tt = some (.tup [.int (i : Nat), .str n]) := upd_same
    generalize upd H2 Tt (.tup [.int (i : Nat), .str n]) = H4 at g3 eT ⊢
    have g4 := g2.trans g3
    have hb4 := Dw.sql_e (gD.trans g4).ext hb
    refine ⟨Tt, _, rfl, SqT.of eT, rfl, _, _, rfl, _, _, rfl, rfl, ?_⟩
    refine ans_or (!(gs.any fun y => y == n)) ((names.take i).any fun y => y == n) (fun R h => ⟨_, rfl, _, rfl, D, _, rfl, DGet.k (k := Sum.inr n) (dG g4), _, rfl, ?_⟩) (fun H5 s5 _ R h => ?_) fun H5 s5 => ?_
    · rw [near_is (nkG g4)]
      exact h _ (Same.refl _)
    · have hb5 := Dw.sql_e ((gD.trans g4).trans (Sh1.Grows.of s5)).ext hb
      refine ⟨_, rfl, _, rfl, _, rfl, _, rfl, b, _, rfl, hb5, fun q hq => ?_⟩
      have ec : cutV (names.map V.str) none (some (i : Int)) = (names.take i).map V.str := by rw [cut_take, List.map_take]
      refine ⟨q, _, rfl, .inl (SqL.of upd_same), rfl, ?_, _, rfl, ?_⟩
      · rw [ec]
        exact Sh1.flat_strs _
      · rw [ec, if_neg Bool.false_ne_true, inV_strs]
        exact h _ (Shg.same_upd hq)
    · have g5 := g4.trans (Sh1.Grows.of s5)
      cases hA : (!(gs.any fun y => y == n) || (names.take i).any fun y => y == n) with
      | true =>
        refine iteT ⟨_, rfl, _, rfl, .inr ⟨_, rfl, ?_⟩, fun d hd => ?_⟩
        · exact log_small (Nat.le_trans (Nat.le_of_lt hil) (Nat.le_trans ln (by decide)))
        · refine kBad i (judge_bad hil ?_ hgd) _ d ((gD.trans g5).trans (Grows.upd hd)) upd_same
          unfold badAt badA
          rw [gn, hA]
          rfl
      | false =>
        refine iteF ?_
        have done : ∀ (bb : Bool), badB F0 names i n = bb → ∀ H6, Grows T HD H6 → (bb = false → ∀ j, j < i + 1 → badAt F0 gs names j = false) := fun bb hB H6 g6 e j hj => by
          rcases Nat.lt_succ_iff_lt_or_eq.mp hj with h | h
          · exact hgd j h
          · subst h
            unfold badAt
            rw [gn, hB, e]
            unfold badA
            rw [hA]
            rfl
        by_cases i0 : 0 < i
        · obtain ⟨m, hm⟩ : ∃ m, names[i - 1]? = some m := ⟨_, List.getElem?_eq_getElem (by omega)⟩
          have gm : names.getD (i - 1) "" = m := by rw [List.getD_eq_getElem?_getD, hm]; rfl
          have mg' : m ∈ gs := by
            have h1 := hgd (i - 1) (by omega)
            unfold badAt badA at h1
            rw [gm] at h1
            simp only [Bool.or_eq_false_iff, Bool.not_eq_false', List.any_eq_true, beq_iff_eq] at h1
            obtain ⟨⟨⟨y, hy, e⟩, _⟩, _⟩ := h1
            exact e ▸ hy
          obtain ⟨a, i1, kv1, c1, c2, c3, c4, c5⟩ := near_get (nkG g5) mg'
          have hb5 := Dw.sql_e (gD.trans g5).ext hb
          have eB : badB F0 names i n = !((F0 m).any fun y => y == n) := by
            unfold badB
            rw [gm, decide_eq_true i0, Bool.true_and]
          refine nx_of (and_yes (fun R h => ⟨_, rfl, _, _, rfl, rfl, _, rfl, ?_⟩) ⟨_, rfl, _, rfl, _, rfl, _, rfl, _, _, rfl, rfl, b, _, ((i : Int) - 1), .str m, rfl, rfl, hb5, ?_, D, .ref a, rfl, ?_, a, _, rfl, .inl (SqL.of c5), rfl, Sh1.flat_strs _, _, rfl, ?_⟩)
          · rw [decide_eq_true (by omega)]
            exact h
          · rw [show (i : Int) - 1 = ((i - 1 : Nat) : Int) from by omega]
            exact atI_nat (by rw [List.getElem?_map, hm]; rfl)
          · rw [← c4]
            exact DGet.k (k := Sum.inr m) (dG g5)
          · rw [if_pos rfl, inV_strs, ← eB]
            cases hB : badB F0 names i n with
            | true =>
              refine iteT ⟨_, rfl, _, rfl, .inr ⟨_, rfl, log_small (Nat.le_trans (Nat.le_of_lt hil) (Nat.le_trans ln (by decide)))⟩, fun d hd => ?_⟩
              refine kBad i (judge_bad hil ?_ hgd) _ d ((gD.trans g5).trans (Grows.upd hd)) upd_same
              unfold badAt
              rw [gn, hB, Bool.or_true]
            | false => exact iteF ⟨⟨_, _, rfl⟩, g5, done false hB H5 g5 rfl⟩
        · refine nx_of (and_not (fun R h => ⟨_, rfl, _, _, rfl, rfl, _, rfl, ?_⟩) (iteF ⟨⟨_, _, rfl⟩, g5, done false ?_ H5 g5 rfl⟩))
          · rw [decide_eq_false (by omega)]
            exact h
          · unfold badB
            rw [decide_eq_false i0]
            rfl
  · rintro σ H2 ⟨⟨o3, o4, rfl⟩, g2, hgd⟩
    rw [List.length_map] at hgd
    have hb2 := Dw.sql_e (gD.trans g2).ext hb
    have jg := judge_good hgd
    refine nx_of (ans_or (decide (names.length < 2)) (!((F0 (names.getD (names.length - 1) "")).any fun y => y == names.getD 0 "")) (fun R h => ?_) (fun H5 s5 hA R h => ?_) fun H5 s5 => ?_)
    · refine ⟨_, rfl, b, _, rfl, .inl hb2, ?_⟩
      rw [List.length_map]
      refine ⟨_, _, rfl, rfl, _, rfl, ?_⟩
      rw [show decide ((names.length : Int) < 2) = decide (names.length < 2) from by simp; omega]
      exact h _ (Same.refl _)
    · have l2 : 2 ≤ names.length := Nat.le_of_not_lt (of_decide_eq_false hA)
      obtain ⟨n, hn⟩ : ∃ n, names[0]? = some n := ⟨_, List.getElem?_eq_getElem (by omega)⟩
      have gn : names.getD 0 "" = n := by rw [List.getD_eq_getElem?_getD, hn]; rfl
      obtain ⟨m, hm⟩ : ∃ m, names[names.length - 1]? = some m := ⟨_, List.getElem?_eq_getElem (by omega)⟩
      have gm : names.getD (names.length - 1) "" = m := by rw [List.getD_eq_getElem?_getD, hm]; rfl
      have mg' : m ∈ gs := by
        have h1 := hgd (names.length - 1) (by omega)
        unfold badAt badA at h1
        rw [gm] at h1
        simp only [Bool.or_eq_false_iff, Bool.not_eq_false', List.any_eq_true, beq_iff_eq] at h1
        obtain ⟨⟨⟨y, hy, e⟩, _⟩, _⟩ := h1
        exact e ▸ hy
      have g5 := g2.trans (Sh1.Grows.of s5)
      obtain ⟨a, i1, kv1, c1, c2, c3, c4, c5⟩ := near_get (nkG g5) mg'
      have hb5 := Dw.sql_e (gD.trans g5).ext hb
      refine ⟨_, rfl, b, _, ((0 : Nat) : Int), .str n, rfl, rfl, hb5, atI_nat (by rw [List.getElem?_map, hn]; rfl), _, rfl, _, rfl, _, rfl, b, _, (-1), .str m, rfl, rfl, hb5, ?_, D, .ref a, rfl, ?_, a, _, rfl, .inl (SqL.of c5), rfl, Sh1.flat_strs _, _, rfl, ?_⟩
      · exact atI_m1 (by rw [List.length_map]; omega) (by rw [List.length_map, List.getElem?_map, hm]; rfl)
      · rw [← c4]
        exact DGet.k (k := Sum.inr m) (dG g5)
      · rw [if_pos rfl, inV_strs]
        rw [gn, gm] at h
        exact h _ (Same.refl _)
    · have g5 := g2.trans (Sh1.Grows.of s5)
      have hb5 := Dw.sql_e (gD.trans g5).ext hb
      rw [show (decide (names.length < 2) || !((F0 (names.getD (names.length - 1) "")).any fun y => y == names.getD 0 "")) = open_ F0 names from rfl]
      cases ho : open_ F0 names with
      | true =>
        rw [ho, if_pos rfl] at jg
        refine iteT ⟨_, rfl, b, _, rfl, .inl hb5, _, rfl, .inr ⟨_, rfl, ?_⟩, fun d hd => ?_⟩
        · rw [List.length_map]
          exact log_small (Nat.le_trans ln (by decide))
        · rw [List.length_map]
          exact kBad _ jg _ d ((gD.trans g5).trans (Grows.upd hd)) upd_same
      | false =>
        rw [ho, if_neg Bool.false_ne_true] at jg
        refine iteF ⟨_, rfl, b, _, rfl, .inl hb5, ?_⟩
        rw [List.length_map]
        refine ⟨_, _, rfl, rfl, (by decide : (0 : Int) < 2), _, _, rfl, rfl, ?_⟩
        have := kOk _ jg _ (gD.trans g5)
        rw [show ((2 + names.length % 2 : Nat) : Int) = 2 + (names.length : Int) % 2 from by omega] at this
        exact this
end
end Ck
set_option Elab.async false
set_option linter.all false
set_option maxRecDepth 100000
set_option maxHeartbeats 2000000
set_option autoImplicit false
/-! Two piles or an odd ring: the numbers. -/
namespace Fp
open PySem L2 Sho NdefX Shg Sh1 Gq Ck
theorem above_ne {x : Rw} : ∀ {l : List Rw} {y : Rw}, (l.map Rw.nm).Nodup → y ∈ above x l → y.nm ≠ x.nm
  | [], y, _, h => (by cases h)
  | z :: l, y, nd, h => by
    rw [List.map_cons, List.nodup_cons] at nd
    by_cases e : z = x
    · unfold above at h
      rw [if_pos e] at h
      intro q
      rw [← e] at q
      exact nd.1 (q ▸ List.mem_map.mpr ⟨y, h, rfl⟩)
    · unfold above at h
      rw [if_neg e] at h
      exact above_ne nd.2 h
theorem crossed_irr {rs : List Rw} (nd : (rs.map Rw.nm).Nodup) {q : Str × Str} (h : q ∈ crossed rs) : q.1 ≠ q.2 := by
  unfold crossed at h
  obtain ⟨r, _, h2⟩ := List.mem_flatMap.mp h
  obtain ⟨r2, hr2, rfl⟩ := List.mem_map.mp h2
  unfold lifted at hr2
  have h3 := List.mem_reverse.mp (List.mem_filter.mp hr2).1
  exact fun z => above_ne (((bot_perm rs).map Rw.nm).nodup_iff.mpr nd) h3 z.symm
theorem near_irr {rs : List Rw} (nd : (rs.map Rw.nm).Nodup) (n : Str) : n ∉ nearOf (crossed rs) n := fun h => by
  rcases near_iff.mp h with h | h
  · exact crossed_irr nd h rfl
  · exact crossed_irr nd h rfl
theorem walk_ix {f : Str → List Str} : ∀ {s : Str} {w : List Str}, IsWalk f s w → ∀ (i : Nat) a b, w[i]? = some a → w[i + 1]? = some b → b ∈ f a
  | _, [], _, i, a, b, h, _ => (by simp at h)
  | _, c :: w, hw, 0, a, b, h1, h2 => by
    obtain rfl : c = a := by simpa using h1
    cases w with
    | nil => simp at h2
    | cons d w =>
      obtain rfl : d = b := by simpa using h2
      exact hw.2.1
  | _, c :: w, hw, i + 1, a, b, h1, h2 => walk_ix hw.2 i a b (by simpa using h1) (by simpa using h2)
theorem walk_first {f : Str → List Str} {s b : Str} {w : List Str} (h : IsWalk f s w) (e : w[0]? = some b) : b ∈ f s := by
  cases w with
  | nil => simp at e
  | cons c w =>
    obtain rfl : c = b := by simpa using e
    exact h.1
theorem end_last : ∀ (s : Str) (w : List Str), w ≠ [] → w[w.length - 1]? = some (endOf s w)
  | _, [], h => absurd rfl h
  | _, [c], _ => rfl
  | _, c :: d :: w, _ => by
    have := end_last c (d :: w) (by simp)
    show (c :: d :: w)[(d :: w).length]? = some (endOf c (d :: w))
    rw [← this]
    show (c :: d :: w)[(d :: w).length - 1 + 1]? = _
    rw [List.getElem?_cons_succ]
section
variable {f : Str → List Str} {gs w : List Str}
theorem IsRing.len3 (h : IsRing f gs w) (irr : ∀ n, n ∉ f n) : 3 ≤ w.length := by
  obtain ⟨s, hs, hw, he⟩ := h.ex
  have := h.odd
  by_cases e : w.length = 1
  · obtain ⟨c, rfl⟩ := List.length_eq_one_iff.mp e
    have he : c = s := he
    subst he
    exact absurd hw.1 (irr c)
  · omega
/-- who comes next in a ring crosses -/
theorem IsRing.next (h : IsRing f gs w) {i : Nat} {a b : Str} (h1 : w[i]? = some a) (h2 : w[i + 1]? = some b) : b ∈ f a := by
  obtain ⟨s, hs, hw, he⟩ := h.ex
  exact walk_ix hw i a b h1 h2
theorem IsRing.close (h : IsRing f gs w) {a b : Str} (h1 : w[w.length - 1]? = some a) (h2 : w[0]? = some b) : b ∈ f a := by
  obtain ⟨s, hs, hw, he⟩ := h.ex
  have hne : w ≠ [] := fun z => by rw [z] at h2; simp at h2
  rw [end_last s w hne, he] at h1
  cases h1
  exact walk_first hw h2
theorem IsRing.judge (h : IsRing f gs w) (irr : ∀ n, n ∉ f n) : judge f gs w = .inr 3 := by
  have l3 := h.len3 irr
  have odd := h.odd
  have gd : ∀ i, i < w.length → ∃ n, w[i]? = some n ∧ w.getD i "" = n := fun i hi => ⟨w[i], List.getElem?_eq_getElem hi, by rw [List.getD_eq_getElem?_getD, List.getElem?_eq_getElem hi]; rfl⟩
  rw [judge_good (f := f) fun j hj => ?_, if_neg ?_]
  · rw [odd]
  · unfold open_
    rw [decide_eq_false (by omega), Bool.false_or]
    obtain ⟨a, ha, ga⟩ := gd (w.length - 1) (by omega)
    obtain ⟨b, hb, gb⟩ := gd 0 (by omega)
    rw [ga, gb]
    have := h.close ha hb
    rw [show ((f a).any fun y => y == b) = true from List.any_eq_true.mpr ⟨b, this, by simp⟩]
    simp
  · obtain ⟨n, hn, gn⟩ := gd j hj
    unfold badAt badA badB
    rw [gn]
    have h1 : (gs.any fun y => y == n) = true := List.any_eq_true.mpr ⟨n, h.sub n (List.mem_of_getElem? hn), by simp⟩
    have h2 : ((w.take j).any fun y => y == n) = false := List.any_eq_false.mpr fun y hy z => by
      have e : y = n := eq_of_beq z
      subst e
      obtain ⟨i, hi⟩ := List.getElem?_of_mem hy
      rw [List.getElem?_take] at hi
      split at hi
      · have := L2.nodup_ix h.nd hi hn
        omega
      · cases hi
    rw [h1, h2]
    cases j with
    | zero => rfl
    | succ j =>
      obtain ⟨a, ha, ga⟩ := gd j (by omega)
      rw [show j + 1 - 1 = j from rfl, ga]
      have := h.next ha hn
      rw [show ((f a).any fun y => y == n) = true from List.any_eq_true.mpr ⟨n, this, by simp⟩]
      simp
end
/-- two piles are enough, or there is a ring -/
theorem two_or_ring {qs : List (Str × Str)} {gs : List Str} (hF : ∀ n ∈ gs, ∀ m ∈ nearOf qs n, m ∈ gs) (hC : ∀ q ∈ qs, q.1 ∈ gs ∧ q.2 ∈ gs) {o : Option Nat} (best : BestOf (nearOf qs) gs.length gs (fun _ => gs.length) o) :
    (clash (nearOf qs) gs qs = false ∧ oddRing (nearOf qs) gs = none ∧ o = none ∧ ∀ n ∈ gs, ∀ m ∈ nearOf qs n, pileAt (nearOf qs) gs n ≠ pileAt (nearOf qs) gs m) ∨
    (clash (nearOf qs) gs qs = true ∧ ∃ w, oddRing (nearOf qs) gs = some w ∧ o = some w.length ∧ IsRing (nearOf qs) gs w) := by
  have sy : ∀ n m, m ∈ nearOf qs n → n ∈ nearOf qs m := fun n m h => near_sym h
  cases hcl : clash (nearOf qs) gs qs with
  | false =>
    have no : ∀ n ∈ gs, ∀ m ∈ nearOf qs n, pileAt (nearOf qs) gs n ≠ pileAt (nearOf qs) gs m := fun n _ m hm e => by
      have := List.any_eq_false.mp hcl
      rcases near_iff.mp hm with h | h
      · exact this _ h (decide_eq_true e)
      · exact this _ h (decide_eq_true e.symm)
    have even : ∀ s ∈ gs, ∀ k, Reach (nearOf qs) s s k → k % 2 = 0 := fun s hs k hk => (proper_even hF sy no hs hk).mp rfl
    refine .inl ⟨rfl, ?_, ?_, no⟩
    · cases hr : oddRing (nearOf qs) gs with
      | none => rfl
      | some w =>
        have R := ring_some hF hr
        obtain ⟨s, hs, hw, he⟩ := R.ex
        have := even s hs w.length ⟨w, hw, he, rfl⟩
        have := R.odd
        omega
    · cases o with
      | none => rfl
      | some b =>
        obtain ⟨b1, _, ⟨s, hs, hr⟩, _⟩ := best
        have := even s hs b hr
        omega
  | true =>
    refine .inr ⟨rfl, ?_⟩
    obtain ⟨q, hq, e⟩ := List.any_eq_true.mp hcl
    obtain ⟨s, k, hs, hk, ko⟩ := clash_odd hF sy (hC q hq).1 (near_iff.mpr (.inl hq)) (of_decide_eq_true e)
    cases hr : oddRing (nearOf qs) gs with
    | none =>
      have := ring_none hF hr hs hk
      omega
    | some w =>
      have R := ring_some hF hr
      refine ⟨w, rfl, ?_, R⟩
      obtain ⟨s', hs', hw, he⟩ := R.ex
      have r' : Reach (nearOf qs) s' s' w.length := ⟨w, hw, he, rfl⟩
      have pos : 1 ≤ w.length := by have := R.odd; omega
      cases o with
      | none => exact absurd r' (best s' hs' w.length pos R.len R.odd)
      | some b =>
        obtain ⟨b1, b2, ⟨s2, hs2, hr2⟩, b3⟩ := best
        have h1 := R.min s2 hs2 b hr2 b1
        have h2 := b3 s' hs' w.length pos R.len R.odd r'
        rw [show b = w.length from by omega]
end Fp
set_option Elab.async false
set_option linter.all false
set_option maxRecDepth 100000
set_option maxHeartbeats 8000000
set_option autoImplicit false
/-! _piles_from. -/
namespace Fp
open PySem L2 Sho NdefX Shg Sh1 Gq Ck
theorem same_new {D : Addr} {o : HO} {H H' : Hp} (s : Same H H') (h : H D = none) : Same H (upd H' D o) := fun b u e => by
  rw [upd_ne (ne_of_none e h)]
  exact s b u e
abbrev NPf : List Str := ["crossing", "start", "piles", "waiting", "name", "other"]
section
variable {P : Program} {w : World} {K : PySem.W.Frag} {mg : Str → Option Value} {base : Heap}
def spFrom : Sp := fun vs H Q _ => ∃ (Cd : Addr) (kvs : List (Key × V)) (gs : List Str) (f : Str → List Str) (n0 : Str), vs = [.ref Cd, .str n0] ∧ H Cd = some (.dK kvs) ∧ NearK H kvs gs f ∧ n0 ∈ gs ∧ gs.length ≤ 1000 ∧ (∀ n ∈ gs, ∀ m ∈ f n, m ∈ gs) ∧
  ∀ (D : Addr) H', Same H H' → H D = none → H' D = some (.dK (enc (pilesFrom f gs n0))) → Q (.ref D) H'
theorem scPf : FnScope NPf ["crossing", "start"] (defScope sPilesFrom) := ⟨rfl, rfl, rfl, by decide +kernel, rfl, by decide +kernel, by decide +kernel⟩
theorem ok_from {f : Addr} {fd : FuncData} (F : Fun K "_piles_from" "_piles_from" sPilesFrom f fd) : FnOk P w K mg base CX0 1 f fd ["crossing", "start"] spFrom := by
  refine F.ok scPf (fun vs H Q E h => ?_) (fun cdv A outer s H vs Q E hr h => ?_)
  · obtain ⟨Cd, kvs, gs, f, n0, rfl, _⟩ := h
    rfl
  obtain ⟨Cd, kvs, gs, g, n0, rfl, eC, nk, hn0, hg, hF, k⟩ := h
  have nd := scPf.nd
  refine ⟨_, pss_cons (ps_set (i := 2) nd rfl (Or.inl rfl) (pe_disp (pps_cons (pv 1) pe_int pps_nil) rfl rfl (by simp) (by decide)))
    (pss_cons (ps_set (i := 3) nd rfl (Or.inl rfl) (pe_lst (pa_cons (pv 1) pa_nil)))
    (pss_cons (ps_while PassesOwn.never (pt_truth (pv 3) (fun _ => rfl))
      (pss_cons (ps_set (i := 4) nd rfl (Or.inl rfl) (pe_bm0 PySem.F.plainAttrs_list PySem.F.slot_list_pop PySem.F.type_list_pop mt_pop (pv 3)))
      (pss_one (ps_for PassesOwn.never rfl (pi_list (pe_dget (units1 hr) (pv 0) (pv 4) (fun _ _ => rfl))) (pg_name (i := 5) nd rfl (Or.inl rfl))
        (pss_one (ps_if (pt_cmp (pc_dnotin (units1 hr) (pv 5) (pv 2)) rfl) (pss_cons (ps_dput (units1 hr) (pv 2) (pv 5) (pe_op op_sub pe_int (pe_dget (units1 hr) (pv 2) (pv 4) (fun _ _ => rfl))) rfl)
          (pss_one (ps_expr (pe_bm PySem.F.plainAttrs_list PySem.F.slot_list_append PySem.F.type_list_append mt_append (pv 3) (pa_cons (pv 5) pa_nil))))) pss_nil))))))
      (pss_one (ps_ret (pv 2))))), ?_⟩
  refine fun D nD => ⟨_, rfl, upd_same, [(.inr n0, .int 0)], rfl, (by show 1 ≤ 15; decide), ?_⟩
  have sA : Same H (upd (upd H D (.dK [])) D (.dK (mergeK [] [(.inr n0, .int 0)]))) := same_new (Shg.same_upd nD) nD
  have eA : (upd (upd H D (.dK [])) D (.dK (mergeK [] [(.inr n0, .int 0)]))) D = some (.dK (enc [(n0, 0)])) := upd_same
  generalize upd (upd H D (.dK [])) D (.dK (mergeK [] [(.inr n0, .int 0)])) = H1 at sA eA ⊢
  refine name_at ⟨_, rfl, by show 1 ≤ sizeLine; decide, fun W nW => name_at (nx_of ?_)⟩
  have hW0 : H W = none := none_back sA nW
  have nWD : W ≠ D := fun z => by rw [z, eA] at nW; cases nW
  have sB : Same H (upd H1 W (.lst [.str n0])) := sA.trans (Shg.same_upd nW)
  have eB : upd H1 W (.lst [.str n0]) D = some (.dK (enc [(n0, 0)])) := by rw [upd_ne (Ne.symm nWD)]; exact eA
  have wB : upd H1 W (.lst [.str n0]) W = some (.lst ([n0].map V.str)) := upd_same
  generalize upd H1 W (.lst [.str n0]) = H2 at sB eB wB ⊢
  clear sA eA nW
  have line : 1000 < sizeLine := by decide
  have w0 : Walked gs [(n0, 0)] [n0] := ⟨by simp, fun q hq => by rw [List.mem_singleton.mp hq]; exact hn0, fun n hn => by rw [List.mem_singleton.mp hn]; show (List.lookup n0 [(n0, (0 : Int))]).isSome = true; rw [List.lookup_cons, beq_self_eq_true]; rfl⟩
  have m0 : 1 + (gs.length - 1) = gs.length := by
    have := List.length_pos_of_mem hn0
    omega
  refine ⟨fun m σ H' => ∃ (ps : Pm) (wt : List Str) (o4 o5 : Option V), σ = [some (.ref Cd), some (.str n0), some (.ref D), some (.ref W), o4, o5] ∧ m = wt.length + (gs.length - ps.length) ∧ Same H H' ∧ H' D = some (.dK (enc ps)) ∧ H' W = some (.lst (wt.map V.str)) ∧ Walked gs ps wt ∧ spread g m ps wt = pilesFrom g gs n0 ∧ wt.length ≤ ps.length,
    ⟨_, [(n0, 0)], [n0], none, none, rfl, rfl, sB, eB, wB, w0, by rw [show ([n0] : List Str).length + (gs.length - [(n0, (0 : Int))].length) = gs.length from m0]; rfl, Nat.le_refl _⟩, ?_⟩
  rintro m σ H3 ⟨ps, wt, o4, o5, rfl, em, s3, e3, w3, wk, sp, lwp⟩
  refine ⟨_, rfl, !(wt.map V.str).isEmpty, .inl ⟨_, SqL.of w3, rfl⟩, ?_⟩
  rw [show (wt.map V.str).isEmpty = wt.isEmpty from by cases wt <;> rfl]
  obtain rfl | ⟨wt', n, rfl⟩ : wt = [] ∨ ∃ l x, wt = l ++ [x] := by
    rcases List.eq_nil_or_concat wt with h | ⟨l, x, h⟩
    · exact .inl h
    · exact .inr ⟨l, x, by rw [h, List.concat_eq_append]⟩
  · refine iteF ⟨_, rfl, k D H3 s3 nD ?_⟩
    rw [spread_nil] at sp
    rw [← sp]
    exact e3
  rw [show (wt' ++ [n]).isEmpty = false from by simp]
  rw [List.length_append] at em
  have em : m = wt'.length + (gs.length - ps.length) + 1 := by rw [em]; show wt'.length + 1 + _ = _; omega
  subst em
  obtain ⟨v0, hv0⟩ : ∃ v, ps.lookup n = some v := Option.isSome_iff_exists.mp (wk.wt n (by simp))
  have hn : n ∈ gs := by
    obtain ⟨c, hc, _⟩ := look_mem (wk.wt n (by simp))
    exact wk.sub _ hc
  rw [spread_step hv0] at sp
  refine iteT ⟨_, fun σ' H' z => z, ?_⟩
  refine ⟨_, rfl, .inl ⟨rfl, _, SqL.of w3⟩, W, _, .str n, rfl, rfl, w3, ?_, ?_⟩
  · rw [List.map_append, List.length_append]
    exact List.getElem?_concat_length
  rw [List.map_append, show ([n].map V.str) = [V.str n] from rfl, List.dropLast_concat]
  have s4 : Same H (upd H3 W (.lst (wt'.map V.str))) := same_new s3 hW0
  have e4 : upd H3 W (.lst (wt'.map V.str)) D = some (.dK (enc ps)) := by rw [upd_ne (Ne.symm nWD)]; exact e3
  have w4 : upd H3 W (.lst (wt'.map V.str)) W = some (.lst (wt'.map V.str)) := upd_same
  generalize upd H3 W (.lst (wt'.map V.str)) = H4 at s4 e4 w4 ⊢
  clear s3 e3 w3
  have nkA : ∀ {H' : Hp}, Same H H' → NearK H' kvs gs g := fun {H'} s => Shg.pair_mono (fun kv n ⟨e1, a, e2, e3⟩ => ⟨e1, a, e2, s _ _ e3⟩) nk
  obtain ⟨a, i1, kv1, c1, c2, c3, c4, c5⟩ := near_get nk hn
  have wk' : Walked gs ps wt' := ⟨wk.nd, wk.sub, fun m hm => wk.wt m (List.mem_append_left _ hm)⟩
  refine name_at ?_
  refine ⟨_, rfl, _, rfl, Cd, .ref a, rfl, ?_, a, rfl, ⟨_, SqL.of (s4 _ _ c5)⟩, for_it (walk_list (K := K) (a := a) (xs := (g n).map V.str)) (fun i σ H' => ∃ (ps2 : Pm) (wt2 : List Str) (o5 : Option V), σ = [some (.ref Cd), some (.str n0), some (.ref D), some (.ref W), some (.str n), o5] ∧ Same H H' ∧ H' D = some (.dK (enc ps2)) ∧ H' W = some (.lst (wt2.map V.str)) ∧ Walked gs ps2 wt2 ∧ paint (1 - v0) ((g n).take i) ps wt' = (ps2, wt2) ∧ ps2.lookup n = some v0 ∧ wt2.length + ps.length = wt'.length + ps2.length)
    ⟨ps, wt', o5, rfl, s4, e4, w4, wk', rfl, hv0, rfl⟩ (fun i σ H' _ z => by obtain ⟨_, _, _, _, s, _⟩ := z; exact SqL.of (s _ _ c5)) ?_ ?_⟩
  · rw [← c4]
    exact DGet.k (k := Sum.inr n) (s4 _ _ eC)
  · rintro i y σ H5' H5 hi ⟨ps2, wt2, o5, rfl, s5, e5, w5, wk2, pt, lk, ln⟩ ⟨rfl, ey⟩
    rw [List.getElem?_map] at ey
    obtain ⟨o, ho, rfl⟩ := Option.map_eq_some_iff.mp ey
    have hog : o ∈ gs := hF n hn o (List.mem_of_getElem? ho)
    have pt' : paint (1 - v0) ((g n).take (i + 1)) ps wt' = paintOne (1 - v0) (ps2, wt2) o := by
      rw [List.take_succ, ho]
      show paint (1 - v0) ((g n).take i ++ [o]) ps wt' = _
      rw [paint_snoc, pt]
    refine name_at ?_
    refine ⟨_, rfl, _, rfl, D, _, rfl, DGet.k (k := Sum.inr o) e5, _, rfl, ?_⟩
    rw [val_enc]
    cases hlo : ps2.lookup o with
    | some v =>
      refine iteF ⟨ps2, wt2, _, rfl, s5, e5, w5, wk2, ?_, lk, ln⟩
      rw [pt']
      unfold paintOne
      rw [hlo]
      rfl
    | none =>
      have w6 : Walked gs (ps2 ++ [(o, 1 - v0)]) (wt2 ++ [o]) := wk2.push hog hlo
      have l6 := w6.len
      rw [List.length_append] at l6
      refine iteT ⟨_, rfl, _, rfl, D, .int v0, rfl, ?_, _, _, rfl, rfl, _, rfl, _, rfl, D, _, rfl, DPut.k (k := Sum.inr o) e5 ?_, ?_⟩
      · rw [show some (V.int v0) = valV (enc ps2) (Sum.inr n) from by rw [val_enc, lk]; rfl]
        exact DGet.k (k := Sum.inr n) e5
      · rw [enc_len]
        have : ([(o, 1 - v0)] : Pm).length = 1 := rfl
        omega
      have ep : putK (enc ps2) (Sum.inr o) (V.int (1 - v0)) = enc (ps2 ++ [(o, 1 - v0)]) := by
        rw [putK_new _ (by rw [val_enc, hlo]; rfl)]
        unfold enc
        rw [List.map_append]
        rfl
      rw [ep]
      have s6 : Same H (upd H5 D (.dK (enc (ps2 ++ [(o, 1 - v0)])))) := same_new s5 nD
      have e6 : upd H5 D (.dK (enc (ps2 ++ [(o, 1 - v0)]))) D = some (.dK (enc (ps2 ++ [(o, 1 - v0)]))) := upd_same
      have v6 : upd H5 D (.dK (enc (ps2 ++ [(o, 1 - v0)]))) W = some (.lst (wt2.map V.str)) := by rw [upd_ne nWD]; exact w5
      generalize upd H5 D (.dK (enc (ps2 ++ [(o, 1 - v0)]))) = H6 at s6 e6 v6 ⊢
      have lw : wt2.length ≤ 2000 := by
        have h1 := wk.len
        have h2 : ([(o, 1 - v0)] : Pm).length = 1 := rfl
        rw [List.length_append] at lwp
        have h3 : ([n] : List Str).length = 1 := rfl
        omega
      refine ⟨_, rfl, .inl ⟨rfl, _, SqL.of v6⟩, _, rfl, W, _, _, rfl, rfl, v6, by rw [List.length_map]; exact Nat.lt_of_le_of_lt lw (by decide), ps2 ++ [(o, 1 - v0)], wt2 ++ [o], _, rfl, same_new s6 hW0, by rw [upd_ne (Ne.symm nWD)]; exact e6, by rw [upd_same, List.map_append]; rfl, w6, ?_, look_keep lk, by rw [List.length_append, List.length_append]; show wt2.length + 1 + _ = _ + (_ + 1); omega⟩
      rw [pt']
      unfold paintOne
      rw [hlo]
      rfl
  · rintro σ H5 ⟨ps2, wt2, o5, rfl, s5, e5, w5, wk2, pt, lk, ln⟩
    rw [List.length_map, List.take_length] at pt
    have l5 := wk2.len
    rw [pt] at sp
    refine ⟨wt'.length + (gs.length - ps.length), Nat.lt_succ_self _, ps2, wt2, _, _, rfl, ?_, s5, e5, w5, wk2, sp, ?_⟩
    · have := wk.len
      omega
    · rw [List.length_append] at lwp
      omega
end
end Fp
set_option Elab.async false
set_option linter.all false
set_option maxRecDepth 100000
set_option maxHeartbeats 2000000
set_option autoImplicit false
/-! Data of ints and texts in tuples and lists: equal to themselves, as deep comparison wants them. -/
namespace Shp
open PySem L2
/-- ints and texts, in tuples and lists at most n deep -/
def LeafD (d : PyData) : Prop := (∃ i, d = .int i) ∨ ∃ x : Str, d = .str x ∧ x.cps.all (· < 0x110000) = true
def PlainD : Nat → PyData → Prop
  | 0, d => LeafD d
  | n + 1, d => LeafD d ∨ (∃ ds, d = .tuple ds ∧ ∀ e ∈ ds, PlainD n e) ∨ ∃ ds, d = .list ds ∧ ∀ e ∈ ds, PlainD n e
theorem plain_int (i : Int) : ∀ n, PlainD n (.int i)
  | 0 => .inl ⟨i, rfl⟩
  | _ + 1 => .inl (.inl ⟨i, rfl⟩)
theorem plain_str {x : Str} (h : x.cps.all (· < 0x110000) = true) : ∀ n, PlainD n (.str x)
  | 0 => .inr ⟨x, rfl, h⟩
  | _ + 1 => .inl (.inr ⟨x, rfl, h⟩)
theorem plain_tup {n : Nat} {ds : List PyData} (h : ∀ e ∈ ds, PlainD n e) : PlainD (n + 1) (.tuple ds) := .inr (.inl ⟨ds, rfl, h⟩)
theorem plain_lst {n : Nat} {ds : List PyData} (h : ∀ e ∈ ds, PlainD n e) : PlainD (n + 1) (.list ds) := .inr (.inr ⟨ds, rfl, h⟩)
theorem plain_ints {n : Nat} (xs : List Int) : PlainD (n + 1) (.list (xs.map PyData.int)) := plain_lst fun e he => by
  obtain ⟨i, _, rfl⟩ := List.mem_map.mp he
  exact plain_int i n
theorem lay_all : ∀ {ds : List PyData}, (∀ d ∈ ds, PyData.canLay0 d = true) → PyData.canLayAll0 ds = true
  | [], _ => rfl
  | d :: ds, h => by
    show (PyData.canLay0 d && PyData.canLayAll0 ds) = true
    rw [h d List.mem_cons_self, lay_all fun e he => h e (List.mem_cons_of_mem _ he)]
    rfl
theorem dep_all {n : Nat} : ∀ {ds : List PyData}, (∀ d ∈ ds, PyData.depth d ≤ n) → PyData.depthAll ds ≤ n
  | [], _ => Nat.zero_le _
  | d :: ds, h => by
    show max (PyData.depth d) (PyData.depthAll ds) ≤ n
    have := h d List.mem_cons_self
    have := dep_all fun e he => h e (List.mem_cons_of_mem d he)
    omega
theorem eqv_all : ∀ {ds : List PyData}, (∀ d ∈ ds, PyData.eqv d d = true) → PyData.eqvAll ds ds = true
  | [], _ => rfl
  | d :: ds, h => by
    show (PyData.eqv d d && PyData.eqvAll ds ds) = true
    rw [h d List.mem_cons_self, eqv_all fun e he => h e (List.mem_cons_of_mem _ he)]
    rfl
theorem leaf_ok {d : PyData} (h : LeafD d) : PyData.canLay0 d = true ∧ PyData.depth d ≤ 0 ∧ PyData.eqv d d = true := by
  rcases h with ⟨i, rfl⟩ | ⟨x, rfl, hx⟩
  · exact ⟨rfl, Nat.le_refl _, by show (i == i) = true; simp⟩
  · exact ⟨hx, Nat.le_refl _, by show (x == x) = true; simp⟩
theorem plain_ok : ∀ {n : Nat} {d : PyData}, PlainD n d → PyData.canLay0 d = true ∧ PyData.depth d ≤ n ∧ PyData.eqv d d = true
  | 0, d, h => leaf_ok h
  | n + 1, d, h => by
    rcases h with h | ⟨ds, rfl, h⟩ | ⟨ds, rfl, h⟩
    · obtain ⟨a, b, c⟩ := leaf_ok h
      exact ⟨a, by omega, c⟩
    · refine ⟨lay_all fun e he => (plain_ok (h e he)).1, ?_, eqv_all fun e he => (plain_ok (h e he)).2.2⟩
      show PyData.depthAll ds + 1 ≤ n + 1
      have := dep_all fun e he => (plain_ok (h e he)).2.1
      omega
    · refine ⟨lay_all fun e he => (plain_ok (h e he)).1, ?_, eqv_all fun e he => (plain_ok (h e he)).2.2⟩
      show PyData.depthAll ds + 1 ≤ n + 1
      have := dep_all fun e he => (plain_ok (h e he)).2.1
      omega
theorem plain_shaped {n : Nat} {d : PyData} (h : PlainD n d) (hn : n ≤ 64 := by decide) : SeqAt.shaped d = true := by
  obtain ⟨a, b, _⟩ := plain_ok h
  unfold SeqAt.shaped
  rw [a, decide_eq_true (by omega : PyData.depth d ≤ 64)]
  rfl
theorem plain_refl {n : Nat} {d : PyData} (h : PlainD n d) : PyData.eqv d d = true := (plain_ok h).2.2
theorem nil_shaped : SeqAt.shaped (.list []) = true := rfl
theorem eqv_nil (ds : List PyData) : PyData.eqv (.list ds) (.list []) = ds.isEmpty := by
  cases ds <;> rfl
theorem dp_ints {K : PySem.W.Frag} {H : Hp} : ∀ xs : List Int, DpAll K H (xs.map V.int) (xs.map PyData.int)
  | [] => .nil
  | x :: xs => .cons (.int x) (dp_ints xs)
theorem dp_strs {K : PySem.W.Frag} {H : Hp} : ∀ xs : List Str, DpAll K H (xs.map V.str) (xs.map PyData.str)
  | [] => .nil
  | x :: xs => .cons (.str x) (dp_strs xs)
/-- items that are told one by one -/
theorem dp_of {α : Type} {K : PySem.W.Frag} {H : Hp} {R : V → α → Prop} {f : α → PyData} (each : ∀ v x, R v x → Dp K H v (f x)) : ∀ {ws : List V} {xs : List α}, PySem.Paired R ws xs → DpAll K H ws (xs.map f)
  | _, _, .nil => .nil
  | _, _, .cons h r => .cons (each _ _ h) (dp_of each r)
end Shp
set_option Elab.async false
set_option linter.all false
set_option maxRecDepth 100000
set_option maxHeartbeats 8000000
set_option autoImplicit false
/-! _law_parts. -/
namespace Fp
open PySem L2 Sho NdefX Shg Sh1 Gq Ck
abbrev NLp : List Str := ["_law_near", "_law_names", "_law_first", "_law_name", "_law_queue", "_law_one", "_law_other"]
abbrev Sm2 := List (Str × Str)
def encS (ps : Sm2) : List (Key × V) := ps.map fun q => (Sum.inr q.1, V.str q.2)
theorem encS_len (ps : Sm2) : (encS ps).length = ps.length := List.length_map _
theorem encS_app (ps : Sm2) (a b : Str) : encS (ps ++ [(a, b)]) = encS ps ++ [(Sum.inr a, V.str b)] := by
  unfold encS
  rw [List.map_append]
  rfl
theorem val_encS (ps : Sm2) (n : Str) : valV (encS ps) (.inr n) = (gv ps n).map V.str := by
  induction ps with
  | nil => rfl
  | cons q ps ih =>
    show valV ((Sum.inr q.1, V.str q.2) :: encS ps) _ = _
    obtain ⟨a, b⟩ := q
    by_cases e : a = n
    · rw [valV_pos (by rw [e])]
      unfold gv
      rw [List.find?_cons_of_pos (by simpa using e)]
      rfl
    · rw [valV_neg (fun z => e (Sum.inr.inj z)), ih]
      unfold gv
      rw [List.find?_cons_of_neg (by simpa using e)]
/-- what stands through the loops: all have their first guest -/
structure Pt0 (f : Str → List Str) (gs : List Str) (i : Nat) (ps : Sm2) : Prop where
  nd : (ps.map fun q => q.1).Nodup
  sub : ∀ q ∈ ps, q.1 ∈ gs
  fst : ∀ m r, gv ps m = some r → FirstOf f gs m r
  early : ∀ (j : Nat) r, j < i → gs[j]? = some r → (gv ps r).isSome = true
theorem Pt0.len {f : Str → List Str} {gs : List Str} {i : Nat} {ps : Sm2} (h : Pt0 f gs i ps) : ps.length ≤ gs.length := by
  have k := List.Nodup.length_le_of_subset h.nd (l₂ := gs) (fun n hn => by
    obtain ⟨q, hq, rfl⟩ := List.mem_map.mp hn
    exact h.sub q hq)
  rw [List.length_map] at k
  exact k
theorem gv_some_app {ps : Sm2} {a b m : Str} (h : (gv ps m).isSome = true) : (gv (ps ++ [(a, b)]) m).isSome = true := by
  obtain ⟨v, hv⟩ := Option.isSome_iff_exists.mp h
  rw [gv_keep hv]
  rfl
theorem gv_last {ps : Sm2} {a b : Str} (h : gv ps a = none) : gv (ps ++ [(a, b)]) a = some b := by
  rw [gv_app, h, gv_one]
  rfl
theorem gv_split {ps : Sm2} {a b m r : Str} (h : gv (ps ++ [(a, b)]) m = some r) : gv ps m = some r ∨ (m = a ∧ r = b) := by
  rw [gv_app] at h
  cases hp : gv ps m with
  | some v => rw [hp] at h; exact .inl h
  | none =>
    rw [hp] at h
    have h : gv [(a, b)] m = some r := h
    have := List.mem_singleton.mp (gv_mem h)
    exact .inr ⟨congrArg Prod.fst this, congrArg Prod.snd this⟩
theorem Pt0.push {f : Str → List Str} {gs : List Str} {i : Nat} {ps : Sm2} {a b : Str} (h : Pt0 f gs i ps) (ha : a ∈ gs) (hn : gv ps a = none) (hf : FirstOf f gs a b) : Pt0 f gs i (ps ++ [(a, b)]) := by
  refine ⟨?_, fun q hq => ?_, fun m r hm => ?_, fun j r hj hr => gv_some_app (h.early j r hj hr)⟩
  · rw [List.map_append, List.nodup_append]
    refine ⟨h.nd, by simp, fun x hx y hy e => ?_⟩
    obtain ⟨q, hq, rfl⟩ := List.mem_map.mp hx
    rw [List.mem_singleton.mp hy] at e
    exact gv_none.mp hn q hq e
  · rcases List.mem_append.mp hq with k | k
    · exact h.sub q k
    · rw [List.mem_singleton.mp k]
      exact ha
  · rcases gv_split hm with k | ⟨rfl, rfl⟩
    · exact h.fst m r k
    · exact hf
theorem dom_conn {f : Str → List Str} {ps : Sm2} (cl : ∀ m, (gv ps m).isSome = true → ∀ m' ∈ f m, (gv ps m').isSome = true) : ∀ {k : Nat} {a b : Str}, (gv ps a).isSome = true → Reach f a b k → (gv ps b).isSome = true
  | 0, a, b, ha, h => by
    obtain ⟨w, _, e, z⟩ := h
    obtain rfl := List.eq_nil_of_length_eq_zero z
    obtain rfl : a = b := e
    exact ha
  | k + 1, a, b, ha, h => by
    obtain ⟨c, hc, h⟩ := reach_step.mp h
    exact dom_conn cl (cl a ha c hc) h
section
variable {P : Program} {w : World} {K : PySem.W.Frag} {mg : Str → Option Value} {base : Heap}
def spParts (K : PySem.W.Frag) : Sp := fun vs H Q _ => ∃ (D L : Addr) (kvs : List (Key × V)) (gs : List Str) (f : Str → List Str), vs = [.ref D, .ref L] ∧ H D = some (.dK kvs) ∧ NearK H kvs gs f ∧ SqL K H L (gs.map V.str) ∧ gs.length ≤ 100 ∧ gs.Nodup ∧ (∀ n ∈ gs, n.cps.all (· < 0x110000) = true) ∧ (∀ n ∈ gs, ∀ m ∈ f n, m ∈ gs) ∧ (∀ n m, m ∈ f n → n ∈ f m) ∧
  ∀ (D2 : Addr) (ps : Sm2) H', Same H H' → H' D2 = some (.dK (encS ps)) → (∀ n ∈ gs, ∃ r, gv ps n = some r ∧ FirstOf f gs n r) → Q (.ref D2) H'
theorem scLp : FnScope NLp ["_law_near", "_law_names"] (defScope sLawParts) := ⟨rfl, rfl, rfl, by decide +kernel, rfl, by decide +kernel, by decide +kernel⟩
theorem ok_parts {f : Addr} {fd : FuncData} (F : Fun K "_law_parts" "_law_parts" sLawParts f fd) (B : Shg.Blt mg) : FnOk P w K mg base CX0 1 f fd ["_law_near", "_law_names"] (spParts K) := by
  refine F.ok scLp (fun vs H Q E h => ?_) (fun cdv A outer s H vs Q E hr h => ?_)
  · obtain ⟨D, L, kvs, gs, f, rfl, _⟩ := h
    rfl
  obtain ⟨D, L, kvs, gs, g, rfl, eD, nk, hL, gl, nd0, okG, hF, sy, k⟩ := h
  have nd := scLp.nd
  refine ⟨_, (pss_cons (ps_set (i := 2) nd rfl (Or.inl rfl) pe_dnewK)
      (pss_cons (ps_for PassesOwn.never rfl (pi_list (pv 1)) (pg_name (i := 3) nd rfl (Or.inl rfl)) (pss_one (ps_if (pt_cmp (pc_dnotin (units1 hr) (pv 3) (pv 2)) rfl) (pss_cons (ps_asg (pe_tup (pa_cons (pv 3) (pa_cons (pe_lst (pa_cons (pv 3) pa_nil)) pa_nil))) (pg_tup rfl (pgs_cons (pg_sub (pv 2) (pv 3) (set_dict (units1 hr))) (pgs_cons (pg_name (i := 4) nd rfl (Or.inl rfl)) pgs_nil))))
      (pss_one (ps_while PassesOwn.never (pt_cmpR (op_neD hr.units) (pv 4) (pe_lst pa_nil) (nomark _)) (pss_cons (ps_set (i := 5) nd rfl (Or.inl rfl) (pe_bm0 PySem.F.plainAttrs_list PySem.F.slot_list_pop PySem.F.type_list_pop mt_pop (pv 4)))
      (pss_one (ps_for PassesOwn.never rfl (pi_list (pe_dget (units1 hr) (pv 0) (pv 5) (fun _ _ => rfl))) (pg_name (i := 6) nd rfl (Or.inl rfl)) (pss_one (ps_if (pt_cmp (pc_dnotin (units1 hr) (pv 6) (pv 2)) rfl) (pss_cons (ps_dput (units1 hr) (pv 2) (pv 6) (pv 3) rfl)
      (pss_one (ps_expr (pe_bm PySem.F.plainAttrs_list PySem.F.slot_list_append PySem.F.type_list_append mt_append (pv 4) (pa_cons (pv 6) pa_nil))))) pss_nil)))))))) pss_nil)))
      (pss_one (ps_ret (pv 2))))), ?_⟩
  have line : 100000 < sizeLine := by decide
  refine fun D2 nD2 => name_at (nx_of ?_)
  have sA := Shg.same_upd (o := .dK []) nD2
  have eA : upd H D2 (.dK []) D2 = some (.dK (encS [])) := upd_same
  generalize upd H D2 (.dK []) = H1 at sA eA ⊢
  refine ⟨_, rfl, L, rfl, ⟨_, Dw.sql_e (LamX.ExtN.of sA) hL⟩, for_it (walk_list (K := K) (a := L) (xs := gs.map V.str)) (fun i σ H' => ∃ (ps : Sm2) (o3 o4 o5 o6 : Option V), σ = [some (.ref D), some (.ref L), some (.ref D2), o3, o4, o5, o6] ∧ Same H H' ∧ H' D2 = some (.dK (encS ps)) ∧ Pt0 g gs i ps ∧ ∀ m, (gv ps m).isSome = true → ∀ m' ∈ g m, (gv ps m').isSome = true)
    ⟨[], none, none, none, none, rfl, sA, eA, ⟨List.nodup_nil, (fun _ z => nomatch z), (fun _ _ z => nomatch z), fun _ _ z => absurd z (Nat.not_lt_zero _)⟩, fun _ z => nomatch z⟩ (fun j σ H' _ z => by obtain ⟨_, _, _, _, _, _, z, _⟩ := z; exact Dw.sql_e (LamX.ExtN.of z) hL) ?_ ?_⟩
  · rintro i y σ H2' H2 hi ⟨ps, o3, o4, o5, o6, rfl, s2, e2, pt, cl⟩ ⟨rfl, ey⟩
    rw [List.getElem?_map] at ey
    obtain ⟨n, hn, rfl⟩ := Option.map_eq_some_iff.mp ey
    have hng : n ∈ gs := List.mem_of_getElem? hn
    refine name_at ?_
    refine ⟨_, rfl, _, rfl, D2, _, rfl, DGet.k (k := Sum.inr n) e2, _, rfl, ?_⟩
    rw [val_encS]
    cases hgn : gv ps n with
    | some v =>
      refine iteF ⟨ps, _, _, _, _, rfl, s2, e2, ⟨pt.nd, pt.sub, pt.fst, fun j r hj hr => ?_⟩, cl⟩
      rcases Nat.lt_succ_iff_lt_or_eq.mp hj with h | h
      · exact pt.early j r h hr
      · subst h
        rw [hn] at hr
        cases hr
        rw [hgn]
        rfl
    | none =>
      have root : FirstOf g gs n n := ⟨i, hn, conn_refl n, fun j' r' h e ⟨kk, c⟩ => by
        have := dom_conn cl (pt.early j' r' h e) c
        rw [hgn] at this
        cases this⟩
      have lp := pt.len
      refine iteT ⟨_, rfl, _, rfl, by show 1 ≤ sizeLine; decide, fun W nW => ⟨by show 2 ≤ sizeLine; decide, fun t nt => ⟨t, _, rfl, SqT.of upd_same, rfl, _, _, rfl, _, rfl, _, rfl, D2, _, rfl, DPut.k (k := Sum.inr n) ((Shg.same_upd nt) _ _ ((Shg.same_upd nW) _ _ e2)) (by rw [encS_len]; omega), _, _, rfl, rfl, ?_⟩⟩⟩
      rw [putK_new _ (by rw [val_encS, hgn]; rfl), ← encS_app]
      have hW0 : H W = none := none_back s2 nW
      have nWD : W ≠ D2 := fun z => by rw [z, e2] at nW; cases nW
      have w3 : upd H2 W (.lst [.str n]) W = some (.lst ([n].map V.str)) := upd_same
      have s3 := (s2.trans (Shg.same_upd (o := .lst [.str n]) nW)).trans (Shg.same_upd (o := .tup [.str n, .ref W]) nt)
      have w4 := (Shg.same_upd (o := .tup [.str n, .ref W]) nt) _ _ w3
      generalize upd (upd H2 W (.lst [.str n])) t (.tup [.str n, .ref W]) = H3 at s3 w4 ⊢
      have s4 : Same H (upd H3 D2 (.dK (encS (ps ++ [(n, n)])))) := same_new s3 nD2
      have e4 : upd H3 D2 (.dK (encS (ps ++ [(n, n)]))) D2 = some (.dK (encS (ps ++ [(n, n)]))) := upd_same
      have w5 : upd H3 D2 (.dK (encS (ps ++ [(n, n)]))) W = some (.lst ([n].map V.str)) := by rw [upd_ne nWD]; exact w4
      generalize upd H3 D2 (.dK (encS (ps ++ [(n, n)]))) = H4 at s4 e4 w5 ⊢
      clear nt nW w3 w4 s3
      have pt1 := pt.push hng hgn root
      have pt2 : Pt0 g gs (i + 1) (ps ++ [(n, n)]) := ⟨pt1.nd, pt1.sub, pt1.fst, fun j r hj hr => by
        rcases Nat.lt_succ_iff_lt_or_eq.mp hj with h | h
        · exact pt1.early j r h hr
        · subst h
          rw [hn] at hr
          cases hr
          rw [gv_last hgn]
          rfl⟩
      refine ⟨fun m σ H' => ∃ (ps : Sm2) (wt : List Str) (o5 o6 : Option V), σ = [some (.ref D), some (.ref L), some (.ref D2), some (.str n), some (.ref W), o5, o6] ∧ m = wt.length + (gs.length - ps.length) ∧ Same H H' ∧ H' D2 = some (.dK (encS ps)) ∧ H' W = some (.lst (wt.map V.str)) ∧ Pt0 g gs (i + 1) ps ∧ (∀ x ∈ wt, (gv ps x).isSome = true ∧ FirstOf g gs x n) ∧ (∀ m, (gv ps m).isSome = true → m ∉ wt → ∀ m' ∈ g m, (gv ps m').isSome = true) ∧ wt.length ≤ ps.length,
        ⟨_, ps ++ [(n, n)], [n], _, _, rfl, rfl, s4, e4, w5, pt2, fun x hx => ?_, fun m hm hmn => ?_, ?_⟩, ?_⟩
      · rw [List.mem_singleton.mp hx, gv_last hgn]
        exact ⟨rfl, root⟩
      · obtain ⟨v, hv⟩ := Option.isSome_iff_exists.mp hm
        rcases gv_split hv with h | ⟨h, _⟩
        · exact fun m' hm' => gv_some_app (cl m (by rw [h]; rfl) m' hm')
        · exact absurd (List.mem_singleton.mpr h) hmn
      · rw [List.length_append]
        show 1 ≤ ps.length + 1
        omega
      clear pt pt1 pt2 cl hgn e2 s2 s4 e4 w5 lp
      rintro m σ H5 ⟨ps, wt, o5, o6, rfl, em, s5, e5, w5, pt, hwt, cl, lw⟩
      have wg : ∀ x ∈ wt, x ∈ gs := fun x hx => by
        obtain ⟨v, hv⟩ := Option.isSome_iff_exists.mp (hwt x hx).1
        exact pt.sub _ (gv_mem hv)
      have lp := pt.len
      have pl : Shp.PlainD 1 (.list (wt.map PyData.str)) := Shp.plain_lst fun d hd => by
        obtain ⟨z, hz, rfl⟩ := List.mem_map.mp hd
        exact Shp.plain_str (okG z (wg z hz)) 0
      refine ⟨_, rfl, Nat.zero_le _, fun p0 hp0 => ?_⟩
      have sC := Shg.same_upd (o := .lst []) hp0
      refine ⟨.list (wt.map PyData.str), .list [], .lst (SqL.of (sC _ _ w5)) (Shp.dp_strs _), .lst (SqL.of upd_same) .nil, Shp.plain_shaped pl, Shp.nil_shaped, _, rfl, ?_⟩
      rw [Shp.eqv_nil]
      have s6 := s5.trans sC
      have e6 := sC _ _ e5
      have w6 := sC _ _ w5
      generalize upd H5 p0 (.lst []) = H6 at s6 e6 w6 ⊢
      clear sC s5 e5 w5 hp0
      obtain rfl | ⟨wt', x, rfl⟩ : wt = [] ∨ ∃ l x, wt = l ++ [x] := by
        rcases List.eq_nil_or_concat wt with h | ⟨l, x, h⟩
        · exact .inl h
        · exact .inr ⟨l, x, by rw [h, List.concat_eq_append]⟩
      · exact iteF ⟨ps, _, _, _, _, rfl, s6, e6, pt, fun m hm => cl m hm (fun z => nomatch z)⟩
      rw [show ((wt' ++ [x]).map PyData.str).isEmpty = false from by simp]
      rw [List.length_append] at em lw
      have l1 : ([x] : List Str).length = 1 := rfl
      obtain ⟨hx1, hx2⟩ := hwt x (by simp)
      have hxg := wg x (by simp)
      refine iteT ⟨_, fun σ' H' z => z, ?_⟩
      refine ⟨_, rfl, .inl ⟨rfl, _, SqL.of w6⟩, W, _, .str x, rfl, rfl, w6, ?_, ?_⟩
      · rw [List.map_append, List.length_append]
        exact List.getElem?_concat_length
      rw [List.map_append, show ([x].map V.str) = [V.str x] from rfl, List.dropLast_concat]
      have s7 : Same H (upd H6 W (.lst (wt'.map V.str))) := same_new s6 hW0
      have e7 : upd H6 W (.lst (wt'.map V.str)) D2 = some (.dK (encS ps)) := by rw [upd_ne (Ne.symm nWD)]; exact e6
      have w7 : upd H6 W (.lst (wt'.map V.str)) W = some (.lst (wt'.map V.str)) := upd_same
      generalize upd H6 W (.lst (wt'.map V.str)) = H7 at s7 e7 w7 ⊢
      clear s6 e6 w6
      obtain ⟨a, i1, kv1, c1, c2, c3, c4, c5⟩ := near_get nk hxg
      refine name_at ?_
      refine ⟨_, rfl, _, rfl, D, .ref a, rfl, ?_, a, rfl, ⟨_, SqL.of (s7 _ _ c5)⟩, for_it (walk_list (K := K) (a := a) (xs := (g x).map V.str)) (fun k σ H' => ∃ (ps2 : Sm2) (wt2 : List Str) (o6 : Option V), σ = [some (.ref D), some (.ref L), some (.ref D2), some (.str n), some (.ref W), some (.str x), o6] ∧ Same H H' ∧ H' D2 = some (.dK (encS ps2)) ∧ H' W = some (.lst (wt2.map V.str)) ∧ Pt0 g gs (i + 1) ps2 ∧ (∀ x ∈ wt2, (gv ps2 x).isSome = true ∧ FirstOf g gs x n) ∧ (∀ m, (gv ps2 m).isSome = true → m ∉ wt2 → m ≠ x → ∀ m' ∈ g m, (gv ps2 m').isSome = true) ∧ (∀ o ∈ (g x).take k, (gv ps2 o).isSome = true) ∧ wt2.length + ps.length = wt'.length + ps2.length)
        ⟨ps, wt', o6, rfl, s7, e7, w7, pt, fun y hy => hwt y (List.mem_append_left _ hy), fun m hm hm1 hm2 => cl m hm (fun z => by
          rcases List.mem_append.mp z with z | z
          · exact hm1 z
          · exact hm2 (List.mem_singleton.mp z)), (fun _ z => nomatch z), rfl⟩ (fun k σ H' _ z => by obtain ⟨_, _, _, _, z, _⟩ := z; exact SqL.of (z _ _ c5)) ?_ ?_⟩
      · rw [← c4]
        exact DGet.k (k := Sum.inr x) (s7 _ _ eD)
      · rintro k y σ H8' H8 hk ⟨ps2, wt2, o6, rfl, s8, e8, w8, pt2, hwt2, cl2, pr2, ln2⟩ ⟨rfl, ey⟩
        rw [List.getElem?_map] at ey
        obtain ⟨o, ho, rfl⟩ := Option.map_eq_some_iff.mp ey
        have hof := List.mem_of_getElem? ho
        have hog := hF x hxg o hof
        have tk : (g x).take (k + 1) = (g x).take k ++ [o] := by rw [List.take_succ, ho]; rfl
        have lp2 := pt2.len
        refine name_at ?_
        refine ⟨_, rfl, _, rfl, D2, _, rfl, DGet.k (k := Sum.inr o) e8, _, rfl, ?_⟩
        rw [val_encS]
        cases hgo : gv ps2 o with
        | some v =>
          refine iteF ⟨ps2, wt2, _, rfl, s8, e8, w8, pt2, hwt2, cl2, fun z hz => ?_, ln2⟩
          rw [tk] at hz
          rcases List.mem_append.mp hz with h | h
          · exact pr2 z h
          · rw [List.mem_singleton.mp h, hgo]
            rfl
        | none =>
          have fo := first_step sy hof hx2
          refine iteT ⟨_, rfl, _, rfl, _, rfl, D2, _, rfl, DPut.k (k := Sum.inr o) e8 (by rw [encS_len]; omega), ?_⟩
          rw [putK_new _ (by rw [val_encS, hgo]; rfl), ← encS_app]
          have s9 : Same H (upd H8 D2 (.dK (encS (ps2 ++ [(o, n)])))) := same_new s8 nD2
          have e9 : upd H8 D2 (.dK (encS (ps2 ++ [(o, n)]))) D2 = some (.dK (encS (ps2 ++ [(o, n)]))) := upd_same
          have w9 : upd H8 D2 (.dK (encS (ps2 ++ [(o, n)]))) W = some (.lst (wt2.map V.str)) := by rw [upd_ne nWD]; exact w8
          generalize upd H8 D2 (.dK (encS (ps2 ++ [(o, n)]))) = H9 at s9 e9 w9 ⊢
          have pt3 := pt2.push hog hgo fo
          have lp3 := pt3.len
          rw [List.length_append] at lp3
          have l2 : ([(o, n)] : Sm2).length = 1 := rfl
          refine ⟨_, rfl, .inl ⟨rfl, _, SqL.of w9⟩, _, rfl, W, _, _, rfl, rfl, w9, by rw [List.length_map]; omega, ps2 ++ [(o, n)], wt2 ++ [o], _, rfl, same_new s9 hW0, by rw [upd_ne (Ne.symm nWD)]; exact e9, by rw [upd_same, List.map_append]; rfl, pt3, fun z hz => ?_, fun m hm hm1 hm2 => ?_, fun z hz => ?_, by rw [List.length_append, List.length_append]; show wt2.length + 1 + _ = _ + (_ + 1); omega⟩
          · rcases List.mem_append.mp hz with h | h
            · exact ⟨gv_some_app (hwt2 z h).1, (hwt2 z h).2⟩
            · rw [List.mem_singleton.mp h, gv_last hgo]
              exact ⟨rfl, fo⟩
          · obtain ⟨v, hv⟩ := Option.isSome_iff_exists.mp hm
            rcases gv_split hv with h | ⟨h, _⟩
            · exact fun m' hm' => gv_some_app (cl2 m (by rw [h]; rfl) (fun z => hm1 (List.mem_append_left _ z)) hm2 m' hm')
            · exact absurd (by rw [h]; simp) hm1
          · rw [tk] at hz
            rcases List.mem_append.mp hz with h | h
            · exact gv_some_app (pr2 z h)
            · rw [List.mem_singleton.mp h, gv_last hgo]
              rfl
      · rintro σ H8 ⟨ps2, wt2, o6, rfl, s8, e8, w8, pt2, hwt2, cl2, pr2, ln2⟩
        rw [List.length_map, List.take_length] at pr2
        have lp2 := pt2.len
        refine ⟨wt2.length + (gs.length - ps2.length), by omega, ps2, wt2, _, _, rfl, rfl, s8, e8, w8, pt2, hwt2, fun m hm hm1 => ?_, by omega⟩
        by_cases e : m = x
        · subst e
          exact pr2
        · exact cl2 m hm hm1 e
  · rintro σ H2 ⟨ps, o3, o4, o5, o6, rfl, s2, e2, pt, cl⟩
    refine ⟨_, rfl, k D2 ps H2 s2 e2 fun n hn => ?_⟩
    obtain ⟨j, hj⟩ := List.getElem?_of_mem hn
    obtain ⟨r, hr⟩ := Option.isSome_iff_exists.mp (pt.early j n (by rw [List.length_map]; exact (List.getElem?_eq_some_iff.mp hj).1) hj)
    exact ⟨r, hr, pt.fst n r hr⟩
end
end Fp
set_option Elab.async false
set_option linter.all false
set_option maxRecDepth 100000
set_option maxHeartbeats 4000000
set_option autoImplicit false
/-! {k: v}, k a tuple. -/
namespace Sho
open PySem PySem.Spec PyProof.Rows L2
def tDisp1T (tk tv : TE) : TE := fun σ H Q => ∀ p, H p = none → tk σ (upd H p (.dT [])) fun y H1 => tv σ H1 fun z H2 => ∃ (k : List L2.Key) (q : Addr), y = .ref q ∧ H2 q = some (.tup (k.map kV)) ∧ H2 p = some (.dT []) ∧ Q (.ref p) (upd H2 p (.dT [(k, z)]))
theorem pe_disp1T {X : Cx} {k v : Expr} {pos : Pos} {tk tv : TE} (hu : X.A.units < cLine) (hk : PE X k tk) (hv : PE X v tv) : PE X (.Dict [some k] [v] pos) (tDisp1T tk tv) := by
  refine ⟨fun pins s σ H Q I h => ?_⟩
  have hn := I.hok.fresh (Nat.le_refl s.heap.objs.size)
  have I1 := I.laid (a := s.heap.objs.size) (o := .dT []) (h' := s.heap.push { cls := .type "dict", data := .dict #[] }) (t' := s.toks) (fun _ _ q => Heap.get?_push_of_some _ q) (Nat.le_refl _) (dt_empty s.heap I.big)
  have len := pairTrees_length [some k] [v] X.env pos rfl rfl
  have ne : pairTrees [some k] [v] X.env pos ≠ [] := fun z => by rw [z] at len; cases len
  rw [arm_eval_Dict, zip_pairTrees [some k] [v] X.env pos rfl rfl, dictDisplay_pairs _ ne (by rw [len]; show 1 < 17; decide)]
  refine wpAny_bind (wpAny_standAt (wpAny_bind (wpAny_subDictH (knd := tupleKind (mixKind X.prog X.w)) (Q := fun d s' => wpAny (model X.prog X.w) X.A (pure (Value.ref d)) (EP X pins σ Q) X.xe s') hu (by rw [len]; show 1 ≤ 15; decide) ?_)))
  refine pairTrees_cons_walk (thn (hk.run pins _ σ _ _ I1 (h _ hn)) fun u s1 ⟨x, H1, I2, rx, q1⟩ => thn (hv.run pins s1 σ H1 _ I2 q1) fun w2 s2 ⟨y, H2, I3, ry, kk, q, ex, eq, ep, q3⟩ => pairTrees_nil_walk ?_)
  subst ex
  obtain ⟨z, hd, xs, rel, dd⟩ := dt_of I3.hok ep
  cases rel
  refine ⟨[(kk, q, w2)], ⟨rx, rfl, key_of I3.hok eq, trivial⟩, dd, fun h' tk dd' hs => wpAny_pure ⟨.ref _, _, ?_, rfl, q3⟩⟩
  obtain ⟨o, es, epp, hq, h2, h3, h4, _, h5⟩ := dd'
  refine d_write I3 (by rw [ep]; exact True.intro) hs ⟨o, hq⟩ ⟨by show 1 ≤ sizeLine; decide, hd, [(kk, q, w2)], ?_, o, es, epp, hq, h2, h3, h4, h5⟩
  exact .cons ⟨rfl, (upd_ne (ne_of eq ep (fun z => nomatch z))).trans eq, ry⟩ .nil
end Sho
set_option Elab.async false
set_option linter.all false
set_option maxRecDepth 100000
set_option maxHeartbeats 8000000
set_option autoImplicit false
/-! _odd_walk. -/
namespace Fp
open PySem L2 Sho NdefX Shg Sh1 Gq Ck
abbrev kN (x : Nd) : List L2.Key := [Sum.inr x.1, Sum.inl x.2]
/-- the walks in the dict; their lists are none at F -/
def WalksAt (H : Hp) (F : Addr → Prop) (kvs : List (List L2.Key × V)) (ws : Wk) : Prop := PySem.Paired (fun (kv : List L2.Key × V) (q : Nd × List Str) => kv.1 = kN q.1 ∧ ∃ a, kv.2 = .ref a ∧ F a ∧ H a = some (.lst (q.2.map V.str))) kvs ws
def FrAt (H : Hp) (v : V) (x : Nd) : Prop := ∃ t, v = .ref t ∧ H t = some (.tup [.str x.1, .int x.2])
theorem kN_inj {x y : Nd} (h : kN x = kN y) : x = y := by
  obtain ⟨a, b⟩ := x
  obtain ⟨c, d⟩ := y
  injection h with h1 h2
  injection h2 with h2 _
  have h1 : a = c := Sum.inr.inj h1
  have h2 : b = d := Sum.inl.inj h2
  rw [h1, h2]
theorem kN_map (x : Nd) : (kN x).map kV = [V.str x.1, V.int x.2] := rfl
theorem walks_get {H : Hp} {F : Addr → Prop} {kvs : List (List L2.Key × V)} {ws : Wk} (r : WalksAt H F kvs ws) (x : Nd) : (gv ws x = none ∧ valV kvs (kN x) = none) ∨ ∃ w a, gv ws x = some w ∧ valV kvs (kN x) = some (.ref a) ∧ F a ∧ H a = some (.lst (w.map V.str)) := by
  unfold WalksAt at r
  induction r with
  | nil => exact .inl ⟨rfl, rfl⟩
  | @cons kv q kvs ws h r ih =>
    obtain ⟨e1, a, e2, e3, e4⟩ := h
    by_cases e : q.1 = x
    · subst e
      refine .inr ⟨q.2, a, ?_, by rw [valV_pos e1, e2], e3, e4⟩
      unfold gv
      rw [List.find?_cons_of_pos (by simp)]
      rfl
    · have g1 : gv (q :: ws) x = gv ws x := by
        unfold gv
        rw [List.find?_cons_of_neg (by simpa using e)]
      rw [g1, valV_neg (fun z => e (kN_inj (e1.symm.trans z)))]
      exact ih
theorem walks_same {H H' : Hp} {F : Addr → Prop} {kvs : List (List L2.Key × V)} {ws : Wk} (r : WalksAt H F kvs ws) (s : Same H H') : WalksAt H' F kvs ws := Shg.pair_mono (fun kv q ⟨e1, a, e2, e3, e4⟩ => ⟨e1, a, e2, e3, s _ _ e4⟩) r
theorem fr_same {H H' : Hp} {us : List V} {fr : List Nd} (r : PySem.Paired (FrAt H) us fr) (s : Same H H') : PySem.Paired (FrAt H') us fr := Shg.pair_mono (fun v x ⟨t, e, h⟩ => ⟨t, e, s _ _ h⟩) r
/-- between two turns: all but the dict and the new list stays -/
structure InW (H0 : Hp) (Wd Fa : Addr) (H4 : Hp) (kv : List (List L2.Key × V)) (ws : Wk) (us : List V) (fr : List Nd) (H : Hp) : Prop where
  b : But2 Wd Fa H4 H
  eW : H Wd = some (.dT kv)
  wa : WalksAt H (fun a => a ≠ Fa ∧ H0 a = none) kv ws
  eF : H Fa = some (.lst us)
  fr : PySem.Paired (FrAt H) us fr
theorem InW.same {H0 : Hp} {Wd Fa : Addr} {H4 H H' : Hp} {kv : List (List L2.Key × V)} {ws : Wk} {us : List V} {fr : List Nd} (h : InW H0 Wd Fa H4 kv ws us fr H) (s : Same H H') : InW H0 Wd Fa H4 kv ws us fr H' :=
  ⟨fun b o e n m => s _ _ (h.b b o e n m), s _ _ h.eW, walks_same h.wa s, s _ _ h.eF, fr_same h.fr s⟩
abbrev NOw : List Str := ["crossing", "start", "walks", "reached", "further", "name", "odd", "other"]
section
variable {P : Program} {w : World} {K : PySem.W.Frag} {mg : Str → Option Value} {base : Heap}
def spOdd : Sp := fun vs H Q _ => ∃ (Cd : Addr) (kvs : List (Key × V)) (gs : List Str) (f : Str → List Str) (n0 : Str), vs = [.ref Cd, .str n0] ∧ H Cd = some (.dK kvs) ∧ NearK H kvs gs f ∧ n0 ∈ gs ∧ gs.length ≤ 1000 ∧ (∀ n ∈ gs, ∀ m ∈ f n, m ∈ gs) ∧
  (oddWalk f gs n0 = none → ∀ H', Same H H' → Q .non H') ∧ ∀ w, oddWalk f gs n0 = some w → w.length ≤ 2000 → ∀ (a : Addr) H', Same H H' → H a = none → H' a = some (.lst (w.map V.str)) → Q (.ref a) H'
theorem scOw : FnScope NOw ["crossing", "start"] (defScope sOddWalk) := ⟨rfl, rfl, rfl, by decide +kernel, rfl, by decide +kernel, by decide +kernel⟩
theorem ok_odd {f : Addr} {fd : FuncData} (F : Fun K "_odd_walk" "_odd_walk" sOddWalk f fd) : FnOk P w K mg base CX0 1 f fd ["crossing", "start"] spOdd := by
  refine F.ok scOw (fun vs H Q E h => ?_) (fun cdv A outer s H vs Q E hr h => ?_)
  · obtain ⟨Cd, kvs, gs, f, n0, rfl, _⟩ := h
    rfl
  obtain ⟨Cd, kvs, gs, g, n0, rfl, eC, nk, hn0, hg, hF, k1, k2⟩ := h
  have nd := scOw.nd
  refine ⟨_, pss_cons (ps_set (i := 2) nd rfl (Or.inl rfl) (pe_disp1T (Nat.lt_of_le_of_lt (Nat.le_add_right _ _) hr.units) (pe_tup (pa_cons (pv 1) (pa_cons pe_int pa_nil))) (pe_lst pa_nil)))
    (pss_cons (ps_set (i := 3) nd rfl (Or.inl rfl) (pe_lst (pa_cons (pe_tup (pa_cons (pv 1) (pa_cons pe_int pa_nil))) pa_nil)))
    (pss_cons (ps_while PassesOwn.never (pt_truth (pv 3) (fun _ => rfl))
      (pss_cons (ps_set (i := 4) nd rfl (Or.inl rfl) (pe_lst pa_nil))
      (pss_cons (ps_for PassesOwn.never rfl (pi_list (pv 3)) (pg_tup rfl (pgs_cons (pg_name (i := 5) nd rfl (Or.inl rfl)) (pgs_cons (pg_name (i := 6) nd rfl (Or.inl rfl)) pgs_nil)))
        (pss_one (ps_for PassesOwn.never rfl (pi_list (pe_dget (units1 hr) (pv 0) (pv 5) (fun _ _ => rfl))) (pg_name (i := 7) nd rfl (Or.inl rfl))
          (pss_one (ps_if (pt_cmp (pc_dnotin (units1 hr) (pe_tup (pa_cons (pv 7) (pa_cons (pe_op op_sub pe_int (pv 6)) pa_nil))) (pv 2)) rfl)
            (pss_cons (ps_dput (units1 hr) (pv 2) (pe_tup (pa_cons (pv 7) (pa_cons (pe_op op_sub pe_int (pv 6)) pa_nil))) (pe_lst (StX.pa_star (pe_dget (units1 hr) (pv 2) (pe_tup (pa_cons (pv 5) (pa_cons (pv 6) pa_nil))) (fun _ _ => rfl)) (pa_cons (pv 7) pa_nil))) rfl)
            (pss_one (ps_expr (pe_bm PySem.F.plainAttrs_list PySem.F.slot_list_append PySem.F.type_list_append mt_append (pv 4) (pa_cons (pe_tup (pa_cons (pv 7) (pa_cons (pe_op op_sub pe_int (pv 6)) pa_nil))) pa_nil))))) pss_nil)))))
      (pss_one (ps_set (i := 3) nd rfl (Or.inl rfl) (pv 4))))))
    (pss_one (ps_ret (pe_dget1 (units1 hr) (pv 2) (pe_tup (pa_cons (pv 1) (pa_cons pe_int pa_nil))) ⟨rfl, rfl, rfl, rfl⟩))))), ?_⟩
  have line : 30000 < sizeLine := by decide
  refine fun Wd nWd => ⟨_, rfl, by show 2 ≤ sizeLine; decide, fun t1 nt1 => ⟨Nat.zero_le _, fun a0 na0 => ⟨kN (n0, 0), t1, rfl, ?_, ?_, ?_⟩⟩⟩
  · rw [upd_ne (ne_of_none upd_same na0)]
    exact upd_same
  · have x1 : upd (upd H Wd (.dT [])) t1 (.tup [.str n0, .int 0]) Wd = some (.dT []) := by
      rw [upd_ne (ne_of_none upd_same nt1)]
      exact upd_same
    exact (upd_ne (ne_of_none x1 na0)).trans x1
  have hW0 : H Wd = none := nWd
  have naW : a0 ≠ Wd := fun z => by rw [z, upd_ne (ne_of_none upd_same nt1), upd_same] at na0; cases na0
  have sA : Same H (upd (upd (upd (upd H Wd (.dT [])) t1 (.tup [.str n0, .int 0])) a0 (.lst [])) Wd (.dT [(kN (n0, 0), .ref a0)])) := same_new (((Shg.same_upd nWd).trans (Shg.same_upd nt1)).trans (Shg.same_upd na0)) hW0
  have eA : (upd (upd (upd (upd H Wd (.dT [])) t1 (.tup [.str n0, .int 0])) a0 (.lst [])) Wd (.dT [(kN (n0, 0), .ref a0)])) Wd = some (.dT [(kN (n0, 0), .ref a0)]) := upd_same
  have aA : (upd (upd (upd (upd H Wd (.dT [])) t1 (.tup [.str n0, .int 0])) a0 (.lst [])) Wd (.dT [(kN (n0, 0), .ref a0)])) a0 = some (.lst []) := by rw [upd_ne naW]; exact upd_same
  have ha0 : H a0 = none := none_back ((Shg.same_upd nWd).trans (Shg.same_upd nt1)) na0
  generalize upd (upd (upd (upd H Wd (.dT [])) t1 (.tup [.str n0, .int 0])) a0 (.lst [])) Wd (.dT [(kN (n0, 0), .ref a0)]) = H1 at sA eA aA ⊢
  clear nt1 na0
  refine name_at ⟨_, rfl, by show 2 ≤ sizeLine; decide, fun t2 nt2 => ⟨by show 1 ≤ sizeLine; decide, fun Ra nRa => name_at (nx_of ?_)⟩⟩
  have s3 := (Shg.same_upd (o := .tup [.str n0, .int 0]) nt2).trans (Shg.same_upd (o := .lst [.ref t2]) nRa)
  have e3 := s3 _ _ eA
  have a3 := s3 _ _ aA
  have r3 : upd (upd H1 t2 (.tup [.str n0, .int 0])) Ra (.lst [.ref t2]) Ra = some (.lst [.ref t2]) := upd_same
  have q3 : upd (upd H1 t2 (.tup [.str n0, .int 0])) Ra (.lst [.ref t2]) t2 = some (.tup [.str n0, .int 0]) := by
    rw [upd_ne fun z => by rw [← z, upd_same] at nRa; cases nRa]
    exact upd_same
  have sB := sA.trans s3
  generalize upd (upd H1 t2 (.tup [.str n0, .int 0])) Ra (.lst [.ref t2]) = H2 at e3 a3 r3 q3 sB ⊢
  clear s3 nRa nt2 sA eA aA
  have pos : 1 ≤ gs.length := List.length_pos_of_mem hn0
  have w0 : Wok gs [((n0, 0), [])] [(n0, 0)] := ⟨by simp, fun q hq => by rw [List.mem_singleton.mp hq]; exact ⟨hn0, .inl rfl⟩, fun x hx => by rw [List.mem_singleton.mp hx, gv_one]; rfl, fun q hq => by rw [List.mem_singleton.mp hq]; exact Nat.zero_lt_one⟩
  refine ⟨fun m σ H' => ∃ (i : Nat) (ws : Wk) (fr : List Nd) (kv : List (List L2.Key × V)) (Ra : Addr) (vs : List V) (o4 o5 o6 o7 : Option V), σ = [some (.ref Cd), some (.str n0), some (.ref Wd), some (.ref Ra), o4, o5, o6, o7] ∧ m = 2 * gs.length - ws.length + (if fr.isEmpty = true then 0 else 1) ∧ Same H H' ∧ H' Wd = some (.dT kv) ∧ WalksAt H' (fun a => a ≠ Wd ∧ H a = none) kv ws ∧
      H' Ra = some (.lst vs) ∧ PySem.Paired (FrAt H') vs fr ∧ Wok gs ws fr ∧ iter g ([((n0, 0), [])], [(n0, 0)]) i = (ws, fr) ∧ i ≤ ws.length ∧ (fr ≠ [] → i + 1 ≤ ws.length),
    ⟨_, 0, [((n0, 0), [])], [(n0, 0)], [(kN (n0, 0), .ref a0)], Ra, [.ref t2], none, none, none, none, rfl, rfl, sB, e3, .cons ⟨rfl, a0, rfl, ⟨naW, ha0⟩, a3⟩ .nil, r3, .cons ⟨t2, rfl, q3⟩ .nil, w0, rfl, Nat.zero_le _, fun _ => Nat.le_refl _⟩, ?_⟩
  rintro m σ H3 ⟨i, ws, fr, kv, Ra, vs, o4, o5, o6, o7, rfl, em, s3, eW, wa, eR, rF, wk, it, li, lj⟩
  refine ⟨_, rfl, !vs.isEmpty, .inl ⟨_, SqL.of eR, rfl⟩, ?_⟩
  have lvf := Shg.pair_len rF
  cases fr with
  | nil =>
    obtain rfl : vs = [] := List.eq_nil_of_length_eq_zero lvf
    refine iteF ⟨_, rfl, Wd, rfl, ?_, _, rfl, by show 2 ≤ sizeLine; decide, fun t nt => ⟨_, DGet.t (k := kN (n0, 1)) ((Shg.same_upd nt) _ _ eW) upd_same, ?_⟩⟩
    · exact .inr ⟨_, .inl eW⟩
    have fix : (iter g ([((n0, 0), [])], [(n0, 0)]) (2 * gs.length)).1 = ws := by
      have := iter_fix it (2 * gs.length - i)
      have lw := wk.few
      rw [show i + (2 * gs.length - i) = 2 * gs.length from by omega] at this
      rw [this]
    have st := s3.trans (Shg.same_upd (o := .tup [.str n0, .int 1]) nt)
    rcases walks_get (walks_same wa (Shg.same_upd nt)) (n0, 1) with ⟨h1, h2⟩ | ⟨w, a, h1, h2, h3, h4⟩
    · rw [h2]
      refine k1 ?_ _ st
      unfold oddWalk
      rw [fix]
      exact h1
    · rw [h2]
      refine k2 w ?_ ?_ a _ st h3.2 h4
      · unfold oddWalk
        rw [fix]
        exact h1
      · have l1 : w.length < ws.length := wk.len _ (gv_mem h1)
        have l2 := wk.few
        omega
  | cons x0 fr0 =>
    rw [show (!vs.isEmpty) = true from by cases vs with | nil => cases lvf | cons _ _ => rfl]
    have lj := lj (by simp)
    have hfe : (x0 :: fr0).isEmpty = false := rfl
    generalize x0 :: fr0 = fr at *
    have lw := wk.few
    refine iteT ⟨_, fun σ' H' z => z, Nat.zero_le _, fun Fa nFa => name_at ?_⟩
    have nFW : Fa ≠ Wd := fun z => by rw [z, eW] at nFa; cases nFa
    have hF0 : H Fa = none := none_back s3 nFa
    have sF := Shg.same_upd (o := .lst []) nFa
    have iw : InW H Wd Fa H3 kv ws [] [] (upd H3 Fa (.lst [])) := ⟨But2.of sF, sF _ _ eW, Shg.pair_mono (fun kv q ⟨e1, a, e2, e3, e4⟩ => ⟨e1, a, e2, ⟨(fun z => by rw [z, nFa] at e4; cases e4), e3.2⟩, sF _ _ e4⟩) wa, upd_same, .nil⟩
    generalize upd H3 Fa (.lst []) = H4 at sF iw ⊢
    have nRW : Ra ≠ Wd := fun z => by rw [z, eW] at eR; cases eR
    have nRF : Ra ≠ Fa := fun z => by rw [z, nFa] at eR; cases eR
    have keepH : ∀ {H' : Hp}, But2 Wd Fa H3 H' → Same H H' := fun {H'} b c o e => b _ _ (s3 _ _ e) (ne_of_none e hW0) (ne_of_none e hF0)
    refine ⟨_, rfl, Ra, rfl, ⟨_, SqL.of (sF _ _ eR)⟩, for_it (walk_list (K := K) (a := Ra) (xs := vs)) (fun j σ H' => ∃ (ws2 : Wk) (fr2 : List Nd) (kv2 : List (List L2.Key × V)) (us : List V) (o5 o6 o7 : Option V), σ = [some (.ref Cd), some (.str n0), some (.ref Wd), some (.ref Ra), some (.ref Fa), o5, o6, o7] ∧ InW H Wd Fa H3 kv2 ws2 us fr2 H' ∧ Wok gs ws2 (fr ++ fr2) ∧ (fr.take j).foldl (stepAll g) (ws, []) = (ws2, fr2) ∧ ws2.length = ws.length + fr2.length)
      ⟨ws, [], kv, [], o5, o6, o7, rfl, iw, by rw [List.append_nil]; exact wk, rfl, rfl⟩ (fun j σ H' _ z => by obtain ⟨_, _, _, _, _, _, _, _, z, _⟩ := z; exact SqL.of (z.b _ _ eR nRW nRF)) ?_ ?_⟩
    · rintro j y σ H5' H5 hj ⟨ws2, fr2, kv2, us, o5, o6, o7, rfl, w5, wk2, fo, l5⟩ ⟨rfl, ey⟩
      obtain ⟨x, hx, tx, rfl, htx3⟩ := Shg.pair_get rF ey
      have htx : ∀ {H' : Hp}, But2 Wd Fa H3 H' → H' tx = some (.tup [.str x.1, .int x.2]) := fun {H'} b => b _ _ htx3 (fun z => by rw [z, eW] at htx3; cases htx3) (fun z => by rw [z, nFa] at htx3; cases htx3)
      have hxm : x ∈ fr := List.mem_of_getElem? hx
      obtain ⟨wx, hwx⟩ : ∃ wx, gv ws2 x = some wx := Option.isSome_iff_exists.mp (wk2.fr x (List.mem_append_left _ hxm))
      obtain ⟨hxg, hx01⟩ := wk2.sub _ (gv_mem hwx)
      have hxg : x.1 ∈ gs := hxg
      have hx01 : x.2 = 0 ∨ x.2 = 1 := hx01
      obtain ⟨a, i1, kv1, c1, c2, c3, c4, c5⟩ := near_get nk hxg
      refine ⟨tx, _, rfl, SqT.of (htx w5.b), rfl, _, _, rfl, _, _, rfl, rfl, ?_⟩
      refine ⟨_, rfl, _, rfl, Cd, .ref a, rfl, ?_, a, rfl, ⟨_, SqL.of (keepH w5.b _ _ c5)⟩, for_it (walk_list (K := K) (a := a) (xs := (g x.1).map V.str)) (fun i σ H' => ∃ (ws3 : Wk) (fr3 : List Nd) (kv3 : List (List L2.Key × V)) (us3 : List V) (o7 : Option V), σ = [some (.ref Cd), some (.str n0), some (.ref Wd), some (.ref Ra), some (.ref Fa), some (.str x.1), some (.int x.2), o7] ∧ InW H Wd Fa H3 kv3 ws3 us3 fr3 H' ∧ Wok gs ws3 (fr ++ fr3) ∧ ((g x.1).take i).foldl (stepOne x wx) (ws2, fr2) = (ws3, fr3) ∧ ws3.length = ws.length + fr3.length ∧ gv ws3 x = some wx)
        ⟨ws2, fr2, kv2, us, o7, rfl, w5, wk2, rfl, l5, hwx⟩ (fun i σ H' _ z => by obtain ⟨_, _, _, _, _, _, z, _⟩ := z; exact SqL.of (keepH z.b _ _ c5)) ?_ ?_⟩
      · rw [← c4]
        exact DGet.k (k := Sum.inr x.1) (keepH w5.b _ _ eC)
      · rintro i' y σ H6' H6 hi ⟨ws3, fr3, kv3, us3, o7, rfl, w6, wk3, fo3, l6, hwx3⟩ ⟨rfl, ey⟩
        rw [List.getElem?_map] at ey
        obtain ⟨mm, hmm, rfl⟩ := Option.map_eq_some_iff.mp ey
        have hmg : mm ∈ gs := hF x.1 hxg mm (List.mem_of_getElem? hmm)
        have fo' : ((g x.1).take (i' + 1)).foldl (stepOne x wx) (ws2, fr2) = stepOne x wx (ws3, fr3) mm := by
          rw [List.take_succ, hmm, List.foldl_append, fo3]
          rfl
        have lw3 := wk3.few
        have lf3 := Shg.pair_len w6.fr
        refine name_at ?_
        refine ⟨_, rfl, _, rfl, _, _, rfl, rfl, by show 2 ≤ sizeLine; decide, fun t nt => ⟨_, rfl, Wd, _, rfl, DGet.t (k := kN (mm, 1 - x.2)) ((w6.same (Shg.same_upd nt)).eW) upd_same, _, rfl, ?_⟩⟩
        have w7 := w6.same (Shg.same_upd (o := .tup [.str mm, .int (1 - x.2)]) nt)
        generalize upd H6 t (.tup [.str mm, .int (1 - x.2)]) = H7 at w7 ⊢
        clear nt
        rcases walks_get w7.wa (mm, 1 - x.2) with ⟨h1, h2⟩ | ⟨w', a', h1, h2, h3, h4⟩
        · rw [h2]
          have lwx : wx.length < ws3.length := wk3.len _ (gv_mem hwx3)
          rcases walks_get w7.wa x with ⟨g1, _⟩ | ⟨w'', ax, g1, g2, g3, g4⟩
          · rw [hwx3] at g1
            cases g1
          rw [hwx3] at g1
          cases g1
          refine iteT ⟨_, rfl, _, rfl, _, rfl, by show 2 ≤ sizeLine; decide, fun t1 nt1 => ⟨Wd, .ref ax, rfl, ?_, ?_⟩⟩
          · rw [← g2]
            exact DGet.t (k := kN x) ((w7.same (Shg.same_upd nt1)).eW) upd_same
          have w8 := w7.same (Shg.same_upd (o := .tup [.str x.1, .int x.2]) nt1)
          have g8 := (Shg.same_upd (o := .tup [.str x.1, .int x.2]) nt1) _ _ g4
          generalize upd H7 t1 (.tup [.str x.1, .int x.2]) = H8 at w8 g8 ⊢
          clear nt1
          refine ⟨ax, _, rfl, .inr (SqL.of g8), _, rfl, ?_, fun na nna => ?_⟩
          · rw [List.length_append, List.length_map]
            show wx.length + 1 ≤ sizeLine
            omega
          have w9 := w8.same (Shg.same_upd (o := .lst (wx.map V.str ++ [.str mm])) nna)
          have hna : H na = none := none_back (keepH w8.b) nna
          have naF : na ≠ Fa := fun z => by rw [z, w8.eF] at nna; cases nna
          have g9 : upd H8 na (.lst (wx.map V.str ++ [.str mm])) na = some (.lst ((wx ++ [mm]).map V.str)) := by rw [upd_same, List.map_append]; rfl
          generalize upd H8 na (.lst (wx.map V.str ++ [.str mm])) = H9 at w9 g9 ⊢
          clear nna
          refine ⟨_, rfl, _, rfl, _, rfl, _, _, rfl, rfl, by show 2 ≤ sizeLine; decide, fun t2 nt2 => ⟨Wd, _, rfl, DPut.t (k := kN (mm, 1 - x.2)) ((w9.same (Shg.same_upd nt2)).eW) upd_same ?_, ?_⟩⟩
          · have := Shg.pair_len w9.wa
            omega
          have wA := w9.same (Shg.same_upd (o := .tup [.str mm, .int (1 - x.2)]) nt2)
          have gA := (Shg.same_upd (o := .tup [.str mm, .int (1 - x.2)]) nt2) _ _ g9
          generalize upd H9 t2 (.tup [.str mm, .int (1 - x.2)]) = HA at wA gA ⊢
          clear nt2
          rw [putK_new _ h2]
          have hl : ∀ {b : Addr} {zs : List V}, HA b = some (.lst zs) → b ≠ Wd := fun {b zs} e z => by rw [z, wA.eW] at e; cases e
          have wB : InW H Wd Fa H3 (kv3 ++ [(kN (mm, 1 - x.2), .ref na)]) (ws3 ++ [((mm, 1 - x.2), wx ++ [mm])]) us3 fr3 (upd HA Wd (.dT (kv3 ++ [(kN (mm, 1 - x.2), .ref na)]))) := by
            refine ⟨fun b o e n1 n2 => by rw [upd_ne n1]; exact wA.b b o e n1 n2, upd_same, Shg.pair_app (Shg.pair_mono (fun kv q ⟨e1, b, e2, e3, e4⟩ => ⟨e1, b, e2, e3, by rw [upd_ne (hl e4)]; exact e4⟩) wA.wa) (.cons ⟨rfl, na, rfl, ⟨naF, hna⟩, by rw [upd_ne (hl gA)]; exact gA⟩ .nil), by rw [upd_ne nFW]; exact wA.eF, Shg.pair_mono (fun v z ⟨b, e, hb⟩ => ⟨b, e, by rw [upd_ne fun q => by rw [q, wA.eW] at hb; cases hb]; exact hb⟩) wA.fr⟩
          generalize upd HA Wd (.dT (kv3 ++ [(kN (mm, 1 - x.2), .ref na)])) = HB at wB ⊢
          have wkB : Wok gs (ws3 ++ [((mm, 1 - x.2), wx ++ [mm])]) (fr ++ (fr3 ++ [(mm, 1 - x.2)])) := by
            rw [← List.append_assoc]
            refine wk3.push hmg ?_ h1 ?_
            · rcases hx01 with e | e
              · exact .inr (by show 1 - x.2 = 1; omega)
              · exact .inl (by show 1 - x.2 = 0; omega)
            · rw [List.length_append]
              exact lwx
          refine ⟨_, rfl, .inl ⟨rfl, _, SqL.of wB.eF⟩, _, rfl, _, rfl, _, _, rfl, rfl, by show 2 ≤ sizeLine; decide, fun t3 nt3 => ⟨Fa, _, _, rfl, rfl, (wB.same (Shg.same_upd nt3)).eF, ?_, ?_⟩⟩
          · have := Shg.pair_len wB.fr
            omega
          have wC := wB.same (Shg.same_upd (o := .tup [.str mm, .int (1 - x.2)]) nt3)
          have tC : upd HB t3 (.tup [.str mm, .int (1 - x.2)]) t3 = some (.tup [.str mm, .int (1 - x.2)]) := upd_same
          generalize upd HB t3 (.tup [.str mm, .int (1 - x.2)]) = HC at wC tC ⊢
          refine ⟨_, _, _, us3 ++ [.ref t3], _, rfl, ⟨fun b o e n1 n2 => by rw [upd_ne n2]; exact wC.b b o e n1 n2, by rw [upd_ne (Ne.symm nFW)]; exact wC.eW, Shg.pair_mono (fun kv q ⟨e1, b, e2, e3, e4⟩ => ⟨e1, b, e2, e3, by rw [upd_ne e3.1]; exact e4⟩) wC.wa, upd_same, Shg.pair_app (Shg.pair_mono (fun v z ⟨b, e, hb⟩ => ⟨b, e, by rw [upd_ne fun q => by rw [q, wC.eF] at hb; cases hb]; exact hb⟩) wC.fr) (.cons ⟨t3, rfl, by rw [upd_ne fun q => by rw [q, wC.eF] at tC; cases tC]; exact tC⟩ .nil)⟩, wkB, ?_, ?_, gv_keep hwx3⟩
          · rw [fo']
            unfold stepOne
            rw [h1]
            rfl
          · rw [List.length_append, List.length_append]
            show ws3.length + 1 = ws.length + (fr3.length + 1)
            omega
        · rw [h2]
          refine iteF ⟨ws3, fr3, kv3, us3, _, rfl, w7, wk3, ?_, l6, hwx3⟩
          rw [fo']
          unfold stepOne
          rw [h1]
          rfl
      · rintro σ H6 ⟨ws3, fr3, kv3, us3, o7, rfl, w6, wk3, fo3, l6, _⟩
        rw [List.length_map, List.take_length] at fo3
        refine ⟨ws3, fr3, kv3, us3, _, _, _, rfl, w6, wk3, ?_, l6⟩
        rw [List.take_succ, hx, List.foldl_append, fo]
        show stepAll g (ws2, fr2) x = _
        unfold stepAll
        rw [hwx]
        exact fo3
    · rintro σ H5 ⟨ws2, fr2, kv2, us, o5, o6, o7, rfl, w5, wk2, fo, l5⟩
      rw [lvf, List.take_length] at fo
      refine ⟨_, rfl, ?_⟩
      have lw2 := wk2.few
      refine ⟨2 * gs.length - ws2.length + (if fr2.isEmpty = true then 0 else 1), ?_, i + 1, ws2, fr2, kv2, Fa, us, _, _, _, _, rfl, rfl, keepH w5.b, w5.eW, ?_, w5.eF, w5.fr, ⟨wk2.nd, wk2.sub, fun x hx => wk2.fr x (List.mem_append_right _ hx), wk2.len⟩, ?_, by omega, fun hne => ?_⟩
      · rw [em, hfe, if_neg Bool.false_ne_true]
        cases fr2 with
        | nil =>
          rw [show ([] : List Nd).isEmpty = true from rfl, if_pos rfl]
          have : ([] : List Nd).length = 0 := rfl
          omega
        | cons x1 fr1 =>
          rw [show (x1 :: fr1).isEmpty = false from rfl, if_neg Bool.false_ne_true]
          have : (x1 :: fr1).length = fr1.length + 1 := rfl
          omega
      · exact Shg.pair_mono (fun kv q ⟨e1, a, e2, e3, e4⟩ => ⟨e1, a, e2, ⟨(fun z => by rw [z, w5.eW] at e4; cases e4), e3.2⟩, e4⟩) w5.wa
      · show layer g (iter g _ i) = _
        rw [it]
        exact fo
      · have : fr2.length ≠ 0 := fun z => hne (List.eq_nil_of_length_eq_zero z)
        omega
end
end Fp
set_option Elab.async false
set_option linter.all false
set_option maxRecDepth 100000
set_option maxHeartbeats 8000000
set_option autoImplicit false
/-! two_piles. -/
namespace Fp
open PySem L2 Sho NdefX Shg Sh1 Gq Ck
/-- a list made from all pairs, where the making changes nothing -/
theorem cross_map {C : Addr} {T : List (Addr × Str)} {p : Addr} {xs : List Stay} {H : Hp} {σ : L2.St} {vs : List Nat} {Q : VK} {g : TG} {te : TE} (fv : Str × Str → V) (PA : PartyAt C H p xs) (hs : Short xs) (hl : xs.length ≤ 100) (hT : LamX.Tabs T H)
    (hs' : ∀ q x H', q ∈ crossed (xs.map rw3) → LamX.ExtN H H' → PairAt H' x q → ∀ R : V → Hp → Prop, R (fv q) H' → g x (wipe σ vs) H' fun σ2 H2 => wipe σ2 vs = wipe σ vs ∧ te σ2 H2 R)
    (h : ∀ (D : Addr) (H' : Hp), Grows T H H' → H D = none → H' D = some (.lst ((crossed (xs.map rw3)).map fv)) → Q (.ref D) H') :
    ∀ D, H D = none → ∃ (L : Nat) (Ct : Gq.Ct) (En : Hp → Hp → Prop) (W : Nat → Hp → Prop), spCrossQ C T [.ref p] (upd H D (.lst [])) L Ct En ∧ (∀ m Hr x H', Ct.Yd m Hr x H' → Stays Hr H') ∧ (∀ Hr H', En Hr H' → Stays Hr H') ∧
      (∀ m H', W m H' → H' D ≠ none) ∧ W L (upd H D (.lst [])) ∧ (∀ Hr H', W 0 Hr → En Hr H' → Q (.ref D) H') ∧ ∀ m Hr x H', W (m + 1) Hr → Ct.Yd m Hr x H' → g x (wipe σ vs) H' fun σ2 H2 => wipe σ2 vs = wipe σ vs ∧ tYes σ2 H2 fun b H3 =>
        if b = true then te σ2 H3 fun y H4 => ∃ acc, H4 D = some (.lst acc) ∧ acc.length < sizeLine ∧ Ct.Cr H' (upd H4 D (.lst (acc ++ [y]))) ∧ W m (upd H4 D (.lst (acc ++ [y]))) else Ct.Cr H' H3 ∧ W m H3 := by
  intro D hD
  have G0 : Grows T H (upd H D (.lst [])) := Grows.upd hD
  have eD : upd H D (.lst []) D = some (.lst []) := upd_same
  have hM : ∀ a, a = D → ∃ o, upd H D (.lst []) a = some o ∧ Fre C o := fun a z => by subst z; exact ⟨_, upd_same, trivial⟩
  have PA0 : PartyAt C (upd H D (.lst [])) p xs := by
    obtain ⟨dx, a, ws, h1, h2, h3⟩ := PA
    exact ⟨dx, a, ws, G0.ext _ _ h1 (fun _ z => nomatch z), G0.ext _ _ h2 (fun _ z => nomatch z), Shg.pair_mono (fun _ _ ⟨t, e, ht⟩ => ⟨t, e, G0.ext _ _ ht fun _ z => nomatch z⟩) h3⟩
  have T0 := G0.tab hT
  have big : (crossed (xs.map rw3)).length ≤ 10000 := by
    have := flat_le (f := fun x : Rw => (lifted (xs.map rw3) x).map fun y => (x.nm, y.nm)) (n := 100) (fun x => by
      rw [List.length_map]
      exact Nat.le_trans (lifted_len _ x) (by rw [List.length_map]; exact hl)) (takers (xs.map rw3))
    rw [takers_length, List.length_map] at this
    exact Nat.le_trans this (Nat.mul_le_mul_right 100 hl)
  have ext0 : ∀ {H' : Hp}, Km (· = D) C T (upd H D (.lst [])) H' → LamX.ExtN H H' := fun {H'} k a o e1 n => by
    refine k.keep a o ?_ (fun z => by subst z; rw [hD] at e1; cases e1) n
    rw [upd_ne (ne_of_none e1 hD)]
    exact e1
  generalize hH0 : upd H D (.lst []) = H0 at G0 eD hM PA0 T0 ext0 ⊢
  generalize hcr : crossed (xs.map rw3) = qs at h big hs'
  refine ⟨qs.length, ⟨fun m Hr x H1 => Grows T Hr H1 ∧ ∃ q, qs[qs.length - 1 - m]? = some q ∧ PairAt H1 x q, fun H1 H2 => Km (· = D) C T H1 H2⟩, fun Hr H1 => Grows T Hr H1, fun m H' => m ≤ qs.length ∧ Km (· = D) C T H0 H' ∧ H' D = some (.lst ((qs.take (qs.length - m)).map fv)),
    ⟨p, xs, (· = D), rfl, PA0, hs, hl, T0, by rw [hcr], hM, fun m Hr x H1 q _ _ g e pa => ⟨g, q, by rw [← hcr]; exact (hcr ▸ e), pa⟩, fun _ _ k => k, fun _ _ _ g => g⟩, fun _ _ _ _ y => stays_grows y.1, fun _ _ g => stays_grows g, fun m H' w => ?_, ⟨Nat.le_refl _, Km.refl hM, by rw [Nat.sub_self]; exact eD⟩, fun Hr H' w g => ?_, fun m Hr x H' w y => ?_⟩
  · obtain ⟨_, _, e⟩ := w
    rw [e]
    exact fun z => nomatch z
  · obtain ⟨_, k, e⟩ := w
    rw [Nat.sub_zero, List.take_length] at e
    have k2 := k.then g.ext g.tab
    exact h D H' ⟨ext0 k2, fun t => k2.tab (by rw [← hH0]; exact LamX.Tabs.ext t fun b u q => by rw [upd_ne (ne_of_none q hD)]; exact q)⟩ hD (g.ext _ _ e fun _ z => nomatch z)
  · obtain ⟨lm, k, e⟩ := w
    obtain ⟨g', q, hq, pa⟩ := y
    have e' := g'.ext _ _ e fun _ z => nomatch z
    have k' := k.then g'.ext g'.tab
    have mem := List.mem_of_getElem? hq
    have hh := hs' q x H' mem (ext0 k') pa (fun y H4 => ∃ acc, H4 D = some (.lst acc) ∧ acc.length < sizeLine ∧ Km (· = D) C T H' (upd H4 D (.lst (acc ++ [y]))) ∧ m ≤ qs.length ∧ Km (· = D) C T H0 (upd H4 D (.lst (acc ++ [y]))) ∧ (upd H4 D (.lst (acc ++ [y]))) D = some (.lst ((qs.take (qs.length - m)).map fv)))
      ⟨_, e', ?_, km_upd e', by omega, k'.trans (km_upd e'), ?_⟩
    · dsimp only [tYes]
      exact hh
    · rw [List.length_map, List.length_take]
      have : 20000 < sizeLine := by decide
      omega
    · have et : qs.take (qs.length - m) = qs.take (qs.length - (m + 1)) ++ [q] := by
        rw [show qs.length - m = (qs.length - (m + 1)) + 1 from by omega, List.take_succ, show qs.length - (m + 1) = qs.length - 1 - m from by omega, hq]
        rfl
      rw [upd_same, et, List.map_append]
      rfl
abbrev NTp : List Str := ["party", "crossing", "piles", "name", "one", "other"]
section
variable {P : Program} {w : World} {K : PySem.W.Frag} {mg : Str → Option Value} {base : Heap}
def spTwo (C : Addr) (T : List (Addr × Str)) : Sp := fun vs H Q _ => ∃ (p : Addr) (xs : List Stay), vs = [.ref p] ∧ PartyAt C H p xs ∧ Short xs ∧ xs.length ≤ 100 ∧ (xs.map fun x => x.1).Nodup ∧ LamX.Tabs T H ∧
  (clash (nearOf (crossed (xs.map rw3))) (xs.map fun x => x.1) (crossed (xs.map rw3)) = true → ∀ H', Grows T H H' → Q .non H') ∧
  (clash (nearOf (crossed (xs.map rw3))) (xs.map fun x => x.1) (crossed (xs.map rw3)) = false → ∀ (D : Addr) H', Grows T H H' → NewN H D → H' D = some (.dK ((xs.map fun x => x.1).map fun n => (Sum.inr n, .int (pileAt (nearOf (crossed (xs.map rw3))) (xs.map fun x => x.1) n)))) → Q (.ref D) H')
theorem scTp : FnScope NTp ["party"] (defScope sTwoPiles) := ⟨rfl, rfl, rfl, by decide +kernel, rfl, by decide +kernel, by decide +kernel⟩
theorem ok_two {f C fX fN pN fS fF : Addr} {fd fdX fdN fdS fdF : FuncData} {T : List (Addr × Str)} (F : Fun K "two_piles" "two_piles" sTwoPiles f fd) (B : Shg.Blt mg) (PC : PartyC K mg C)
    (GS : FnOk P w K mg base CX0 10 fS fdS ["party"] (spNear C T)) (mS : mg "_crossing_names" = some (.ref fS)) (kS : PySem.W.keepIn K (.ref fS) = true) (bS : Binds K fdS ["party"] [])
    (GF : FnOk P w K mg base CX0 1 fF fdF ["crossing", "start"] spFrom) (mF : mg "_piles_from" = some (.ref fF)) (kF : PySem.W.keepIn K (.ref fF) = true) (bF : Binds K fdF ["crossing", "start"] [])
    (GN : FnOk P w K mg base CX0 1 fN fdN ["self"] (spPNames C)) (hN : PropOf K C "names" pN fN) (bN : Binds K fdN ["self"] [])
    (GX : GFnQ P w K mg base 8 fX fdX ["self"] (spCrossQ C T)) (mX : Meth K C "crossings" fX) (bX : Binds K fdX ["self"] []) :
    FnOk P w K mg base CX0 11 f fd ["party"] (spTwo C T) := by
  refine F.ok scTp (fun vs H Q E h => ?_) (fun cdv A outer s H vs Q E hr h => ?_)
  · obtain ⟨p, xs, rfl, _⟩ := h
    rfl
  obtain ⟨p, xs, rfl, PA, hs, hl, nm, hT, k1, k2⟩ := h
  have nd := scTp.nd
  refine ⟨_, pss_cons (ps_set (i := 1) nd rfl (Or.inl rfl) (pe_call GS (hr.mono (by decide)) rfl mS kS bS .nil pass0 (pa_cons (pv 0) pa_nil)))
    (pss_cons (ps_set (i := 2) nd rfl (Or.inr rfl) pe_dnewK)
    (pss_cons (ps_for PassesOwn.never rfl (pi_tup (pe_prop (pv 0) PC.cl hN GN (hr.mono (by decide)) bN .nil pass0 rfl)) (pg_name (i := 3) nd rfl (Or.inl rfl))
      (pss_one (ps_if (pt_cmp (pc_dnotin (units1 hr) (pv 3) (pv 2)) rfl) (pss_one (ps_expr (pe_bm PySem.F.plainAttrs_dict PySem.F.slot_dict_update PySem.F.type_dict_update mt_updK (pv 2) (pa_cons (pe_call GF (hr.mono (by decide)) rfl mF kF bF .nil pass0 (pa_cons (pv 1) (pa_cons (pv 3) pa_nil))) pa_nil)))) pss_nil)))
    (pss_cons (ps_if (pt_val (pe_callB (cr_any rfl) (by rfl) B.any (by decide +kernel) (pa_cons (pe_lcG (k := 8) (own := [("one", 4), ("other", 5)]) (g := gTup K 2 (gCons (gName 4) (gCons (gName 5) gNil))) (tt := tYes) (te := tOp rEq (tDGet (tVar 2) (tVar 4)) (tDGet (tVar 2) (tVar 5))) rfl nd (hr.mono (by decide)) (Gq.pgq_meth0 (pv 0) PC.cl mX GX (hr.mono (by decide)) bX .nil) (blkOk_by (own := [("one", 4), ("other", 5)]) (N := NTp) (sc := defScope sTwoPiles) (by decide +kernel)) (by decide +kernel)
        (fun _ _ _ _ _ => pg_tup rfl (pgs_cons (pg_name (i := 4) nd rfl (Or.inl rfl)) (pgs_cons (pg_name (i := 5) nd rfl (Or.inl rfl)) pgs_nil))) (fun _ _ _ _ _ => pts_nil) (fun _ _ _ _ _ => pe_cmpR op_eq (pe_dget (units1 hr) (pv 2) (pv 4) (fun _ _ => rfl)) (pe_dget (units1 hr) (pv 2) (pv 5) (fun _ _ => rfl)) (nomark _))) pa_nil))) (pss_one (ps_ret pe_non)) pss_nil)
    (pss_one (ps_ret (pe_dc (own := [("name", 3)]) (g := gName 3) (tt := tYes) (tk := tVar 3) (tv := tDGet (tVar 2) (tVar 3)) rfl nd (pi_tup (pe_prop (pv 0) PC.cl hN GN (hr.mono (by decide)) bN .nil pass0 rfl)) (blkOk_by (own := [("name", 3)]) (N := NTp) (sc := defScope sTwoPiles) (by decide +kernel))
        (fun _ _ _ _ _ => pg_name (i := 3) nd rfl (Or.inl rfl)) (fun _ _ _ _ _ => pts_nil) (fun _ _ _ _ _ => pv 3) (fun _ _ _ _ _ => pe_dget (units1 hr) (pv 2) (pv 3) (fun _ _ => rfl)))))))), ?_⟩
  have gl : (xs.map fun x => x.1).length ≤ 100 := by rw [List.length_map]; exact hl
  have hF : ∀ n ∈ (xs.map fun x => x.1), ∀ m ∈ nearOf (crossed (xs.map rw3)) n, m ∈ (xs.map fun x => x.1) := fun n _ m hm => by
    rw [← nm_rw]
    exact near_mem hm
  have hC : ∀ q ∈ crossed (xs.map rw3), q.1 ∈ (xs.map fun x => x.1) ∧ q.2 ∈ (xs.map fun x => x.1) := fun q hq => by
    rw [← nm_rw]
    exact crossed_mem hq
  refine asg_rel (fun v H' => ∃ (Cd : Addr) (kvs : List (Key × V)), v = .ref Cd ∧ Grows T H H' ∧ H' Cd = some (.dK kvs) ∧ NearK H' kvs (xs.map fun x => x.1) (nearOf (crossed (xs.map rw3)))) (fun R0 h0 => ⟨_, rfl, p, xs, rfl, PA, hs, hl, nm, hT, fun D kvs H' g eD nk => h0 _ _ ⟨D, kvs, rfl, g, eD, nk⟩⟩) fun vD H1 hD => ?_
  obtain ⟨Cd, kvs, rfl, g1, eC, nk⟩ := hD
  have PX : ∀ {H' : Hp}, Grows T H H' → PartyAt C H' p xs := fun {H'} g => by
    obtain ⟨dx, b, zs, h1, h2, h3⟩ := PA
    exact ⟨dx, b, zs, g.ext _ _ h1 (fun _ z => nomatch z), g.ext _ _ h2 (fun _ z => nomatch z), Shg.pair_mono (fun _ _ ⟨t, q, ht⟩ => ⟨t, q, g.ext _ _ ht fun _ z => nomatch z⟩) h3⟩
  have l5 : 30000 < sizeLine := by decide
  generalize hgs : (xs.map fun x => x.1) = gs at *
  generalize hff : nearOf (crossed (xs.map rw3)) = ff at *
  refine name_at (fun D nD => name_at (nx_of ?_))
  have s2 : Same H1 (upd H1 D (.dK [])) := Shg.same_upd nD
  have e2 : upd H1 D (.dK []) D = some (.dK (enc [])) := upd_same
  generalize upd H1 D (.dK []) = H2 at s2 e2 ⊢
  have P2 := PX (g1.trans (Sh1.Grows.of s2))
  obtain ⟨dx, b, zs, h1, h2, h3⟩ := id P2
  refine ⟨_, rfl, p, dx, _, rfl, h1, p, xs, rfl, P2, Nat.le_trans hl (by decide), fun H3 t s3 nt et => ⟨t, rfl, ⟨_, SqT.of et⟩, ?_⟩⟩
  have et : H3 t = some (.tup (gs.map V.str)) := by rw [← hgs, List.map_map]; exact et
  refine for_it (walk_tup (K := K) (a := t) (xs := gs.map V.str)) (fun i σ H' => ∃ (ps : Pm) (o3 : Option V), σ = [some (.ref p), some (.ref Cd), some (.ref D), o3, none, none] ∧ Same H1 H' ∧ H' D = some (.dK (enc ps)) ∧ H' t = some (.tup (gs.map V.str)) ∧ (gs.take i).foldl (colorOne ff gs) [] = ps ∧ ps.length ≤ i * 100)
    ⟨[], none, rfl, s2.trans s3, s3 _ _ e2, et, rfl, Nat.zero_le _⟩ (fun i σ H' _ z => by obtain ⟨_, _, _, _, _, e, _⟩ := z; exact SqT.of e) ?_ ?_
  · rintro i y σ H4' H4 hi ⟨ps, o3, rfl, s4, e4, et4, ep, lp⟩ ⟨rfl, ey⟩
    rw [List.getElem?_map] at ey
    obtain ⟨n, hn, rfl⟩ := Option.map_eq_some_iff.mp ey
    have hng : n ∈ gs := List.mem_of_getElem? hn
    rw [List.length_map] at hi
    have eq' : (gs.take (i + 1)).foldl (colorOne ff gs) [] = colorOne ff gs ps n := by
      rw [List.take_succ, hn, List.foldl_append, ep]
      rfl
    have mul : (i + 1) * 100 = i * 100 + 100 := by omega
    obtain ⟨c1, c2, c3⟩ := colorOne_ok hF (ps := ps) hng
    refine name_at ?_
    refine ⟨_, rfl, _, rfl, D, _, rfl, DGet.k (k := Sum.inr n) e4, _, rfl, ?_⟩
    rw [val_enc]
    cases hlk : ps.lookup n with
    | some v =>
      refine iteF ⟨ps, _, rfl, s4, e4, et4, ?_, by omega⟩
      rw [eq']
      unfold colorOne
      rw [hlk]
      rfl
    | none =>
      have eo : colorOne ff gs ps n = updS ps (pilesFrom ff gs n) := by
        unfold colorOne
        rw [hlk]
        rfl
      rw [eo] at eq' c3
      have lf := (from_ok hF hng).1.len
      refine iteT ⟨_, rfl, .inr (.inr (.inl ⟨rfl, .inl ⟨_, e4⟩⟩)), _, rfl, _, rfl, Cd, kvs, gs, ff, n, rfl, s4 _ _ eC, Shg.pair_mono (fun kv n ⟨e1, a, e2, e3⟩ => ⟨e1, a, e2, s4 _ _ e3⟩) nk, hng, by omega, hF, fun D2 H5 s5 nD2 e5 => ?_⟩
      refine ⟨D, D2, _, _, rfl, rfl, fun z => (by rw [z, nD2] at e4; cases e4), s5 _ _ e4, e5, ?_, ?_⟩
      · rw [enc_len, enc_len]
        omega
      · rw [upd_enc]
        exact ⟨_, _, rfl, same_new (s4.trans s5) nD, upd_same, by rw [upd_ne fun z => by rw [z, e4] at et4; cases et4]; exact s5 _ _ et4, eq', by omega⟩
  · rintro σ H4 ⟨ps, o3, rfl, s4, e4, _, ep, lp⟩
    rw [List.length_map, List.take_length, ← color_eq] at ep
    subst ep
    have g4 : Grows T H H4 := g1.trans (Sh1.Grows.of s4)
    have P4 := PX g4
    obtain ⟨dx4, b4, zs4, q1, q2, q3⟩ := id P4
    have lk : ∀ n ∈ gs, (color ff gs).lookup n = some (pileAt ff gs n) := fun n hn => by
      have := color_some hF gs [] (fun _ h => h) n (.inl hn)
      rw [← color_eq] at this
      unfold pileAt
      cases e : (color ff gs).lookup n with
      | none => rw [e] at this; cases this
      | some v => rfl
    refine ⟨_, rfl, p, dx4, _, rfl, q1, no_attr (by decide +kernel), rfl, fun b5 nb5 => ?_⟩
    have step : ∀ (q : Str × Str) (x : V) (H' : Hp), q ∈ crossed (xs.map rw3) → LamX.ExtN H4 H' → PairAt H' x q → ∀ R : V → Hp → Prop, R (.bl (decide (pileAt ff gs q.1 = pileAt ff gs q.2))) H' → gTup K 2 (gCons (gName 4) (gCons (gName 5) gNil)) x (wipe [some (.ref p), some (.ref Cd), some (.ref D), o3, none, none] [4, 5]) H' fun σ2 H2 => wipe σ2 [4, 5] = wipe [some (.ref p), some (.ref Cd), some (.ref D), o3, none, none] [4, 5] ∧ tOp rEq (tDGet (tVar 2) (tVar 4)) (tDGet (tVar 2) (tVar 5)) σ2 H2 R := by
      intro q x H5 hq e5 pa R hR
      obtain ⟨t5, rfl, ht5⟩ := pa
      refine ⟨t5, _, rfl, SqT.of ht5, rfl, _, _, rfl, _, _, rfl, rfl, rfl, ?_⟩
      refine ⟨_, rfl, _, rfl, D, .int (pileAt ff gs q.1), rfl, ?_, _, rfl, _, rfl, D, .int (pileAt ff gs q.2), rfl, ?_, ?_⟩
      · rw [show some (V.int (pileAt ff gs q.1)) = valV (enc (color ff gs)) (Sum.inr q.1) from by rw [val_enc, lk _ (hC q hq).1]; rfl]
        exact DGet.k (k := Sum.inr q.1) (e5 _ _ e4 fun _ z => nomatch z)
      · rw [show some (V.int (pileAt ff gs q.2)) = valV (enc (color ff gs)) (Sum.inr q.2) from by rw [val_enc, lk _ (hC q hq).2]; rfl]
        exact DGet.k (k := Sum.inr q.2) (e5 _ _ e4 fun _ z => nomatch z)
      · refine ⟨rfl, ?_⟩
        rw [show decide (V.int (pileAt ff gs q.1) = V.int (pileAt ff gs q.2)) = decide (pileAt ff gs q.1 = pileAt ff gs q.2) from decide_eq_decide.mpr ⟨V.int.inj, fun z => congrArg _ z⟩]
        exact hR
    obtain ⟨cL, cC, cE, cW, c1, c2, c3, c4, c5, c6, c7⟩ := cross_map (g := gTup K 2 (gCons (gName 4) (gCons (gName 5) gNil))) (te := tOp rEq (tDGet (tVar 2) (tVar 4)) (tDGet (tVar 2) (tVar 5))) (vs := [4, 5]) (σ := [some (.ref p), some (.ref Cd), some (.ref D), o3, none, none])
      (Q := fun x H' => ∃ b', x = .ref b' ∧ Grows T H4 H' ∧ H' b' = some (.lst ((crossed (xs.map rw3)).map fun q => .bl (decide (pileAt ff gs q.1 = pileAt ff gs q.2))))) (fun q => .bl (decide (pileAt ff gs q.1 = pileAt ff gs q.2))) P4 hs hl (g4.tab hT) step (fun D5 H5 g5 nD5 e5 => ⟨D5, rfl, g5, e5⟩) b5 nb5
    refine ⟨cL, cC, cE, cW, c1, c2, c3, c4, c5, fun Hr H8 w8 e8 => ?_, c7⟩
    obtain ⟨b', ebb, g8, eb⟩ := c6 _ _ w8 e8
    obtain rfl : b5 = b' := V.ref.inj ebb
    refine ⟨b5, (crossed (xs.map rw3)).map fun q => decide (pileAt ff gs q.1 = pileAt ff gs q.2), rfl, ?_, ?_⟩
    · rw [List.map_map]
      exact SqL.of eb
    · rw [List.any_map]
      refine ⟨_, rfl, ?_⟩
      have g9 := g4.trans g8
      rw [show (crossed (xs.map rw3)).any (id ∘ fun q => decide (pileAt ff gs q.1 = pileAt ff gs q.2)) = clash ff gs (crossed (xs.map rw3)) from rfl]
      cases hcl : clash ff gs (crossed (xs.map rw3)) with
      | true => exact iteT (k1 hcl H8 g9)
      | false =>
        have P8 := PX g9
        have eD8 := g8.ext _ _ e4 fun _ z => nomatch z
        obtain ⟨dx8, b8, zs8, r1, r2, r3⟩ := id P8
        refine iteF ⟨_, rfl, p, dx8, _, rfl, r1, p, xs, rfl, P8, Nat.le_trans hl (by decide), fun H9 t9 s9 nt9 et9 => ⟨t9, rfl, ⟨_, SqT.of et9⟩, fun D9 nD9 => ?_⟩⟩
        have et9 : H9 t9 = some (.tup (gs.map V.str)) := by rw [← hgs, List.map_map]; exact et9
        refine loop_any (walk_tup (K := K) (a := t9) (xs := gs.map V.str)) (fun i H' => Same H9 H' ∧ H' D9 = some (.dK ((gs.take i).map fun n => (Sum.inr n, .int (pileAt ff gs n))))) ⟨Shg.same_upd nD9, upd_same⟩ (fun i H' _ z => SqT.of (z.1 _ _ et9)) (fun i y HA HB hi q yy => ?_) fun HA q => ?_
        · obtain ⟨sA, eA⟩ := q
          obtain ⟨rfl, ey⟩ := yy
          rw [List.getElem?_map] at ey
          obtain ⟨n, hn, rfl⟩ := Option.map_eq_some_iff.mp ey
          have hng : n ∈ gs := List.mem_of_getElem? hn
          rw [List.length_map] at hi
          have nin : n ∉ gs.take i := fun h => by
            obtain ⟨j, hj⟩ := List.getElem?_of_mem h
            rw [List.getElem?_take] at hj
            split at hj
            · have := L2.nodup_ix nm hj hn
              omega
            · cases hj
          refine ⟨rfl, _, rfl, _, rfl, _, rfl, D, .int (pileAt ff gs n), rfl, ?_, _, .inr n, rfl, eA, ?_, same_new sA nD9, ?_⟩
          · rw [show some (V.int (pileAt ff gs n)) = valV (enc (color ff gs)) (Sum.inr n) from by rw [val_enc, lk _ hng]; rfl]
            exact DGet.k (k := Sum.inr n) (sA _ _ (s9 _ _ eD8))
          · rw [List.length_map, List.length_take]
            omega
          · rw [upd_same, putK_new _ (val_none fun kv hkv e => ?_), List.take_succ, hn, List.map_append]
            · rfl
            · obtain ⟨m, hm, rfl⟩ := List.mem_map.mp hkv
              exact nin (Sum.inr.inj e ▸ hm)
        · obtain ⟨sA, eA⟩ := q
          rw [List.length_map, List.take_length] at eA
          refine k2 hcl D9 HA (g9.trans (Sh1.Grows.of (s9.trans sA))) (fun o ho => ?_) eA
          cases o with
          | tbl ps => exact ⟨ps, rfl⟩
          | _ =>
            have := s9 _ _ (g9.ext _ _ ho fun _ z => nomatch z)
            rw [nD9] at this
            cases this
end
end Fp
set_option Elab.async false
set_option linter.all false
set_option maxRecDepth 100000
set_option maxHeartbeats 4000000
set_option autoImplicit false
/-! min(a list of lists, key=len, default=..). -/
namespace Sho
open PySem PySem.Spec PyProof.Rows L2 PySem.W
def btLen (ns : List Nat) : Nat → Nat → Bool := fun i j => decide (((ns.getD i 0 : Nat) : Int) < ((ns.getD j 0 : Nat) : Int))
def tMinLen (K : PySem.W.Frag) (t td : TE) : TE := fun σ H Q => t σ H fun x H1 => td σ H1 fun d H2 => ∃ (a : Addr) (vs : List V) (ns : List Nat), x = .ref a ∧ SqL K H2 a vs ∧ PySem.Paired (fun v n => ∃ p ys, v = .ref p ∧ H2 p = some (.lst ys) ∧ ys.length = n) vs ns ∧
  (vs = [] → Q d H2) ∧ ∀ v, 0 < vs.length → vs[argBest (btLen ns) (vs.length - 1)]? = some v → Q v H2
section
variable {X : Cx} {e e2 : Expr} {t td : TE} {p p1 k1 k2 pos : Pos}
theorem pairG {α β : Type} {R : α → β → Prop} : ∀ {as : List α} {bs : List β} {i : Nat} {a : α}, PySem.Paired R as bs → as[i]? = some a → ∃ b, bs[i]? = some b ∧ R a b
  | _, _, i, a, .nil, h => by simp at h
  | _, _, 0, a, .cons h r, e => by
    simp at e
    subst e
    exact ⟨_, rfl, h⟩
  | _, _, i + 1, a, .cons h r, e => by
    simp at e
    obtain ⟨b, e2, r2⟩ := pairG r e
    exact ⟨b, by simpa using e2, r2⟩
theorem pe_minLen {ta : L2.TA} (hc : X.calm = true) (hg : Gl X "min") (hm : X.mg "min" = none) (hgl : Gl X "len") (hml : X.mg "len" = none) (ha : PA X [e] ta) (hd : PE X e2 td)
    (he : backTo pos (starEach [e] X.env) = (false, eval e X.env) :: backTo pos (starEach [] X.env) := by rfl) (hpl : (backTo pos (starEach [e] X.env)).any (·.1) = false := by rfl)
    (hall : (backToKw pos (keywordEach [⟨some (Str.ofString "key"), .Name (Str.ofString "len") p1, k1⟩, ⟨some (Str.ofString "default"), e2, k2⟩] X.env)).all (·.1.isSome) = true := by rfl) (hnone : (backToKw pos (keywordEach [⟨some (Str.ofString "key"), .Name (Str.ofString "len") p1, k1⟩, ⟨some (Str.ofString "default"), e2, k2⟩] X.env)).any (·.1.isNone) = false := by rfl)
    (hks : (backToKw pos (keywordEach [⟨some (Str.ofString "key"), .Name (Str.ofString "len") p1, k1⟩, ⟨some (Str.ofString "default"), e2, k2⟩] X.env)).filterMap (·.1) = [Str.ofString "key", Str.ofString "default"] := by rfl) :
    PE X (.Call (.Name (Str.ofString "min") p) [e] [⟨some (Str.ofString "key"), .Name (Str.ofString "len") p1, k1⟩, ⟨some (Str.ofString "default"), e2, k2⟩] pos) (tMinLen X.K (fun σ H Q => ta σ H fun xs H1 => ∃ x, xs = [x] ∧ Q x H1) td) := by
  refine ⟨fun pins s σ H Q I h => ?_⟩
  refine wpAny_Call_Name_kw (ld_blt I hg hm (by rfl : bootBuiltins "min" = some (.builtin "min")) ?_)
  refine PyProof.Rows.callWith_kw (thn (ha.run pos pins s σ H _ I h) fun us s1 ⟨vs, H1, I1, r1, x, e1, q1⟩ => ?_) he hpl hall hnone
  subst e1
  rw [hks]
  show wpAny _ _ (evalAll ((do let v ← eval (.Name (Str.ofString "len") p1) X.env; standAt pos; pure v) :: (backToKw pos (keywordEach [⟨some (Str.ofString "default"), e2, k2⟩] X.env)).map (·.2))) _ _ s1
  refine wpAny_evalAll_cons (wpAny_bind (ld_blt I1 hgl hml (by rfl : bootBuiltins "len" = some (.builtin "len")) (wpAny_bind (wpAny_standAt (wpAny_pure ?_)))))
  show wpAny _ _ (evalAll ((do let v ← eval e2 X.env; standAt pos; pure v) :: [])) _ _ s1
  refine wpAny_evalAll_cons (wpAny_bind (thn (hd.run pins s1 σ H1 _ I1 q1) fun u s2 ⟨d, H2, I2, rd, q2⟩ => wpAny_bind (wpAny_standAt (wpAny_pure (wpAny_evalAll_nil ?_)))))
  obtain ⟨a, vs, ns, rfl, hs, pr, q0, q3⟩ := q2
  obtain ⟨its, rv, hl, lz⟩ := I2.list hs
  rw [Vals.ref1 r1]
  show wpAny _ _ (call (.builtin "min") [.ref a] [(Str.ofString "key", .builtin "len"), (Str.ofString "default", u)]) _ _ s2
  refine call_min_walkKBD (wpAny_pyIter_list hl.isList ?_)
  have hlen := rv.length
  have hlt : ∀ b o, s2.heap.get? b = some o → b < s2.heap.objs.size := fun b o e => Heap.lt_size e
  have hax : a < s2.heap.objs.size := by
    obtain ⟨o, ho, _⟩ := hl.isList
    exact hlt a o ho
  refine ⟨s2.heap.objs.size, _, _, _, _, _, _, fun s' => (∀ b o, s2.heap.get? b = some o → s'.heap.get? b = some o) ∧ s'.gens = s2.gens ∧ s'.drawn = s2.drawn ∧ s'.os = s2.os, fun i k _ => ∃ t, k = .int ((ns.getD i 0 : Nat) : Int) t, btLen ns, rfl, (Walks.list (A := X.A.in1) (I2.ok.hd hc) s2.heap.objs.size a (Nat.ne_of_lt hax) its.toArray).toS, ?_, ?_, ?_, ?_, ?_, ?_⟩
  · exact ⟨⟨_, Heap.get?_push_size _ rfl, rfl, rfl⟩, hl.isList.at fun o e => Heap.get?_push_of_some _ e⟩
  · intro b hb
    show b < (s2.heap.push _).objs.size
    rw [Heap.size_push]
    rcases List.mem_cons.mp hb with rfl | hb
    · exact Nat.lt_succ_self _
    · rw [List.mem_singleton.mp hb]
      exact Nat.lt_succ_of_lt hax
  · refine ⟨fun s3 s4 ⟨j1, j2, j3, j4⟩ m => ⟨fun b o e => m.heap b o (fun hb => ?_) (j1 b o e), m.gens.trans j2, m.drawn.trans j3, m.os.trans j4⟩, fun i k s3 s4 h _ => h, fun i v s3 o Q' E' hi hv J hst hS k => ?_, fun i j ki kj s3 Q' E' J hi hj q => ?_⟩
    · have := hlt b o e
      rcases List.mem_cons.mp hb with rfl | hb
      · have h2 : (s2.heap.push { cls := .type "list_iterator", data := .fields #[.ref a, .int 0 0] }).objs.size = s2.heap.objs.size + 1 := Heap.size_push ..
        have h3 : (s2.heap.push { cls := .type "list_iterator", data := .fields #[.ref a, .int 0 0] }).objs.size < s2.heap.objs.size := this
        omega
      · rw [List.mem_singleton.mp hb] at this
        exact Nat.lt_irrefl _ this
    · have hv' : its[i]? = some v := by simpa using hv
      obtain ⟨x, hx, rx⟩ : ∃ x, vs[i]? = some x ∧ RelV x v := by
        have hi' : i < its.length := (List.getElem?_eq_some_iff.mp hv').1
        obtain ⟨x, hx⟩ : ∃ x, vs[i]? = some x := ⟨_, List.getElem?_eq_getElem (by omega)⟩
        obtain ⟨u', hu', r'⟩ := rv.get hx
        rw [hv'] at hu'
        cases hu'
        exact ⟨x, hx, r'⟩
      obtain ⟨n, hn, p', ys, rfl, hp, rfl⟩ := pairG pr hx
      obtain rfl : v = Value.ref p' := rx
      obtain ⟨zz, its', m, r', e'⟩ := (show ObjOk X.prog X.w H2 s2.heap p' (.lst ys) from I2.hok _ _ hp)
      have hl' : s3.heap.IsList p' its'.toArray := by
        refine ⟨_, J.1 _ _ e', rfl, m, rfl⟩
      have hsz : (its'.toArray.size : Int) = ((ns.getD i 0 : Nat) : Int) := by
        rw [List.size_toArray, ← r'.length, List.getD_eq_getElem?_getD, hn]
        rfl
      have line : (sizeLine : Int) < 2 ^ 63 := by rw [sizeLine_eq]; decide
      refine Calls.call_len_list hl' ?_ ?_
      · rw [List.size_toArray, ← r'.length]
        omega
      · refine k _ _ ⟨J.1, J.2.1, J.2.2.1, J.2.2.2⟩ hst hS ⟨_, by rw [hsz]⟩ fun j k' h => h
    · obtain ⟨t1, rfl⟩ := hi
      obtain ⟨t2, rfl⟩ := hj
      exact CmpOf.ints_lt (P := fun i v => ∃ t, v = .int ((ns.getD i 0 : Nat) : Int) t) (fun i => ((ns.getD i 0 : Nat) : Int)) (fun i v h => h) i j _ _ s3 _ _ ⟨t1, rfl⟩ ⟨t2, rfl⟩ q
  · exact ⟨fun b o e => Heap.get?_push_of_some _ e, rfl, rfl, rfl⟩
  · intro h0 s3 ⟨j1, j2, j3, j4⟩
    have : vs = [] := by
      have h0 : its.toArray.size = 0 := h0
      rw [List.size_toArray] at h0
      exact List.eq_nil_of_length_eq_zero (by omega)
    have e3 : s3 = { s2 with heap := s3.heap, toks := s3.toks } := by
      cases s3
      simp_all
    rw [e3]
    exact ⟨d, H2, I2.kept j1, rd, q0 this⟩
  · intro h0 v s3 hv ⟨j1, j2, j3, j4⟩
    have h0 : 0 < its.toArray.size := h0
    rw [List.size_toArray] at h0
    have e3 : s3 = { s2 with heap := s3.heap, toks := s3.toks } := by
      cases s3
      simp_all
    rw [e3]
    have hv' : its[argBest (btLen ns) (vs.length - 1)]? = some v := by
      have : its.toArray[argBest (btLen ns) (its.toArray.size - 1)]? = some v := hv
      rw [List.size_toArray, ← hlen] at this
      simpa using this
    have hi' := (List.getElem?_eq_some_iff.mp hv').1
    obtain ⟨x, hx⟩ : ∃ x, vs[argBest (btLen ns) (vs.length - 1)]? = some x := ⟨_, List.getElem?_eq_getElem (by omega)⟩
    obtain ⟨u', hu', r'⟩ := rv.get hx
    rw [hv'] at hu'
    cases hu'
    exact ⟨x, H2, I2.kept j1, r', q3 x (by omega) hx⟩
end
end Sho
set_option Elab.async false
set_option linter.all false
set_option maxRecDepth 100000
set_option maxHeartbeats 8000000
set_option autoImplicit false
/-! odd_ring. -/
namespace Fp
open PySem L2 Sho NdefX Shg Sh1 Gq Ck
abbrev NOr : List Str := ["party", "crossing", "walks", "name", "walk"]
def OddAt (f : Str → List Str) (gs : List Str) (H0 H : Hp) (D : Addr) (v : V) (n : Str) : Prop := (oddWalk f gs n = none ∧ v = .non) ∨ ∃ w a, oddWalk f gs n = some w ∧ w.length ≤ 2000 ∧ v = .ref a ∧ a ≠ D ∧ H a = some (.lst (w.map V.str))
theorem odd_keep {f : Str → List Str} {gs : List Str} {H0 H H' : Hp} {D : Addr} (s : Same H H') : ∀ {vs : List V} {ns : List Str}, PySem.Paired (OddAt f gs H0 H D) vs ns →
    PySem.Paired (fun v w => w.length ≤ 2000 ∧ ∃ a, v = V.ref a ∧ H' a = some (.lst (w.map V.str))) (vs.filter fun v => !decide (v = V.non)) (ns.filterMap (oddWalk f gs))
  | _, _, .nil => .nil
  | _, _, .cons h t => by
    rcases h with ⟨h1, rfl⟩ | ⟨w, a, h1, h2, rfl, _, h3⟩
    · rw [List.filterMap_cons_none h1, List.filter_cons_of_neg (by simp)]
      exact odd_keep s t
    · rw [List.filterMap_cons_some h1, List.filter_cons_of_pos (by simp)]
      exact .cons ⟨h2, a, rfl, s _ _ h3⟩ (odd_keep s t)
theorem pair_mapR {α β γ : Type} {R : α → β → Prop} {S : α → γ → Prop} {f : β → γ} (k : ∀ a b, R a b → S a (f b)) : ∀ {as : List α} {bs : List β}, PySem.Paired R as bs → PySem.Paired S as (bs.map f)
  | _, _, .nil => .nil
  | _, _, .cons h t => .cons (k _ _ h) (pair_mapR k t)
theorem bt_eq (ws : List (List Str)) : btLen (ws.map List.length) = fun i j => decide ((ws.getD i []).length < (ws.getD j []).length) := by
  have g : ∀ i, (ws.map List.length).getD i 0 = (ws.getD i []).length := fun i => by
    rw [List.getD_eq_getElem?_getD, List.getD_eq_getElem?_getD, List.getElem?_map]
    cases ws[i]? <;> rfl
  funext i j
  unfold btLen
  rw [g, g]
  exact decide_eq_decide.mpr Int.ofNat_lt
theorem shortest_at (w0 : List Str) (ws : List (List Str)) : shortest (w0 :: ws) = (w0 :: ws)[argBest (btLen ((w0 :: ws).map List.length)) ws.length]? := by
  rw [bt_eq]
  obtain ⟨h1, h2⟩ := PySem.W.argBest_fold (fun y a : List Str => decide (y.length < a.length)) [] w0 ws ws.length (Nat.le_refl _)
  have hlt : argBest (fun i j => decide (((w0 :: ws).getD i []).length < ((w0 :: ws).getD j []).length)) ws.length < (w0 :: ws).length := Nat.lt_succ_of_le h1
  rw [List.getElem?_eq_getElem hlt]
  rw [List.getD_eq_getElem?_getD, List.getElem?_eq_getElem hlt] at h2
  have h3 : (w0 :: ws)[argBest (fun i j => decide (((w0 :: ws).getD i []).length < ((w0 :: ws).getD j []).length)) ws.length] = (ws.take ws.length).foldl (fun a y => if decide (y.length < a.length) = true then y else a) w0 := h2
  rw [h3, List.take_length]
  unfold shortest
  simp only [decide_eq_true_eq]
section
variable {P : Program} {w : World} {K : PySem.W.Frag} {mg : Str → Option Value} {base : Heap}
def spRing (C : Addr) (T : List (Addr × Str)) : Sp := fun vs H Q _ => ∃ (p : Addr) (xs : List Stay), vs = [.ref p] ∧ PartyAt C H p xs ∧ Short xs ∧ xs.length ≤ 100 ∧ (xs.map fun x => x.1).Nodup ∧ LamX.Tabs T H ∧
  (oddRing (nearOf (crossed (xs.map rw3))) (xs.map fun x => x.1) = none → ∀ H', Grows T H H' → Q .non H') ∧
  ∀ w, oddRing (nearOf (crossed (xs.map rw3))) (xs.map fun x => x.1) = some w → w.length ≤ 2000 → ∀ (a : Addr) H', Grows T H H' → H' a = some (.lst (w.map V.str)) → Q (.ref a) H'
theorem scOr : FnScope NOr ["party"] (defScope sOddRing) := ⟨rfl, rfl, rfl, by decide +kernel, rfl, by decide +kernel, by decide +kernel⟩
theorem ok_ring {f C fN pN fS fO : Addr} {fd fdN fdS fdO : FuncData} {T : List (Addr × Str)} (F : Fun K "odd_ring" "odd_ring" sOddRing f fd) (B : Shg.Blt mg) (PC : PartyC K mg C)
    (GS : FnOk P w K mg base CX0 10 fS fdS ["party"] (spNear C T)) (mS : mg "_crossing_names" = some (.ref fS)) (kS : PySem.W.keepIn K (.ref fS) = true) (bS : Binds K fdS ["party"] [])
    (GO : FnOk P w K mg base CX0 1 fO fdO ["crossing", "start"] spOdd) (mO : mg "_odd_walk" = some (.ref fO)) (kO : PySem.W.keepIn K (.ref fO) = true) (bO : Binds K fdO ["crossing", "start"] [])
    (GN : FnOk P w K mg base CX0 1 fN fdN ["self"] (spPNames C)) (hN : PropOf K C "names" pN fN) (bN : Binds K fdN ["self"] []) :
    FnOk P w K mg base CX0 11 f fd ["party"] (spRing C T) := by
  refine F.ok scOr (fun vs H Q E h => ?_) (fun cdv A outer s H vs Q E hr h => ?_)
  · obtain ⟨p, xs, rfl, _⟩ := h
    rfl
  obtain ⟨p, xs, rfl, PA, hs, hl, nm, hT, k1, k2⟩ := h
  have nd := scOr.nd
  refine ⟨_, pss_cons (ps_set (i := 1) nd rfl (Or.inr rfl) (pe_call GS (hr.mono (by decide)) rfl mS kS bS .nil pass0 (pa_cons (pv 0) pa_nil)))
    (pss_cons (ps_setLc (i := 2) (own := [("name", 3)]) (g := gName 3) (tt := tYes) (te := tCall spOdd [] E0 (tCons (tVar 1) (tCons (tVar 3) tNil))) rfl nd rfl rfl (sw_true rfl rfl rfl (by decide +kernel)) (pi_tup (pe_prop (pv 0) PC.cl hN GN (hr.mono (by decide)) bN .nil pass0 rfl)) (blkOk_by (own := [("name", 3)]) (N := NOr) (sc := defScope sOddRing) (by decide +kernel))
        (fun _ _ _ _ _ => pg_name (i := 3) nd rfl (Or.inl rfl)) (fun _ _ _ _ _ => pts_nil) (fun _ _ _ _ _ => pe_call GO (hr.mono (by decide)) rfl mO kO bO .nil pass0 (pa_cons (pv 1) (pa_cons (pv 3) pa_nil))))
    (pss_one (ps_ret (pe_minLen rfl (by rfl) B.min (by rfl) B.len (pa_cons (pe_lc (own := [("walk", 4)]) (g := gName 4) (tt := tB (tNotN (tVar 4))) (te := tVar 4) rfl nd (pi_list (pv 2)) (blkOk_by (own := [("walk", 4)]) (N := NOr) (sc := defScope sOddRing) (by decide +kernel))
        (fun _ _ _ _ _ => pg_name (i := 4) nd rfl (Or.inl rfl)) (fun _ _ _ _ _ => pts_one (pt_cmp (pc_notN (pv 4)) rfl)) (fun _ _ _ _ _ => pv 4)) pa_nil) pe_non)))), ?_⟩
  have gl : (xs.map fun x => x.1).length ≤ 100 := by rw [List.length_map]; exact hl
  have hF : ∀ n ∈ (xs.map fun x => x.1), ∀ m ∈ nearOf (crossed (xs.map rw3)) n, m ∈ (xs.map fun x => x.1) := fun n _ m hm => by
    rw [← nm_rw]
    exact near_mem hm
  refine asg_rel (fun v H' => ∃ (Cd : Addr) (kvs : List (Key × V)), v = .ref Cd ∧ Grows T H H' ∧ H' Cd = some (.dK kvs) ∧ NearK H' kvs (xs.map fun x => x.1) (nearOf (crossed (xs.map rw3)))) (fun R0 h0 => ⟨_, rfl, p, xs, rfl, PA, hs, hl, nm, hT, fun D kvs H' g eD nk => h0 _ _ ⟨D, kvs, rfl, g, eD, nk⟩⟩) fun vD H1 hD => ?_
  obtain ⟨Cd, kvs, rfl, g1, eC, nk⟩ := hD
  have P1 : PartyAt C H1 p xs := by
    obtain ⟨dx, b, zs, h1, h2, h3⟩ := PA
    exact ⟨dx, b, zs, g1.ext _ _ h1 (fun _ z => nomatch z), g1.ext _ _ h2 (fun _ z => nomatch z), Shg.pair_mono (fun _ _ ⟨t, q, ht⟩ => ⟨t, q, g1.ext _ _ ht fun _ z => nomatch z⟩) h3⟩
  have l5 : 30000 < sizeLine := by decide
  generalize hgs : (xs.map fun x => x.1) = gs at *
  generalize hff : nearOf (crossed (xs.map rw3)) = ff at *
  obtain ⟨dx, b, zs, h1, h2, h3⟩ := id P1
  refine name_at (asg_rel (fun v H' => ∃ (D : Addr) (vs : List V), v = .ref D ∧ Same H1 H' ∧ H' D = some (.lst vs) ∧ PySem.Paired (OddAt ff gs H1 H' D) vs gs) (fun R0 h0 => ?_) fun vL H2 hL => ?_)
  · refine ⟨_, rfl, p, dx, _, rfl, h1, p, xs, rfl, P1, Nat.le_trans hl (by decide), fun H3 t s3 nt et => ⟨t, rfl, ⟨_, SqT.of et⟩, fun D nD => ?_⟩⟩
    have et : H3 t = some (.tup (gs.map V.str)) := by rw [← hgs, List.map_map]; exact et
    have nD1 := none_back s3 nD
    refine loop_any (walk_tup (K := K) (a := t) (xs := gs.map V.str)) (fun i H' => ∃ vs, Same H3 H' ∧ H' D = some (.lst vs) ∧ PySem.Paired (OddAt ff gs H1 H' D) vs (gs.take i)) ⟨[], Shg.same_upd nD, upd_same, .nil⟩ (fun i H' _ z => by obtain ⟨_, z, _⟩ := z; exact SqT.of (z _ _ et)) (fun i y HA HB hi q yy => ?_) fun HA q => ?_
    · obtain ⟨vs, sA, eA, rA⟩ := q
      obtain ⟨rfl, ey⟩ := yy
      rw [List.getElem?_map] at ey
      obtain ⟨n, hn, rfl⟩ := Option.map_eq_some_iff.mp ey
      have hng : n ∈ gs := List.mem_of_getElem? hn
      have lv := Shg.pair_len rA
      rw [List.length_take] at lv
      have fin : ∀ (v : V) (HC : Hp), Same HB HC → OddAt ff gs H1 HC D v n → ∃ acc, HC D = some (.lst acc) ∧ acc.length < sizeLine ∧ ∃ vs, Same H3 (upd HC D (.lst (acc ++ [v]))) ∧ upd HC D (.lst (acc ++ [v])) D = some (.lst vs) ∧ PySem.Paired (OddAt ff gs H1 (upd HC D (.lst (acc ++ [v]))) D) vs (gs.take (i + 1)) := fun v HC sC oC => by
        have up : ∀ {u : V} {m : Str}, OddAt ff gs H1 HC D u m → OddAt ff gs H1 (upd HC D (.lst (vs ++ [v]))) D u m := fun {u m} o => by
          rcases o with o | ⟨w, a, o1, o2, o3, o4, o5⟩
          · exact .inl o
          · exact .inr ⟨w, a, o1, o2, o3, o4, by rw [upd_ne o4]; exact o5⟩
        refine ⟨vs, sC _ _ eA, by omega, vs ++ [v], same_new (sA.trans sC) nD, upd_same, ?_⟩
        rw [List.take_succ, hn]
        refine Shg.pair_app (Shg.pair_mono (fun u m o => up ?_) rA) (.cons (up oC) .nil)
        rcases o with o | ⟨w, a, o1, o2, o3, o4, o5⟩
        · exact .inl o
        · exact .inr ⟨w, a, o1, o2, o3, o4, sC _ _ o5⟩
      refine ⟨rfl, _, rfl, _, rfl, Cd, kvs, gs, ff, n, rfl, sA _ _ (s3 _ _ eC), Shg.pair_mono (fun kv n ⟨e1, a, e2, e3⟩ => ⟨e1, a, e2, sA _ _ (s3 _ _ e3)⟩) nk, hng, by omega, hF, fun hno HC sC => fin _ HC sC (.inl ⟨hno, rfl⟩), fun w hw lw a HC sC na ea => fin _ HC sC (.inr ⟨w, a, hw, lw, rfl, fun z => (by rw [z, eA] at na; cases na), ea⟩)⟩
    · obtain ⟨vs, sA, eA, rA⟩ := q
      rw [List.length_map, List.take_length] at rA
      exact h0 _ _ ⟨D, vs, rfl, s3.trans sA, eA, rA⟩
  obtain ⟨D, vs, rfl, s2, eD, rD⟩ := hL
  refine name_at ⟨_, rfl, D, rfl, ⟨_, SqL.of eD⟩, fun D2 nD2 => ?_⟩
  refine loop_any (walk_list (K := K) (a := D) (xs := vs)) (fun i H' => Same H2 H' ∧ H' D2 = some (.lst ((vs.take i).filter fun v => !decide (v = V.non)))) ⟨Shg.same_upd nD2, upd_same⟩ (fun i H' _ z => SqL.of (z.1 _ _ eD)) (fun i y HA HB hi q yy => ?_) fun HA q => ?_
  · obtain ⟨sA, eA⟩ := q
    obtain ⟨rfl, ey⟩ := yy
    refine ⟨rfl, _, rfl, _, rfl, ?_⟩
    cases hy : decide (y = V.non) with
    | true =>
      refine iteF ⟨sA, ?_⟩
      rw [eA, List.take_succ, ey, List.filter_append]
      show _ = some (HO.lst (_ ++ List.filter _ [y]))
      rw [List.filter_cons_of_neg (by rw [hy]; exact Bool.false_ne_true)]
      simp
    | false =>
      refine iteT ⟨_, rfl, _, eA, ?_, same_new sA nD2, ?_⟩
      · have h1 := List.length_filter_le (fun v => !decide (v = V.non)) (vs.take i)
        rw [List.length_take] at h1
        have := Shg.pair_len rD
        omega
      · rw [upd_same, List.take_succ, ey, List.filter_append]
        show _ = some (HO.lst (_ ++ List.filter _ [y]))
        rw [List.filter_cons_of_pos (by rw [hy]; rfl)]
        rfl
  obtain ⟨sA, eA⟩ := q
  rw [List.take_length] at eA
  have g3 := g1.trans (Sh1.Grows.of (s2.trans sA))
  -- the walks that there are
  have key := odd_keep sA rD
  refine ⟨_, rfl, D2, vs.filter (fun v => !decide (v = V.non)), (gs.filterMap (oddWalk ff gs)).map List.length, rfl, SqL.of eA, ?_, fun hv => ?_, fun v hv hb => ?_⟩
  · exact pair_mapR (fun v w ⟨_, a, e, h⟩ => ⟨a, _, e, h, by rw [List.length_map]⟩) key
  · refine k1 ?_ HA g3
    unfold oddRing
    have := Shg.pair_len key
    rw [hv] at this
    rw [List.eq_nil_of_length_eq_zero this.symm]
    rfl
  · have lk := Shg.pair_len key
    unfold oddRing at k2
    generalize gs.filterMap (oddWalk ff gs) = ws at key k2 hb lk
    cases ws with
    | nil => rw [lk] at hv; cases hv
    | cons w0 ws =>
      obtain ⟨w, hw, lw, a, rfl, ha⟩ := Shg.pair_get key hb
      rw [lk] at hw
      refine k2 w ?_ lw a HA g3 ha
      rw [shortest_at]
      exact hw
end
end Fp
set_option Elab.async false
set_option linter.all false
set_option maxRecDepth 100000
set_option maxHeartbeats 2000000
/-! Parties without stays and of one. -/
namespace Sh1
open PySem L2 Sho NdefX
theorem ins_party {C : Addr} {H : Hp} {p : Addr} {xs : List Stay} (h : PartyAt C H p xs) : InsAt H p C := by
  obtain ⟨dx, a, ws, h1, _⟩ := h
  exact ⟨dx, _, h1⟩
theorem Valid.take {xs : List Stay} (h : Valid xs) (n : Nat) : Valid (xs.take n) :=
  ⟨Nat.le_trans (List.length_take_le' ..) h.len, h.nd.sublist (List.Sublist.map _ (List.take_sublist ..)), fun x hx => h.ok x (List.mem_of_mem_take hx)⟩
theorem Valid.one {x : Stay} (h : okStay x.1 x.2.1 x.2.2 = true) : Valid [x] :=
  ⟨by simp, by simp, fun y hy => by rw [List.mem_singleton] at hy; rw [hy]; exact h⟩
theorem Short.take {xs : List Stay} (h : Short xs) (n : Nat) : Short (xs.take n) := fun x hx => h x (List.mem_of_mem_take hx)
theorem new0 {C CI : Addr} {E : XK} {σ : L2.St} {H : Hp} {Q : VK} (h : ∀ (p : Addr) (H' : Hp), Same H H' → H p = none → PartyAt C H' p [] → Q (.ref p) H') : StX.tMakeR C (spPNew C CI) E tNil σ H Q := by
  intro x0 d0 n1 n2 n3
  exact party_new (C := C) (CI := CI) (H := H) (xs := []) (ys := []) .nil (by intro x hx; cases hx) (Nat.zero_le _) (fun _ => h) (fun i hi => nomatch hi) x0 d0 n1 n2 n3
theorem new1 {C CI : Addr} {E : XK} {σ : L2.St} {H : Hp} {Q : VK} {i : Nat} {v : V} {x : Stay} (e : σ[i]? = some (some v)) (hv : StayV H v x) (hs : Short [x]) (h : Making C CI H [x] Q E) : StX.tMakeR C (spPNew C CI) E (tCons (tVar i) tNil) σ H Q :=
  ⟨v, e, party_new (C := C) (CI := CI) (H := H) (xs := [x]) (ys := [v]) (.cons hv .nil) hs (by show 1 ≤ sizeLine; decide) h.1 h.2⟩
end Sh1
set_option Elab.async false
set_option linter.all false
set_option maxRecDepth 100000
set_option maxHeartbeats 2000000
namespace Sh1
open PySem L2 Sho NdefX
theorem asg_seq {te : TE} {g : TG} {u : TS} {D : Ends} {σ : L2.St} {H : Hp} (h : te σ H fun x H1 => g x σ H1 (u D)) : tSeq (tAsg te g) u D σ H := h
theorem asg_one {te : TE} {g : TG} {D : Ends} {σ : L2.St} {H : Hp} (h : te σ H fun x H1 => g x σ H1 D.nx) : tAsg te g D σ H := h
section
variable {P : Program} {w : World} {K : PySem.W.Frag} {mg : Str → Option Value} {base : Heap}
def spParty (K : PySem.W.Frag) (C : Addr) : Sp := fun vs H Q _ => ∃ (a : Addr) (ws : List V) (xs : List Stay), vs = [.ref a] ∧ SqL K H a ws ∧ StaysV H ws xs ∧ Short xs ∧ Valid xs ∧
  ∀ (p : Addr) (H' : Hp), Same H H' → H p = none → PartyAt C H' p xs → Q (.ref p) H'
theorem scParty : FnScope ["_law_rows_here", "_law_result", "_law_row"] ["_law_rows_here"] (defScope sLawParty) := ⟨rfl, rfl, rfl, by decide +kernel, rfl, by decide +kernel, by decide +kernel⟩
theorem ok_party {f C CI fI fA : Addr} {fd fdA : FuncData} (F : Fun K "_law_party" "_law_party" sLawParty f fd) (PC : PartyC K mg C) (M : Mk K C fI) (GI : FnR P w K mg base (L2.CX P w) 5 fI (spPNew C CI))
    (hc : PySem.W.selfFirst K C = true) (hA : PySem.W.findIn K (.ref C) "__add__" = some (some (.ref fA))) (iA : PySem.W.isFn K (.ref fA) = true)
    (GA : FnOk P w K mg base (L2.CX P w) 7 fA fdA ["self", "other"] (spPAdd C CI)) (bA : Binds K fdA ["self", "other"] []) :
    FnOk P w K mg base (L2.CX P w) 8 f fd ["_law_rows_here"] (spParty K C) := by
  refine F.okX scParty (fun vs H Q E h => ?_) (fun cdv A outer s H vs Q E hr h => ?_)
  · obtain ⟨a, ws, xs, rfl, _⟩ := h
    rfl
  · obtain ⟨a, ws, xs, rfl, ha, hxs, hsh, hv, k⟩ := h
    have nd := scParty.nd
    have pass : Passes (L2.CX P w) (cxOf (L2.CX P w) P w K mg base ["_law_rows_here", "_law_result", "_law_row"] "_law_party" (defScope sLawParty) f cdv A outer s H E) E := passes_call (takes_of rfl rfl rfl rfl) fun _ _ _ _ z => z
    refine ⟨_, pss_cons (ps_set (i := 1) nd rfl (Or.inl rfl) (pe_makeR0 M GI (hr.mono (by decide)) rfl PC.gm pass))
      (pss_cons (ps_for (passes_of rfl) rfl (pi_list (pv 0)) (pg_name (i := 2) nd rfl (Or.inl rfl))
        (pss_one (ps_set (i := 1) nd rfl (Or.inl rfl) (pe_op (op_own2 (fnr_of GA bA) hr pass hc hA iA) (pv 1) (StX.pe_makeR M GI (hr.mono (by decide)) rfl PC.gm pass (pa_cons (pv 2) pa_nil))))))
      (pss_one (ps_ret (pv 1)))), ?_⟩
    have len := pair_len hxs
    refine asg_seq (new0 fun p H1 s1 hp P1 => ?_)
    refine ⟨_, rfl, a, rfl, ⟨_, s1.seq ha⟩, for_it walk_list (fun i σ H2 => ∃ q o2, σ = [some (.ref a), some (.ref q), o2] ∧ Same H H2 ∧ H q = none ∧ PartyAt C H2 q (xs.take i))
      ⟨p, none, rfl, s1, hp, P1⟩ (fun i σ H2 _ ⟨_, _, _, s2, _⟩ => s2.seq ha) ?_ ?_⟩
    · rintro i y σ H2 H3 hi ⟨q, o2, rfl, s2, hq, P2⟩ ⟨rfl, e2⟩
      obtain ⟨x, hx, hy⟩ := pair_get hxs e2
      have hxm := List.mem_of_getElem? hx
      have take1 : xs.take (i + 1) = xs.take i ++ [x] := by rw [List.take_add_one, hx]; rfl
      refine ⟨_, rfl, new1 rfl (hy.same s2) (fun z hz => by rw [List.mem_singleton] at hz; rw [hz]; exact hsh x hxm) ⟨fun _ r H4 s4 hr4 P4 => ?_, fun i hi => ?_⟩⟩
      · refine ⟨q, r, rfl, rfl, ins_party (P2.same s4), ins_party P4, q, r, xs.take i, [x], rfl, P2.same s4, P4, hsh.take i, (fun z hz => by rw [List.mem_singleton] at hz; rw [hz]; exact hsh x hxm), ?_, ?_, ?_⟩
        · have := hv.len
          rw [List.length_take]
          simp only [List.length_cons, List.length_nil]
          omega
        · intro _ z H5 s5 hz P5
          refine ⟨_, _, rfl, (s2.trans s4).trans s5, ?_, by rw [take1]; exact P5⟩
          exact (s2.trans s4).free hz
        · intro j hj
          rw [← take1, valid_iff.mpr (hv.take _)] at hj
          cases hj
      · rw [valid_iff.mpr (Valid.one (hv.ok x hxm))] at hi
        cases hi
    · rintro σ H2 ⟨q, o2, rfl, s2, hq, P2⟩
      refine ⟨_, rfl, k q H2 s2 hq ?_⟩
      rw [len, List.take_length] at P2
      exact P2
end
end Sh1
set_option Elab.async false
set_option linter.all false
set_option maxRecDepth 100000
set_option maxHeartbeats 4000000
set_option autoImplicit false
/-! What the laws of piles keep through a turn. -/
namespace Ck
open PySem L2 Sho NdefX Shg Sh1 Gq
/-- a good name -/
def GoodN (n : Str) : Prop := n.length ≤ 1000 ∧ n.cps.all (· < 0x110000) = true
/-- a list of names -/
structure NmAt (l a : Addr) (k : Nat) (names : List Str) (H : Hp) : Prop where
  at_ : H a = some (.lst (names.map V.str))
  ne : a ≠ l
  len : names.length ≤ k
  good : ∀ n ∈ names, GoodN n
section
/-- what stands through a turn -/
structure S5 (K : PySem.W.Frag) (T : List (Addr × Str)) (C l a : Addr) (ns : List Int) (R : Addr) (ws : List V) (xs : List Stay) (p D : Addr) (kvs : List (Key × V)) (H : Hp) : Prop where
  d : Dw.St K T l a ns H
  r : H R = some (.lst ws)
  nR : R ≠ l
  s : StaysV H ws xs
  p : PartyAt C H p xs
  eD : H D = some (.dK kvs)
  nk : NearK H kvs (xs.map fun x => x.1) (nearOf (crossed (xs.map rw3)))
section
variable {K : PySem.W.Frag} {T : List (Addr × Str)} {C l a : Addr} {ns : List Int} {R : Addr} {ws : List V} {xs : List Stay} {p D : Addr} {kvs : List (Key × V)} {H H' : Hp}
theorem party_ext (e : LamX.ExtN H H') (h : PartyAt C H p xs) : PartyAt C H' p xs := by
  obtain ⟨dx, b, zs, h1, h2, h3⟩ := h
  exact ⟨dx, b, zs, e _ _ h1 (fun _ z => nomatch z), e _ _ h2 (fun _ z => nomatch z), Shg.pair_mono (fun _ _ ⟨t, q, ht⟩ => ⟨t, q, e _ _ ht fun _ z => nomatch z⟩) h3⟩
theorem S5.grows (k : S5 K T C l a ns R ws xs p D kvs H) (g : Grows T H H') : S5 K T C l a ns R ws xs p D kvs H' :=
  ⟨k.d.grows g, g.ext _ _ k.r (fun _ z => nomatch z), k.nR, Shg.pair_mono (fun _ _ ⟨t, q, ht⟩ => ⟨t, q, g.ext _ _ ht fun _ z => nomatch z⟩) k.s, party_ext g.ext k.p, g.ext _ _ k.eD (fun _ z => nomatch z),
    Shg.pair_mono (fun kv n ⟨e1, a, e2, e3⟩ => ⟨e1, a, e2, g.ext _ _ e3 fun _ z => nomatch z⟩) k.nk⟩
theorem S5.same (k : S5 K T C l a ns R ws xs p D kvs H) (s : Same H H') : S5 K T C l a ns R ws xs p D kvs H' := k.grows (Sh1.Grows.of s)
theorem S5.draw (k : S5 K T C l a ns R ws xs p D kvs H) (b : But l H H') (d : DrawSt K H' l a ns) : S5 K T C l a ns R ws xs p D kvs H' := by
  obtain ⟨zs, hl⟩ := k.d.d.at
  have nt : ∀ {c : Addr} {o : HO}, H c = some o → (∀ ys, o ≠ .lst ys) → H' c = some o := fun {c o} e n => b _ _ e fun z => by
    rw [z, hl] at e
    cases e
    exact n _ rfl
  refine ⟨k.d.draw b d, b _ _ k.r k.nR, k.nR, Shg.pair_mono (fun _ _ ⟨t, q, ht⟩ => ⟨t, q, nt ht fun _ z => nomatch z⟩) k.s, ?_, nt k.eD (fun _ z => nomatch z), Shg.pair_mono (fun kv n ⟨e1, a, e2, e3⟩ => ⟨e1, a, e2, b _ _ e3 fun z => ?_⟩) k.nk⟩
  · obtain ⟨dx, c, us, h1, h2, h3⟩ := k.p
    exact ⟨dx, c, us, nt h1 (fun _ z => nomatch z), nt h2 (fun _ z => nomatch z), Shg.pair_mono (fun _ _ ⟨t, q, ht⟩ => ⟨t, q, nt ht fun _ z => nomatch z⟩) h3⟩
  · rw [z, hl] at e3
    generalize nearOf (crossed (xs.map rw3)) n = ys at e3
    cases ys <;> cases e3
theorem NmAt.draw {k : Nat} {names : List Str} {b : Addr} (h : NmAt l b k names H) (s : But l H H') : NmAt l b k names H' := ⟨s _ _ h.at_ h.ne, h.ne, h.len, h.good⟩
theorem NmAt.grows {k : Nat} {names : List Str} {b : Addr} (h : NmAt l b k names H) (g : Grows T H H') : NmAt l b k names H' := ⟨g.ext _ _ h.at_ (fun _ z => nomatch z), h.ne, h.len, h.good⟩
theorem NmAt.same {k : Nat} {names : List Str} {b : Addr} (h : NmAt l b k names H) (g : Same H H') : NmAt l b k names H' := ⟨g _ _ h.at_, h.ne, h.len, h.good⟩
end
theorem dp_stay {K : PySem.W.Frag} {H : Hp} {ws : List V} {xs : List Stay} (h : StaysV H ws xs) : DpAll K H ws (xs.map fun x => .tuple [.str x.1, .int x.2.1, .int x.2.2]) :=
  Shp.dp_of (fun v x ⟨t, e, ht⟩ => by subst e; exact .tup (SqT.of ht) (.cons (.str _) (.cons (.int _) (.cons (.int _) .nil)))) h
theorem stay_plain {xs : List Stay} (hs : Short xs) : Shp.PlainD 2 (.list (xs.map fun x => .tuple [.str x.1, .int x.2.1, .int x.2.2])) := Shp.plain_lst fun d hd => by
  obtain ⟨x, hx, rfl⟩ := List.mem_map.mp hd
  refine Shp.plain_tup fun e he => ?_
  simp only [List.mem_cons, List.not_mem_nil, or_false] at he
  rcases he with rfl | rfl | rfl
  · exact Shp.plain_str (hs x hx).2 0
  · exact Shp.plain_int _ 0
  · exact Shp.plain_int _ 0
theorem cut_drop (ws : List V) (k : Nat) : cutV ws (some (k : Int)) none = ws.drop k := by
  unfold cutV
  rw [HT.sIx_none, HT.sIx_nat]
  by_cases h : k ≤ ws.length
  · rw [Nat.min_eq_left h, List.take_of_length_le (by rw [List.length_drop]; exact Nat.le_refl _)]
  · rw [Nat.min_eq_right (by omega), Nat.sub_self, List.take_zero, List.drop_of_length_le (by omega)]
end
end Ck
set_option Elab.async false
set_option linter.all false
set_option maxRecDepth 100000
set_option maxHeartbeats 2000000
set_option autoImplicit false
/-! A comprehension whose test never holds. -/
namespace Shg
open PySem L2
theorem lc_never {J : It} {n : Nat} {G : Hp → Prop} {Y : Nat → Hp → V → Hp → Prop} (w : Walk J n G Y) {g : TG} {tt : TT} {te : TE} {vs : List Nat} {σ : L2.St} {H1 : Hp} {D : Addr} {Qd : Hp → Prop} (hD : H1 D = none)
    (hG : ∀ H, Same H1 H → G H)
    (hs : ∀ i x H H', i < n → Same H1 H → Y i H x H' → ∀ R : L2.St → Bool → Hp → Prop, (∀ σ2 H4, Same H H4 → R σ2 false H4) →
      g x (wipe σ vs) H' fun σ2 H2 => wipe σ2 vs = wipe σ vs ∧ tt σ2 H2 (R σ2))
    (hd : ∀ H, Same H1 H → H D = some (.lst []) → Qd H) :
    ∃ W : Nat → Nat → Hp → Prop, (∃ m, W 0 m (upd H1 D (.lst []))) ∧ ∀ i m H, W i m H →
      (J.stop i H ∧ Qd H) ∨ (J.go i H ∧ ∃ Nx : Hp → Prop, (∀ H', Nx H' → ∃ m', m' < m ∧ W (i + 1) m' H') ∧ ∀ x H', J.yld i H x H' → g x (wipe σ vs) H' fun σ2 H2 => wipe σ2 vs = wipe σ vs ∧ tt σ2 H2 fun b H3 =>
        if b = true then te σ2 H3 fun y H4 => ∃ acc, H4 D = some (.lst acc) ∧ acc.length < sizeLine ∧ Nx (upd H4 D (.lst (acc ++ [y]))) else Nx H3) := by
  have s0 : Same H1 (upd H1 D (.lst [])) := fun b u e => by rw [upd_ne (ne_of_none e hD)]; exact e
  refine loop_any w (fun i H => Same H1 H ∧ H D = some (.lst [])) ⟨s0, upd_same⟩ (fun i H _ z => hG H z.1) (fun i x H H' hi z y => ?_) fun H z => hd H z.1 z.2
  refine hs i x H H' hi z.1 y (fun σ2 b H3 => if b = true then te σ2 H3 fun y H4 => ∃ acc, H4 D = some (.lst acc) ∧ acc.length < sizeLine ∧ Same H1 (upd H4 D (.lst (acc ++ [y]))) ∧ (upd H4 D (.lst (acc ++ [y]))) D = some (.lst []) else Same H1 H3 ∧ H3 D = some (.lst [])) fun σ2 H4 s4 => ?_
  rw [if_neg Bool.false_ne_true]
  exact ⟨z.1.trans s4, s4 _ _ z.2⟩
end Shg
set_option Elab.async false
set_option linter.all false
set_option maxRecDepth 100000
set_option maxHeartbeats 8000000
set_option autoImplicit false
/-! The law of two piles or an odd ring. -/
namespace Fp
open PySem L2 Sho NdefX Shg Sh1 Gq Ck
open Kb (rows_ok)
abbrev N04 : List Str := ["_law_script", "_law_state", "_law_turn", "_law_rows_here", "_law_party_here", "_law_near", "_law_names", "_law_piles", "_law_ring", "_law_least", "_law_first", "_law_name", "_law_other", "_law_k", "_law_row"]
section
variable {P : Program} {w : World} {K : PySem.W.Frag} {mg : Str → Option Value} {base : Heap}
def spLaw04 (K : PySem.W.Frag) (T : List (Addr × Str)) : Sp := fun vs H Q _ => ∃ (a : Addr) (ns : List Int), vs = [.ref a] ∧ SqL K H a (ns.map V.int) ∧ ns.length ≤ 63 ∧ LamX.Tabs T H ∧ ∀ H', Q (.bl true) H'
theorem scLaw04 : FnScope N04 ["_law_script"] (defScope sLaw) := ⟨rfl, rfl, rfl, by decide +kernel, rfl, by decide +kernel, by decide +kernel⟩
/-- the defs that the law calls -/
structure Defs04 (P : Program) (w : World) (K : PySem.W.Frag) (mg : Str → Option Value) (base : Heap) (T : List (Addr × Str)) (C CR : Addr) : Prop where
  B : Shg.Blt mg
  start : ∃ f fd, FnOk P w K mg base CX0 1 f fd ["_law_script"] (spStart K) ∧ mg "_law_start" = some (.ref f) ∧ PySem.W.keepIn K (.ref f) = true ∧ Binds K fd ["_law_script"] []
  drawn : ∃ f fd, FnOk P w K mg base CX0 1 f fd ["_law_state", "_law_count"] (spDrawn K) ∧ mg "_law_drawn" = some (.ref f) ∧ PySem.W.keepIn K (.ref f) = true ∧ Binds K fd ["_law_state", "_law_count"] []
  rows : ∃ f fd, FnOk P w K mg base CX0 2 f fd ["_law_state", "_law_most", "_law_high"] (spRows K) ∧ mg "_law_rows" = some (.ref f) ∧ PySem.W.keepIn K (.ref f) = true ∧ Binds K fd ["_law_state", "_law_most", "_law_high"] []
  party : ∃ f fd, FnOk P w K mg base (L2.CX P w) 8 f fd ["_law_rows_here"] (spParty K C) ∧ mg "_law_party" = some (.ref f) ∧ PySem.W.keepIn K (.ref f) = true ∧ Binds K fd ["_law_rows_here"] []
  near : ∃ f fd, FnOk P w K mg base CX0 2 f fd ["_law_rows_here"] (spLawNear K) ∧ mg "_law_cross" = some (.ref f) ∧ PySem.W.keepIn K (.ref f) = true ∧ Binds K fd ["_law_rows_here"] []
  two : ∃ f fd, FnOk P w K mg base CX0 11 f fd ["party"] (spTwo C T) ∧ mg "two_piles" = some (.ref f) ∧ PySem.W.keepIn K (.ref f) = true ∧ Binds K fd ["party"] []
  ring : ∃ f fd, FnOk P w K mg base CX0 11 f fd ["party"] (spRing C T) ∧ mg "odd_ring" = some (.ref f) ∧ PySem.W.keepIn K (.ref f) = true ∧ Binds K fd ["party"] []
  least : ∃ f fd, FnOk P w K mg base CX0 1 f fd ["_law_near", "_law_names"] (spLeast K) ∧ mg "_law_least_odd" = some (.ref f) ∧ PySem.W.keepIn K (.ref f) = true ∧ Binds K fd ["_law_near", "_law_names"] []
  parts : ∃ f fd, FnOk P w K mg base CX0 1 f fd ["_law_near", "_law_names"] (spParts K) ∧ mg "_law_parts" = some (.ref f) ∧ PySem.W.keepIn K (.ref f) = true ∧ Binds K fd ["_law_near", "_law_names"] []
  judge : ∃ f fd, FnOk P w K mg base (L2.CX P w) 11 f fd ["party", "names"] (spJudge K C CR T) ∧ mg "judge_ring" = some (.ref f) ∧ PySem.W.keepIn K (.ref f) = true ∧ Binds K fd ["party", "names"] []
def PilesV (rs : List Rw) (gs : List Str) (v : V) (H : Hp) : Prop := (clash (nearOf (crossed rs)) gs (crossed rs) = true ∧ v = .non) ∨ (clash (nearOf (crossed rs)) gs (crossed rs) = false ∧ ∃ D2, v = .ref D2 ∧ H D2 = some (.dK (gs.map fun n => (Sum.inr n, .int (pileAt (nearOf (crossed rs)) gs n)))))
def RingV (rs : List Rw) (gs : List Str) (v : V) (H : Hp) : Prop := (oddRing (nearOf (crossed rs)) gs = none ∧ v = .non) ∨ ∃ w a, oddRing (nearOf (crossed rs)) gs = some w ∧ v = .ref a ∧ H a = some (.lst (w.map V.str))
theorem PilesV.grows {T : List (Addr × Str)} {rs : List Rw} {gs : List Str} {v : V} {H H' : Hp} (h : PilesV rs gs v H) (g : Grows T H H') : PilesV rs gs v H' := by
  rcases h with h | ⟨h, D2, e, h2⟩
  · exact .inl h
  · exact .inr ⟨h, D2, e, g.ext _ _ h2 fun _ z => nomatch z⟩
theorem RingV.grows {T : List (Addr × Str)} {rs : List Rw} {gs : List Str} {v : V} {H H' : Hp} (h : RingV rs gs v H) (g : Grows T H H') : RingV rs gs v H' := by
  rcases h with h | ⟨w, a, h, e, h2⟩
  · exact .inl h
  · exact .inr ⟨w, a, h, e, g.ext _ _ h2 fun _ z => nomatch z⟩
theorem pile_val {f : Str → Int} {gs : List Str} {n : Str} (h : n ∈ gs) : valV (gs.map fun n => ((Sum.inr n : Key), V.int (f n))) (Sum.inr n) = some (.int (f n)) := by
  induction gs with
  | nil => cases h
  | cons m gs ih =>
    rw [List.map_cons]
    by_cases e : m = n
    · subst e
      rw [valV_pos rfl]
    · rw [valV_neg fun z => e (Sum.inr.inj z)]
      exact ih ((List.mem_cons.mp h).resolve_left fun z => e z.symm)
theorem or_no {A B : TT} {σ : L2.St} {H : Hp} {Q : Bool → Hp → Prop} (P1 P2 : Hp → Prop) (hA : ∀ R : Bool → Hp → Prop, (∀ H', P1 H' → R false H') → A σ H R) (hB : ∀ H1, P1 H1 → ∀ R : Bool → Hp → Prop, (∀ H', P2 H' → R false H') → B σ H1 R) (hQ : ∀ H', P2 H' → Q false H') : tOr A B σ H Q := by
  refine hA _ fun H1 p1 => ?_
  exact hB H1 p1 _ hQ
theorem ok_law04 {f C CR : Addr} {fd : FuncData} {T : List (Addr × Str)} (F : Fun K "law" "law" sLaw f fd) (D : Defs04 P w K mg base T C CR) :
    FnOk P w K mg base (L2.CX P w) 13 f fd ["_law_script"] (spLaw04 K T) := by
  obtain ⟨B, ⟨f1, fd1, G1, m1, k1, b1⟩, ⟨f2, fd2, G2, m2, k2, b2⟩, ⟨f3, fd3, G3, m3, k3, b3⟩, ⟨fP, fdP, GP, mP, kP, bP⟩, ⟨fN, fdN, GN, mN, kN, bN⟩, ⟨fT, fdT, GT, mT, kT, bT⟩, ⟨fO, fdO, GO, mO, kO, bO⟩, ⟨fL, fdL, GL, mL, kL, bL⟩, ⟨fQ, fdQ, GQ, mQ, kQ, bQ⟩, ⟨fJ, fdJ, GJ, mJ, kJ, bJ⟩⟩ := D
  refine F.okX scLaw04 (fun vs H Q E h => ?_) (fun cdv A outer s H vs Q E hr h => ?_)
  · obtain ⟨a, ns, rfl, _⟩ := h
    rfl
  obtain ⟨a, ns, rfl, ha, hl, hT, kk⟩ := h
  have nd := scLaw04.nd
  have pass : Passes (L2.CX P w) (cxOf (L2.CX P w) P w K mg base N04 "law" (defScope sLaw) f cdv A outer s H E) E := passes_call (takes_of rfl rfl rfl rfl) fun _ _ _ _ z => z
  refine ⟨_, (pss_cons (ps_set (i := 1) nd rfl (Or.inl rfl) (pe_call G1 (hr.mono (by decide)) rfl m1 k1 b1 .nil pass0 (pa_cons (pv 0) pa_nil)))
      (pss_cons (ps_for (passes_of rfl) rfl (pi_range1 (by rfl) B.range (pa_cons pe_int pa_nil)) (pg_name (i := 2) nd rfl (Or.inl rfl)) (pss_cons (ps_set (i := 3) nd rfl (Or.inl rfl) (pe_call G3 (hr.mono (by decide)) rfl m3 k3 b3 .nil pass0 (pa_cons (pv 1) (pa_cons (pe_ix ix_list (pe_lst (pa_cons pe_int (pa_cons pe_int pa_nil))) (pe_call G2 (hr.mono (by decide)) rfl m2 k2 b2 .nil pass0 (pa_cons (pv 1) (pa_cons pe_int pa_nil))) (fun _ _ => rfl)) (pa_cons (pe_ix ix_list (pe_lst (pa_cons pe_int (pa_cons pe_int (pa_cons pe_int pa_nil)))) (pe_call G2 (hr.mono (by decide)) rfl m2 k2 b2 .nil pass0 (pa_cons (pv 1) (pa_cons pe_int pa_nil))) (fun _ _ => rfl)) pa_nil)))))
      (pss_cons (ps_asg (pe_tup (pa_cons (pe_call GP (hr.mono (by decide)) rfl mP kP bP .nil pass (pa_cons (pv 3) pa_nil)) (pa_cons (pe_call GN (hr.mono (by decide)) rfl mN kN bN .nil pass0 (pa_cons (pv 3) pa_nil)) (pa_cons (pe_lc (own := [("_law_row", 14)]) (g := gName 14) (tt := tYes) (te := tOp (rIxT K) (tVar 14) (tC (.int 0))) rfl nd (pi_list (pv 3)) (blkOk_by (own := [("_law_row", 14)]) (N := N04) (sc := defScope sLaw) (by decide +kernel))
        (fun _ _ _ _ _ => (pg_name (i := 14) nd rfl (Or.inl rfl))) (fun _ _ _ _ _ => pts_nil) (fun _ _ _ _ _ => (pe_ix ix_tup (pv 14) pe_int (fun _ _ => rfl)))) pa_nil)))) (pg_tup rfl (pgs_cons (pg_name (i := 4) nd rfl (Or.inl rfl)) (pgs_cons (pg_name (i := 5) nd rfl (Or.inr rfl)) (pgs_cons (pg_name (i := 6) nd rfl (Or.inl rfl)) pgs_nil)))))
      (pss_cons (ps_asg (pe_tup (pa_cons (pe_call GT (hr.mono (by decide)) rfl mT kT bT .nil pass0 (pa_cons (pv 4) pa_nil)) (pa_cons (pe_call GO (hr.mono (by decide)) rfl mO kO bO .nil pass0 (pa_cons (pv 4) pa_nil)) pa_nil))) (pg_tup rfl (pgs_cons (pg_name (i := 7) nd rfl (Or.inr rfl)) (pgs_cons (pg_name (i := 8) nd rfl (Or.inr rfl)) pgs_nil))))
      (pss_cons (ps_set (i := 9) nd rfl (Or.inl rfl) (pe_call GL (hr.mono (by decide)) rfl mL kL bL .nil pass0 (pa_cons (pv 5) (pa_cons (pv 6) pa_nil))))
      (pss_cons (ps_if (PW.pt (pw_or (pt_cmpR op_ne (pe_cmp (pc_isN (pv 7)) rfl) (pe_cmp (pc_notN (pv 9)) rfl) (nomark _)) (pw_or1 (pt_cmpR op_ne (pe_cmp (pc_isN (pv 8)) rfl) (pe_cmp (pc_isN (pv 9)) rfl) (nomark _))))) (pss_one (ps_ret pe_bl)) pss_nil)
      (pss_one (ps_if (pt_cmp (pc_notN (pv 7)) rfl) (pss_cons (ps_set (i := 10) nd rfl (Or.inr rfl) (pe_call GQ (hr.mono (by decide)) rfl mQ kQ bQ .nil pass0 (pa_cons (pv 5) (pa_cons (pv 6) pa_nil))))
      (pss_cons (ps_if (PW.pt (pw_or (pt_cmpR (op_neD hr.units) (pe_callTy (call_list_dK rfl) (by rfl) B.list (by decide +kernel) (pa_cons (pv 7) pa_nil)) (pv 6) (nomark _)) (pw_or1 (pt_cmpR (op_neD hr.units) (pe_lc (own := [("_law_name", 11)]) (g := gName 11) (tt := tTest (tOp rNe (tDGet (tVar 7) (tDGet (tVar 10) (tVar 11))) (tC (.int 0)))) (te := tVar 11) rfl nd (pi_list (pv 6)) (blkOk_by (own := [("_law_name", 11)]) (N := N04) (sc := defScope sLaw) (by decide +kernel))
        (fun _ _ _ _ _ => (pg_name (i := 11) nd rfl (Or.inl rfl))) (fun _ _ _ _ _ => pts_one (pt_cmpR op_ne (pe_dget (units1 hr) (pv 7) (pe_dget (units1 hr) (pv 10) (pv 11) (fun _ _ => rfl)) (fun _ _ => rfl)) pe_int (nomark _))) (fun _ _ _ _ _ => (pv 11))) (pe_lst pa_nil) (nomark _))))) (pss_one (ps_ret pe_bl)) pss_nil)
      (pss_cons (ps_if (pt_cmpR (op_neD hr.units) (pe_lc (own := [("_law_name", 11)]) (g := gName 11) (tt := tTest (tOp (rIn K true) (tDGet (tVar 7) (tVar 11)) (tTup (tCons (tC (.int 0)) (tCons (tC (.int 1)) tNil))))) (te := tVar 11) rfl nd (pi_list (pv 6)) (blkOk_by (own := [("_law_name", 11)]) (N := N04) (sc := defScope sLaw) (by decide +kernel))
        (fun _ _ _ _ _ => (pg_name (i := 11) nd rfl (Or.inl rfl))) (fun _ _ _ _ _ => pts_one (pt_cmpR op_notIn_seq (pe_dget (units1 hr) (pv 7) (pv 11) (fun _ _ => rfl)) (pe_tup (pa_cons pe_int (pa_cons pe_int pa_nil))) rfl)) (fun _ _ _ _ _ => (pv 11))) (pe_lst pa_nil) (nomark _)) (pss_one (ps_ret pe_bl)) pss_nil)
      (pss_one (ps_for (passes_of rfl) rfl (pi_list (pv 6)) (pg_name (i := 11) nd rfl (Or.inr rfl)) (pss_one (ps_if (pt_cmpR (op_neD hr.units) (pe_lc (own := [("_law_other", 12)]) (g := gName 12) (tt := tTest (tOp rEq (tDGet (tVar 7) (tVar 12)) (tDGet (tVar 7) (tVar 11)))) (te := tVar 12) rfl nd (pi_list (pe_dget (units1 hr) (pv 5) (pv 11) (fun _ _ => rfl))) (blkOk_by (own := [("_law_other", 12)]) (N := N04) (sc := defScope sLaw) (by decide +kernel))
        (fun _ _ _ _ _ => (pg_name (i := 12) nd rfl (Or.inl rfl))) (fun _ _ _ _ _ => pts_one (pt_cmpR op_eq (pe_dget (units1 hr) (pv 7) (pv 12) (fun _ _ => rfl)) (pe_dget (units1 hr) (pv 7) (pv 11) (fun _ _ => rfl)) (nomark _))) (fun _ _ _ _ _ => (pv 12))) (pe_lst pa_nil) (nomark _)) (pss_one (ps_ret pe_bl)) pss_nil))))))) (pss_cons (ps_if (PW.pt (pw_or (pt_cmpR op_ne (pe_callB call_len_seq (by rfl) B.len PySem.boot_len (pa_cons (pv 8) pa_nil)) (pv 9) (nomark _)) (pw_or (pt_cmpR op_ne (pe_callB call_lenSetS (by rfl) B.len PySem.boot_len (pa_cons (pe_callTy (cr_setS rfl) (by rfl) B.set (by decide +kernel) (pa_cons (pv 8) pa_nil)) pa_nil)) (pv 9) (nomark _)) (pw_or1 (pt_cmpR op_ne (pe_call GJ (hr.mono (by decide)) rfl mJ kJ bJ .nil pass (pa_cons (pv 4) (pa_cons (pv 8) pa_nil))) pe_int (nomark _)))))) (pss_one (ps_ret pe_bl)) pss_nil)
      (pss_one (ps_if (pt_cmpR (op_neD hr.units) (pe_lc (own := [("_law_k", 13)]) (g := gName 13) (tt := tTest (tOp (rIn K true) (tOp (rIxL K) (tVar 8) (tVar 13)) (tDGet (tVar 5) (tOp (rIxL K) (tVar 8) (tOp (rI0 fun i j => .int (i - j)) (tVar 13) (tC (.int 1))))))) (te := tVar 13) rfl nd (pi_range1 (by rfl) B.range (pa_cons (pv 9) pa_nil)) (blkOk_by (own := [("_law_k", 13)]) (N := N04) (sc := defScope sLaw) (by decide +kernel))
        (fun _ _ _ _ _ => (pg_name (i := 13) nd rfl (Or.inl rfl))) (fun _ _ _ _ _ => pts_one (pt_cmpR op_notIn_seq (pe_ix ix_list (pv 8) (pv 13) (fun _ _ => rfl)) (pe_dget (units1 hr) (pv 5) (pe_ix ix_list (pv 8) (pe_op op_sub (pv 13) pe_int) (fun _ _ => rfl)) (fun _ _ => rfl)) rfl)) (fun _ _ _ _ _ => (pv 13))) (pe_lst pa_nil) (nomark _)) (pss_one (ps_ret pe_bl)) pss_nil)))))))))))
      (pss_one (ps_ret pe_bl)))), ?_⟩
  refine ⟨_, rfl, a, ns, rfl, ha, hl, fun H1 l s1 hl1 D1 => ?_⟩
  refine ⟨_, rfl, by decide, by decide, for_it walk_range (fun i σ H2 => ∃ o2 o3 o4 o5 o6 o7 o8 o9 o10 o11, σ = [some (.ref a), some (.ref l), o2, o3, o4, o5, o6, o7, o8, o9, o10, o11, none, none, none] ∧ Dw.St K T l a ns H2)
    ⟨none, none, none, none, none, none, none, none, none, none, rfl, D1, LamX.Tabs.ext hT s1⟩ (fun _ _ _ _ _ => trivial) ?_ ?_⟩
  · rintro i v σ H3 H2 hi ⟨o2, o3, o4, o5, o6, o7, o8, o9, o10, o11, rfl, S2⟩ ⟨rfl, ev⟩
    -- the rows
    refine name_at (asg_rel (fun v H' => ∃ (R : Addr) (ws : List V) (xs : List Stay) (hig : Int), v = .ref R ∧ Dw.St K T l a ns H' ∧ H' R = some (.lst ws) ∧ R ≠ l ∧ StaysV H' ws xs ∧ Rows hig xs ∧ xs.length ≤ 16 ∧ hig ≤ 100) (fun R0 h0 => ?_) fun vr Hr hr2 => ?_)
    · refine ⟨_, rfl, by show 2 ≤ sizeLine; decide, fun p hp => ?_⟩
      have S5 := S2.same (Shg.same_upd (o := .lst [.int 7, .int 16]) hp)
      refine ⟨_, rfl, l, a, ns, 2, rfl, S5.d, by decide, by decide, fun r H5 r0 r1 b5 d5 => ?_⟩
      obtain ⟨z, hz, ez⟩ := Dw.at_mem (xs := [V.int 7, .int 16]) r0 r1
      have S6 := S5.draw b5 d5
      obtain ⟨mo, rfl, m0, m1⟩ : ∃ hi : Int, z = .int hi ∧ 0 < hi ∧ hi ≤ 16 := by
        simp only [List.mem_cons, List.not_mem_nil, or_false] at hz
        rcases hz with rfl | rfl
        · exact ⟨_, rfl, by decide, by decide⟩
        · exact ⟨_, rfl, by decide, by decide⟩
      refine ⟨p, _, r, _, rfl, rfl, SqL.of (b5 _ _ upd_same (S2.ne hp)), ez, ?_⟩
      refine ⟨by show 3 ≤ sizeLine; decide, fun p2 hp2 => ?_⟩
      have S7 := S6.same (Shg.same_upd (o := .lst [.int 6, .int 20, .int 60]) hp2)
      refine ⟨_, rfl, l, a, ns, 3, rfl, S7.d, by decide, by decide, fun r2 H7 q0 q1 b7 d7 => ?_⟩
      obtain ⟨z2, hz2, ez2⟩ := Dw.at_mem (xs := [V.int 6, .int 20, .int 60]) q0 q1
      have S8 := S7.draw b7 d7
      obtain ⟨hig, rfl, g0, g1⟩ : ∃ hi : Int, z2 = .int hi ∧ 0 < hi ∧ hi ≤ 60 := by
        simp only [List.mem_cons, List.not_mem_nil, or_false] at hz2
        rcases hz2 with rfl | rfl | rfl
        · exact ⟨_, rfl, by decide, by decide⟩
        · exact ⟨_, rfl, by decide, by decide⟩
        · exact ⟨_, rfl, by decide, by decide⟩
      refine ⟨p2, _, r2, _, rfl, rfl, SqL.of (b7 _ _ upd_same (S6.ne hp2)), ez2, l, a, ns, mo, hig, rfl, S8.d, by omega, by omega, g0, by omega, fun H9 R ws xs b9 d9 nR hR sv lx rw6 => ?_⟩
      exact h0 _ _ ⟨R, ws, xs, hig, rfl, S8.draw b9 d9, hR, S8.ne nR, sv, rw6, by omega, by omega⟩
    obtain ⟨R, ws, xs, hig, rfl, S7, eR, nR, sv, rws, lx, hg⟩ := hr2
    obtain ⟨vld, sht⟩ := rows_ok rws (by omega) (by omega)
    have lw := Shg.pair_len sv
    -- the party; who crosses whom; the names
    refine name_at (asg_rel (fun v H' => ∃ (t p D Nm : Addr) (kvs : List (Key × V)), v = .ref t ∧ H' t = some (.tup [.ref p, .ref D, .ref Nm]) ∧ S5 K T C l a ns R ws xs p D kvs H' ∧ H' Nm = some (.lst ((xs.map fun x => x.1).map V.str))) (fun R0 h0 => ?_) fun ve He he => ?_)
    · refine ⟨_, rfl, R, ws, xs, rfl, SqL.of eR, sv, sht, vld, fun p H8 s8 _ P8 => ?_⟩
      have sv8 : StaysV H8 ws xs := Shg.pair_mono (fun _ _ ⟨t, q, ht⟩ => ⟨t, q, s8 _ _ ht⟩) sv
      refine ⟨_, rfl, R, ws, xs, rfl, SqL.of (s8 _ _ eR), sv8, by omega, fun x hx => (rws.tm x hx).2.2.1, rws.nd, fun D kvs H9 s9 eD nk => ?_⟩
      have k9 : S5 K T C l a ns R ws xs p D kvs H9 := ⟨(S7.same s8).same s9, s9 _ _ (s8 _ _ eR), nR, Shg.pair_mono (fun _ _ ⟨t, q, ht⟩ => ⟨t, q, s9 _ _ ht⟩) sv8, P8.same s9, eD, nk⟩
      refine ⟨_, rfl, R, rfl, ⟨_, SqL.of k9.r⟩, fun D0 hD0 => ?_⟩
      refine lc_map walk_list (fun j => (xs[j]?).map fun y => V.str y.1) hD0 (by rw [lw]; exact Nat.le_trans lx (by decide)) (fun HA sA => SqL.of (sA _ _ k9.r)) (fun j v HA H' hj sA yy R' k1 => ?_) (fun j hj => ?_) fun HA sA eA => ?_
      · obtain ⟨rfl, e2⟩ := yy
        obtain ⟨x, hx, t9, rfl, ht9⟩ := Shg.pair_get k9.s e2
        refine ⟨rfl, _, rfl, t9, _, 0, .str x.1, rfl, rfl, SqT.of (sA _ _ ht9), atI_nat (j := 0) rfl, ?_⟩
        exact k1 _ _ (Same.refl _) (by rw [hx]; rfl)
      · exact ⟨_, by rw [List.getElem?_eq_getElem (by omega)]; rfl⟩
      rw [lw, gather_map xs fun y => V.str y.1] at eA
      refine ⟨by show 3 ≤ sizeLine; decide, fun t ht => ?_⟩
      have s10 := Shg.same_upd (o := .tup [.ref p, .ref D, .ref D0]) ht
      exact h0 _ _ ⟨t, p, D, D0, kvs, rfl, upd_same, (k9.same sA).same s10, by rw [List.map_map]; exact s10 _ _ eA⟩
    obtain ⟨t, p, D, Nm, kvs, rfl, et, U0, eN⟩ := he
    refine ⟨t, _, rfl, SqT.of et, rfl, _, _, rfl, _, _, rfl, _, _, rfl, rfl, ?_⟩
    clear S2 S7 eR sv et
    have hC : ∀ q ∈ crossed (xs.map rw3), q.1 ∈ (xs.map fun x => x.1) ∧ q.2 ∈ (xs.map fun x => x.1) := fun q hq => by
      rw [← nm_rw]
      exact crossed_mem hq
    have hF : ∀ n ∈ (xs.map fun x => x.1), ∀ m ∈ nearOf (crossed (xs.map rw3)) n, m ∈ (xs.map fun x => x.1) := fun n _ m hm => by
      rw [← nm_rw]
      exact near_mem hm
    have sy : ∀ n m, m ∈ nearOf (crossed (xs.map rw3)) n → n ∈ nearOf (crossed (xs.map rw3)) m := fun n m h => near_sym h
    have irr : ∀ n, n ∉ nearOf (crossed (xs.map rw3)) n := near_irr (by rw [nm_rw]; exact rws.nd)
    have okG : ∀ n ∈ (xs.map fun x => x.1), n.cps.all (· < 0x110000) = true := fun n hn => by
      obtain ⟨x, hx, rfl⟩ := List.mem_map.mp hn
      exact (sht x hx).2
    have gl : (xs.map fun x => x.1).length ≤ 16 := by rw [List.length_map]; exact lx
    have ql : (crossed (xs.map rw3)).length ≤ 256 := crossed_few (xs.map rw3) (k := 16) (by rw [List.length_map]; exact lx)
    -- two piles; a ring
    refine asg_rel (fun v H' => ∃ (t : Addr) (v1 v2 : V), v = .ref t ∧ H' t = some (.tup [v1, v2]) ∧ Grows T He H' ∧ PilesV (xs.map rw3) (xs.map fun x => x.1) v1 H' ∧ RingV (xs.map rw3) (xs.map fun x => x.1) v2 H') (fun R0 h0 => ?_) fun vb Hb hb => ?_
    · have ring : ∀ (v1 : V) (H5 : Hp), Grows T He H5 → PilesV (xs.map rw3) (xs.map fun x => x.1) v1 H5 → spRing C T [.ref p] H5 (fun v2 H6 => 2 ≤ sizeLine ∧ ∀ t, H6 t = none → R0 (.ref t) (upd H6 t (.tup [v1, v2]))) (fun _ _ _ => False) := fun v1 H5 g5 pv5 => by
        have U5 := U0.grows g5
        have fin : ∀ v2 H6, Grows T H5 H6 → RingV (xs.map rw3) (xs.map fun x => x.1) v2 H6 → 2 ≤ sizeLine ∧ ∀ t, H6 t = none → R0 (.ref t) (upd H6 t (.tup [v1, v2])) := fun v2 H6 g6 rv6 => ⟨by decide, fun t ht => by
          have gt : Grows T H6 (upd H6 t (.tup [v1, v2])) := Grows.upd ht
          exact h0 _ _ ⟨t, v1, v2, rfl, upd_same, (g5.trans g6).trans gt, (pv5.grows g6).grows gt, rv6.grows gt⟩⟩
        exact ⟨p, xs, rfl, U5.p, sht, by omega, rws.nd, U5.d.t, fun e H6 g6 => fin _ _ g6 (.inl ⟨e, rfl⟩), fun w hw _ a H6 g6 ea => fin _ _ g6 (.inr ⟨w, a, hw, rfl, ea⟩)⟩
      refine ⟨_, rfl, p, xs, rfl, U0.p, sht, by omega, rws.nd, U0.d.t, fun e H5 g5 => ⟨_, rfl, ring .non H5 g5 (.inl ⟨e, rfl⟩)⟩, fun e D2 H5 g5 _ e5 => ⟨_, rfl, ring (.ref D2) H5 g5 (.inr ⟨e, D2, rfl, e5⟩)⟩⟩
    obtain ⟨tb, v1, v2, rfl, etb, gb, pv1, rv2⟩ := hb
    refine ⟨tb, _, rfl, SqT.of etb, rfl, _, _, rfl, _, _, rfl, rfl, ?_⟩
    have U1 := U0.grows gb
    have eN1 := gb.ext _ _ eN fun _ z => nomatch z
    clear U0 eN
    -- the least odd walk
    refine asg_rel (fun v H' => ∃ o : Option Nat, v = optV o ∧ Same Hb H' ∧ BestOf (nearOf (crossed (xs.map rw3))) (xs.map fun x => x.1).length (xs.map fun x => x.1) (fun _ => (xs.map fun x => x.1).length) o) (fun R0 h0 => ⟨_, rfl, _, rfl, D, Nm, kvs, _, _, rfl, U1.eD, U1.nk, SqL.of eN1, by omega, by omega, rws.nd, hF, fun o H' s b => h0 _ _ ⟨o, rfl, s, b⟩⟩) fun vl Hl hL => ?_
    obtain ⟨o, rfl, sl, best⟩ := hL
    have U2 := U1.same sl
    have eN2 := sl _ _ eN1
    have pv2 := pv1.grows (Sh1.Grows.of (T := T) sl)
    have rv3 := rv2.grows (Sh1.Grows.of (T := T) sl)
    clear U1 eN1 pv1 rv2
    refine name_at ?_
    rcases two_or_ring hF hC best with ⟨hcl, hor, rfl, proper⟩ | ⟨hcl, w, hor, rfl, RI⟩
    · -- two piles
      obtain ⟨D2, rfl, e7⟩ : ∃ D2, v1 = .ref D2 ∧ Hl D2 = some (.dK ((xs.map fun x => x.1).map fun n => (Sum.inr n, .int (pileAt (nearOf (crossed (xs.map rw3))) (xs.map fun x => x.1) n)))) := by
        rcases pv2 with ⟨h, _⟩ | ⟨_, h⟩
        · rw [hcl] at h; cases h
        · exact h
      obtain rfl : v2 = .non := by
        rcases rv3 with ⟨_, h⟩ | ⟨_, _, h, _⟩
        · exact h
        · rw [hor] at h; cases h
      refine if_rel (fun H' => Same Hl H') (fun R0 h0 => ans_or false false (fun R h => ⟨_, rfl, _, rfl, rfl, _, rfl, ?_⟩) (fun H5 s5 _ R h => ⟨_, rfl, _, rfl, rfl, _, rfl, ?_⟩) fun H5 s5 => h0 _ s5) fun Hm sm => ?_
      · exact h _ (Same.refl _)
      · exact h _ (Same.refl _)
      have e8 := sm _ _ e7
      have eN3 := sm _ _ eN2
      have U3 := U2.same sm
      clear U2 eN2 e7 pv2 rv3
      have plN : Shp.PlainD 1 (.list ((xs.map fun x => x.1).map PyData.str)) := Shp.plain_lst fun d hd => by
        obtain ⟨z, hz, rfl⟩ := List.mem_map.mp hd
        exact Shp.plain_str (okG z hz) 0
      generalize hgs : (xs.map fun x => x.1) = gs at *
      generalize hff : nearOf (crossed (xs.map rw3)) = ff at *
      have vD : ∀ {H' : Hp} {n : Str}, Same Hm H' → n ∈ gs → DGet H' D2 (.str n) (some (.int (pileAt ff gs n))) := fun {H' n} s hn => by
        rw [← pile_val (f := pileAt ff gs) hn]
        exact DGet.k (k := Sum.inr n) (s _ _ e8)
      refine ⟨_, rfl, _, rfl, ?_⟩
      rw [show (!decide (V.ref D2 = V.non)) = true from by simp]
      refine iteT (asg_rel (fun v H' => ∃ (D3 : Addr) (ps : Sm2), v = .ref D3 ∧ Same Hm H' ∧ H' D3 = some (.dK (encS ps)) ∧ ∀ n ∈ gs, ∃ r, gv ps n = some r ∧ FirstOf ff gs n r) (fun R0 h0 => ⟨_, rfl, _, rfl, D, Nm, kvs, gs, ff, rfl, U3.eD, hgs ▸ hff ▸ U3.nk, SqL.of eN3, by omega, hgs ▸ rws.nd, okG, hF, sy, fun D3 ps H' s e h => h0 _ _ ⟨D3, ps, rfl, s, e, h⟩⟩) fun vF HF hFst => ?_)
      obtain ⟨D3, ps, rfl, sF, e3, first⟩ := hFst
      refine name_at ?_
      -- the names; the first of all
      refine if_rel (fun H' => Same Hm H') (fun R0 h0 => ans_or false false (fun R h => ?_) (fun H5 s5 _ R h => ?_) fun H5 s5 => h0 _ (sF.trans s5)) fun Hn sn => ?_
      · refine ⟨_, rfl, D2, _, rfl, sF _ _ e8, fun q nq => ?_⟩
        have sq := Shg.same_upd (o := .lst ((gs.map fun n => ((Sum.inr n : Key), V.int (pileAt ff gs n))).map fun kv => kV kv.1)) nq
        refine ⟨_, rfl, .list (gs.map PyData.str), .list (gs.map PyData.str), .lst (SqL.of upd_same) ?_, .lst (SqL.of (sq _ _ (sF _ _ eN3))) (Shp.dp_strs _), Shp.plain_shaped plN, Shp.plain_shaped plN, _, rfl, ?_⟩
        · rw [List.map_map]
          exact Shp.dp_strs _
        · rw [Shp.plain_refl plN]
          exact h _ sq
      · refine ⟨_, rfl, Nm, rfl, ⟨_, SqL.of (s5 _ _ (sF _ _ eN3))⟩, fun D0 hD0 => ?_⟩
        refine Shg.lc_never (walk_list (K := K) (a := Nm) (xs := gs.map V.str)) hD0 (fun HA sA => SqL.of (sA _ _ (s5 _ _ (sF _ _ eN3)))) (fun j y HA HB hj sA yy Rr hR => ?_) fun HA sA eA => ?_
        · obtain ⟨rfl, ey⟩ := yy
          rw [List.getElem?_map] at ey
          obtain ⟨n, hn, rfl⟩ := Option.map_eq_some_iff.mp ey
          have hng : n ∈ gs := List.mem_of_getElem? hn
          obtain ⟨r, hr, fr⟩ := first n hng
          have hrg : r ∈ gs := by
            obtain ⟨jj, hjj, _⟩ := fr
            exact List.mem_of_getElem? hjj
          refine ⟨rfl, _, rfl, _, rfl, _, rfl, D3, .str r, rfl, ?_, D2, .int (pileAt ff gs r), rfl, vD ((sF.trans s5).trans sA) hrg, rfl, _, rfl, ?_⟩
          · rw [show some (V.str r) = valV (encS ps) (Sum.inr n) from by rw [val_encS, hr]; rfl]
            exact DGet.k (k := Sum.inr n) (sA _ _ (s5 _ _ e3))
          · have e0 := pile_root hF sy fr
            rw [e0]
            exact hR _ _ (Same.refl _)
        · refine ⟨Nat.zero_le _, fun p0 hp0 => ⟨.list [], .list [], .lst (SqL.of ((Shg.same_upd hp0) _ _ eA)) .nil, .lst (SqL.of upd_same) .nil, Shp.nil_shaped, Shp.nil_shaped, _, rfl, ?_⟩⟩
          exact h _ (sA.trans (Shg.same_upd hp0))
      -- 0 or 1
      refine if_rel (fun H' => Same Hm H') (fun R0 h0 => ?_) fun Ho so => ?_
      · refine ⟨_, rfl, Nm, rfl, ⟨_, SqL.of (sn _ _ eN3)⟩, fun D0 hD0 => ?_⟩
        refine Shg.lc_never (walk_list (K := K) (a := Nm) (xs := gs.map V.str)) hD0 (fun HA sA => SqL.of (sA _ _ (sn _ _ eN3))) (fun j y HA HB hj sA yy Rr hR => ?_) fun HA sA eA => ?_
        · obtain ⟨rfl, ey⟩ := yy
          rw [List.getElem?_map] at ey
          obtain ⟨n, hn, rfl⟩ := Option.map_eq_some_iff.mp ey
          have hng : n ∈ gs := List.mem_of_getElem? hn
          refine ⟨rfl, _, rfl, _, rfl, D2, .int (pileAt ff gs n), rfl, vD (sn.trans sA) hng, by show 2 ≤ sizeLine; decide, fun t nt => ⟨t, _, rfl, .inr (SqT.of upd_same), rfl, rfl, _, rfl, ?_⟩⟩
          rw [if_pos rfl, show (!inV (V.int (pileAt ff gs n)) [V.int 0, V.int 1]) = false from by
            rcases pile_01 hF sy hng with e | e <;> rw [e] <;> decide]
          exact hR _ _ (Shg.same_upd nt)
        · refine ⟨Nat.zero_le _, fun p0 hp0 => ⟨.list [], .list [], .lst (SqL.of ((Shg.same_upd hp0) _ _ eA)) .nil, .lst (SqL.of upd_same) .nil, Shp.nil_shaped, Shp.nil_shaped, _, rfl, ?_⟩⟩
          exact h0 _ ((sn.trans sA).trans (Shg.same_upd hp0))
      -- crossing stays are parted
      refine ⟨_, rfl, Nm, rfl, ⟨_, SqL.of (so _ _ eN3)⟩, for_it (walk_list (K := K) (a := Nm) (xs := gs.map V.str)) (fun j σ H' => ∃ o11, σ = [some (.ref a), some (.ref l), some v, some (.ref R), some (.ref p), some (.ref D), some (.ref Nm), some (.ref D2), some .non, some (optV none), some (.ref D3), o11, none, none, none] ∧ Same Hm H') ⟨_, rfl, so⟩ (fun j σ H' _ z => by obtain ⟨_, _, z⟩ := z; exact SqL.of (z _ _ eN3)) ?_ ?_⟩
      · rintro j y σ H6' H6 hj ⟨o11, rfl, s6⟩ ⟨rfl, ey⟩
        rw [List.getElem?_map] at ey
        obtain ⟨n, hn, rfl⟩ := Option.map_eq_some_iff.mp ey
        have hng : n ∈ gs := List.mem_of_getElem? hn
        have nkH : NearK H6 kvs gs ff := by
          have := (U3.same s6).nk
          rw [hgs, hff] at this
          exact this
        obtain ⟨b, i1, kv1, c1, c2, c3, c4, c5⟩ := near_get nkH hng
        refine name_at (if_rel1 (fun H' => Same Hm H') (fun R0 h0 => ?_) fun Hz sz => nx_of ⟨_, rfl, sz⟩)
        refine ⟨_, rfl, _, rfl, D, .ref b, rfl, ?_, b, rfl, ⟨_, SqL.of c5⟩, fun D0 hD0 => ?_⟩
        · rw [← c4]
          exact DGet.k (k := Sum.inr n) (U3.same s6).eD
        refine Shg.lc_never (walk_list (K := K) (a := b) (xs := (ff n).map V.str)) hD0 (fun HA sA => SqL.of (sA _ _ c5)) (fun j y HA HB hj sA yy Rr hR => ?_) fun HA sA eA => ?_
        · obtain ⟨rfl, ey⟩ := yy
          rw [List.getElem?_map] at ey
          obtain ⟨m, hm, rfl⟩ := Option.map_eq_some_iff.mp ey
          have hmf := List.mem_of_getElem? hm
          refine ⟨rfl, _, rfl, _, rfl, D2, .int (pileAt ff gs m), rfl, vD (s6.trans sA) (hF n hng m hmf), _, rfl, _, rfl, D2, .int (pileAt ff gs n), rfl, vD (s6.trans sA) hng, rfl, _, rfl, ?_⟩
          rw [show decide (V.int (pileAt ff gs m) = V.int (pileAt ff gs n)) = false from decide_eq_false fun z => proper n hng m hmf (V.int.inj z).symm]
          exact hR _ _ (Same.refl _)
        · refine ⟨Nat.zero_le _, fun p0 hp0 => ⟨.list [], .list [], .lst (SqL.of ((Shg.same_upd hp0) _ _ eA)) .nil, .lst (SqL.of upd_same) .nil, Shp.nil_shaped, Shp.nil_shaped, _, rfl, ?_⟩⟩
          exact h0 _ ((s6.trans sA).trans (Shg.same_upd hp0))
      · rintro σ H6 ⟨o11, rfl, s6⟩
        exact ⟨_, _, _, _, _, _, _, _, _, _, rfl, (U3.same s6).d⟩
    · -- a ring
      obtain rfl : v1 = .non := by
        rcases pv2 with ⟨_, h⟩ | ⟨h, _⟩
        · exact h
        · rw [hcl] at h; cases h
      obtain ⟨ra, rfl, e7⟩ : ∃ ra, v2 = .ref ra ∧ Hl ra = some (.lst (w.map V.str)) := by
        rcases rv3 with ⟨h, _⟩ | ⟨w', ra, h, e, h2⟩
        · rw [hor] at h; cases h
        · rw [hor] at h
          cases h
          exact ⟨ra, e, h2⟩
      refine if_rel (fun H' => Same Hl H') (fun R0 h0 => ans_or false false (fun R h => ⟨_, rfl, _, rfl, rfl, _, rfl, ?_⟩) (fun H5 s5 _ R h => ⟨_, rfl, _, rfl, rfl, _, rfl, ?_⟩) fun H5 s5 => h0 _ s5) fun Hm sm => ?_
      · exact h _ (Same.refl _)
      · exact h _ (Same.refl _)
      have lw3 := RI.len3 irr
      have lwg := RI.len
      have nmG : ∀ n ∈ w, n.length ≤ 1000 ∧ n.cps.all (· < 0x110000) = true := fun n hn => by
        obtain ⟨x, hx, rfl⟩ := List.mem_map.mp (RI.sub n hn)
        obtain ⟨c, e, _⟩ := rws.one x hx
        exact ⟨by rw [e]; show 1 ≤ 1000; decide, (sht x hx).2⟩
      refine ⟨_, rfl, _, rfl, ?_⟩
      rw [show (!decide (V.non = V.non)) = false from by simp]
      refine iteF ?_
      have e8 := sm _ _ e7
      have U3 := U2.same sm
      refine if_rel (fun H' => Grows T Hm H') (fun R0 h0 => or_no (Same Hm) (Grows T Hm) (fun R h => ⟨_, rfl, ra, _, rfl, .inl (SqL.of e8), _, rfl, rfl, _, rfl, ?_⟩) (fun H5 s5 R h => or_no (Same Hm) (Grows T Hm) (fun R h => ⟨_, rfl, ra, w, rfl, SqL.of (s5 _ _ e8), by omega, fun sa n nsa ln => ⟨sa, _, n, w, rfl, upd_same, RI.nd, fun k => ?_, _, rfl, rfl, _, rfl, ?_⟩⟩) (fun H6 s6 R h => ?_) h) h0) fun Hn gn => ?_
      · simpa [optV] using h _ (Same.refl _)
      · rw [decide_eq_true_eq]
      · simpa [optV] using h _ (s5.trans (Shg.same_upd nsa))
      · have U5 := U3.same s6
        refine ⟨_, rfl, _, rfl, p, ra, xs, w, rfl, U5.p, sht, by omega, rws.nd, SqL.of (s6 _ _ e8), by omega, nmG, U5.d.t, fun n hj H' g => ?_, fun i hj => ?_⟩
        · rw [RI.judge irr] at hj
          cases hj
          exact ⟨rfl, _, rfl, by simpa using h _ ((Sh1.Grows.of s6).trans g)⟩
        · rw [RI.judge irr] at hj
          cases hj
      have e9 := gn.ext _ _ e8 fun _ z => nomatch z
      have U4 := U3.grows gn
      refine if_rel1 (fun H' => Same Hn H') (fun R0 h0 => ?_) fun Hz sz => ?_
      · refine ⟨_, rfl, (w.length : Nat), rfl, by omega, by omega, fun D0 hD0 => ?_⟩
        refine Shg.lc_never (walk_range (lo := 0) (n := ((w.length : Nat) : Int).toNat)) hD0 (fun HA sA => trivial) (fun j y HA HB hj sA yy Rr hR => ?_) fun HA sA eA => ?_
        · obtain ⟨rfl, ev⟩ := yy
          have ev' : y = V.int (j : Int) := ev.trans (by show V.int (0 + (j : Int)) = _; rw [Int.zero_add])
          clear ev
          subst ev'
          have hj' : j < w.length := by simpa using hj
          obtain ⟨n, hn⟩ : ∃ n, w[j]? = some n := ⟨_, List.getElem?_eq_getElem hj'⟩
          have before : ∃ m, atI (w.map V.str) ((j : Int) - 1) = some (.str m) ∧ m ∈ w ∧ n ∈ nearOf (crossed (xs.map rw3)) m := by
            cases j with
            | zero =>
              obtain ⟨m, hm⟩ : ∃ m, w[w.length - 1]? = some m := ⟨_, List.getElem?_eq_getElem (by omega)⟩
              refine ⟨m, ?_, List.mem_of_getElem? hm, RI.close hm hn⟩
              show atI (w.map V.str) (0 - 1) = _
              exact atI_m1 (by rw [List.length_map]; omega) (by rw [List.length_map, List.getElem?_map, hm]; rfl)
            | succ j =>
              obtain ⟨m, hm⟩ : ∃ m, w[j]? = some m := ⟨_, List.getElem?_eq_getElem (by omega)⟩
              refine ⟨m, ?_, List.mem_of_getElem? hm, RI.next hm hn⟩
              rw [show ((j + 1 : Nat) : Int) - 1 = (j : Int) from by omega]
              exact atI_nat (by rw [List.getElem?_map, hm]; rfl)
          obtain ⟨m, hm1, hm2, hm3⟩ := before
          obtain ⟨b, i1, kv1, c1, c2, c3, c4, c5⟩ := near_get (near_same U4.nk sA) (RI.sub m hm2)
          refine ⟨rfl, _, rfl, _, rfl, ra, _, (j : Int), .str n, rfl, rfl, SqL.of (sA _ _ e9), atI_nat (by rw [List.getElem?_map, hn]; rfl), _, rfl, _, rfl, _, rfl, _, _, rfl, rfl, ra, _, _, .str m, rfl, rfl, SqL.of (sA _ _ e9), hm1, D, .ref b, rfl, ?_, b, _, rfl, .inl (SqL.of c5), rfl, Sh1.flat_strs _, _, rfl, ?_⟩
          · rw [← c4]
            exact DGet.k (k := Sum.inr m) (sA _ _ U4.eD)
          · rw [if_pos rfl, inV_strs, show ((nearOf (crossed (xs.map rw3)) m).any fun y => y == n) = true from List.any_eq_true.mpr ⟨n, hm3, by simp⟩]
            exact hR _ _ (Same.refl _)
        · refine ⟨Nat.zero_le _, fun p0 hp0 => ⟨.list [], .list [], .lst (SqL.of ((Shg.same_upd hp0) _ _ eA)) .nil, .lst (SqL.of upd_same) .nil, Shp.nil_shaped, Shp.nil_shaped, _, rfl, ?_⟩⟩
          exact h0 _ (sA.trans (Shg.same_upd hp0))
      · exact ⟨_, _, _, _, _, _, _, _, _, _, rfl, (U4.same sz).d⟩
  · rintro σ H2 ⟨o2, o3, o4, o5, o6, o7, o8, o9, o10, o11, rfl, S2⟩
    exact kk _
end
end Fp
set_option Elab.async false
set_option linter.all false
set_option maxRecDepth 100000
set_option maxHeartbeats 4000000
/-! The head's facts of k04. -/
namespace Fp
open PySem L2 Sho NdefX He Shh Shg Sh1 Shd Gq Ck
abbrev dm (C m qual : Str) (st : Stmt) : Dn := ⟨fun K => ma K (ga K C) m, m, qual, st, fun _ => []⟩
abbrev dp (C m qual : Str) (st : Stmt) : Dn := ⟨fun K => getA K (ga K C) m, m, qual, st, fun _ => []⟩
abbrev dnE (x : Str) (qual : Str) (st : Stmt) : Dn := ⟨fun K => eInit K x, "__init__", qual, st, fun K => [(("__class__" : Str), cellA K (eInit K x))]⟩
theorem sblt {mg : Str → Option Value} (k : ∀ x, x ∈ bltNames → mg x = none) : Sh1.Blt mg := ⟨k _ (by simp), k _ (by simp), k _ (by simp), k _ (by simp), k _ (by simp), k _ (by simp), k _ (by simp), k _ (by simp), k _ (by simp), k _ (by simp), k _ (by simp)⟩
theorem ernO_ok {K : Shh.Fr} {mg : Str → Option Value} {x : Str} (gm : mg x = some (.ref (ga K x))) (c : ernB K x = true) : ErrO K mg x (ga K x) := by
  obtain ⟨c1, c⟩ := ba c
  obtain ⟨c2, c⟩ := ba c
  obtain ⟨c3, c⟩ := ba c
  obtain ⟨c4, c5⟩ := ba c
  exact ⟨c1, gm, c2, of_decide_eq_true c3, of_decide_eq_true c4, of_decide_eq_true c5⟩
theorem all_of {α : Type} (P : α → Prop) : ∀ {l : List α}, (∀ i : Nat, ∀ a, l[i]? = some a → P a) → ∀ x ∈ l, P x := fun h x hx => by
  obtain ⟨i, hi⟩ := List.getElem?_of_mem hx
  exact h i x hi
theorem errC_InvalidStay {K : Shh.Fr} {mg : Str → Option Value} {P : Program} (E : ErrF "/claim/cut.py" K "InvalidStay" "index") (D : FunF K "__init__" "InvalidStay.__init__" sInvInit [(("__class__" : Str), cellA K (eInit K "InvalidStay"))] (eInit K "InvalidStay")) (hf : P.main.file = "/claim/cut.py") (sup : mg "super" = none)
    (h2 : (P.main.scope.names.lookup ("super" : Str)).isSome = false) (gm : mg "InvalidStay" = some (.ref (ga K "InvalidStay"))) : ErrC P K mg "InvalidStay" "index" nfInv (ga K "InvalidStay") :=
  ⟨⟨_, _, _, err_txt E D hf sup ⟨_, rfl, rfl⟩ h2 (by decide +kernel) (by decide +kernel) (by decide +kernel), E.ini, E.ity⟩, E.sup, E.xf, E.no, gm, E.exm⟩
theorem errC_InvalidRing {K : Shh.Fr} {mg : Str → Option Value} {P : Program} (E : ErrF "/claim/cut.py" K "InvalidRing" "index") (D : FunF K "__init__" "InvalidRing.__init__" sRingInit [(("__class__" : Str), cellA K (eInit K "InvalidRing"))] (eInit K "InvalidRing")) (hf : P.main.file = "/claim/cut.py") (sup : mg "super" = none)
    (h2 : (P.main.scope.names.lookup ("super" : Str)).isSome = false) (gm : mg "InvalidRing" = some (.ref (ga K "InvalidRing"))) : ErrC P K mg "InvalidRing" "index" nfRing (ga K "InvalidRing") :=
  ⟨⟨_, _, _, err_txt E D hf sup ⟨_, rfl, rfl⟩ h2 (by decide +kernel) (by decide +kernel) (by decide +kernel), E.ini, E.ity⟩, E.sup, E.xf, E.no, gm, E.exm⟩
theorem funS04 {K : Shh.Fr} {x qual : Str} {st : Stmt} {f : Addr} (F : FunF K x qual st [] f) : FunS K x qual st f := by
  obtain ⟨oc, od, doc, pm, an, ct, osl, lk, hcd⟩ := F.ex
  exact ⟨oc, od, doc, pm, an, _, ct, osl, lk, hcd⟩
abbrev glo04 : List Str := "is_name" :: "is_within" :: "is_tick" :: "is_stay" :: "lifted_from" :: "_check_stays" :: "_crossing_names" :: "_piles_from" :: "two_piles" :: "_odd_walk" :: "odd_ring" :: "judge_ring" :: "_law_start" :: "_law_drawn" :: "_law_rows" :: "_law_party" :: "_law_played" :: "_law_cross" :: "_law_parts" :: "_law_least_odd" :: "InvalidStay" :: "InvalidRing" :: "Party" :: "bottom_up" :: "law" :: []
abbrev keep04 : List Str := ["is_name", "is_within", "is_tick", "is_stay", "lifted_from", "_check_stays", "_crossing_names", "_piles_from", "two_piles", "_odd_walk", "odd_ring", "judge_ring", "_law_start", "_law_drawn", "_law_rows", "_law_party", "_law_played", "_law_cross", "_law_parts", "_law_least_odd", "bottom_up", "law"]
def fn04 : List Dn := [Shd.dn "is_name" sIsName, Shd.dn "is_within" sIsWithin, Shd.dn "is_tick" sIsTick, Shd.dn "is_stay" sIsStay, Shd.dn "lifted_from" sLiftedFrom, Shd.dn "_check_stays" sCheck, Shd.dn "_crossing_names" sCrossingNames, Shd.dn "_piles_from" sPilesFrom, Shd.dn "two_piles" sTwoPiles, Shd.dn "_odd_walk" sOddWalk, Shd.dn "odd_ring" sOddRing, Shd.dn "judge_ring" sJudgeRing, Shd.dn "_law_start" sStart, Shd.dn "_law_drawn" sDrawn, Shd.dn "_law_rows" sRows, Shd.dn "_law_party" sLawParty, Shd.dn "_law_played" sLawPlayed, Shd.dn "_law_cross" sLawCross, Shd.dn "_law_parts" sLawParts, Shd.dn "_law_least_odd" sLawLeastOdd, dnE "InvalidStay" "InvalidStay.__init__" sInvInit, dnE "InvalidRing" "InvalidRing.__init__" sRingInit, dm "Party" "__init__" "Party.__init__" sPInit, dm "Party" "__add__" "Party.__add__" sPAdd, dp "Party" "names" "Party.names" sPNames, Shd.dn "bottom_up" sBottomUp, dm "Party" "crossings" "Party.crossings" sPCross, Shd.dn "law" sLaw]
def fa04 : List (Shh.Fr → Bool) := [fun K => gloB K glo04, fun K => freeB K bltNames, fun K => keepB K keep04, fun K => decide (Shd.tabA K "bottom_up" ≠ tabOf K (codeA K (ma K (ga K "Party") "crossings"))), fun K => (Fa.int "LONGEST_NAME" 8).ok K, fun K => (Fa.int "LAST_TICK" 1000000000).ok K, fun K => errB "/claim/cut.py" K "InvalidStay" "index", fun K => errB "/claim/cut.py" K "InvalidRing" "index", fun K => partyB K (ga K "Party"), fun K => dunB K (ga K "Party") "__init__", fun K => dunB K (ga K "Party") "__add__", fun K => propB K (ga K "Party") "names", fun K => PySem.W.keepIn K (.ref (getA K (ga K "Party") "names")), fun K => (Fa.meth "Party" "crossings").ok K]
def tf04 : List (Shh.Fr → Addr) := [fun K => ga K "bottom_up", fun K => ma K (ga K "Party") "crossings"]
abbrev T04 (K : Shh.Fr) : List (Addr × Str) := [(Shd.tabA K "bottom_up", qBot), (tabOf K (codeA K (ma K (ga K "Party") "crossings")), qCross)]
abbrev cs04 (K : Shh.Fr) : List (Addr × Addr) := [(codeA K (ga K "bottom_up"), Shd.tabA K "bottom_up"), (codeA K (ma K (ga K "Party") "crossings"), tabOf K (codeA K (ma K (ga K "Party") "crossings")))]
theorem facts04 {P : Program} {w : World} {K : Shh.Fr} {h : Heap} {mg : Str → Option Value} (X : K.In h) (G : h.Ns mainGlobals mg) (c : SaysS fa04 fn04 tf04 h K) (hf : P.main.file = "/claim/cut.py") (hs : (P.main.scope.names.lookup ("super" : Str)).isSome = false) :
    ∃ fd : FuncData, (∀ (s : Shared) (v : Value), BindsTo s fd ⟨[v], []⟩ [("_law_script", v)]) ∧ ∀ base : Heap, (∀ p ∈ cs04 K, LamX.TabB base mg p.1 p.2) → FnOk P w K mg base (L2.CX P w) 13 (ga K "law") fd ["_law_script"] (spLaw04 K (T04 K)) := by
  have B := Shd.blt_ok X G (c.fact 1)
  have B1 : Sh1.Blt mg := sblt fun x hx => freeB_ok X G (c.fact 1) hx
  have g : ∀ x, x ∈ glo04 → mg x = some (.ref (ga K x)) := fun x hx => gloB_ok X G (c.fact 0) hx
  have kp : ∀ x, x ∈ keep04 → PySem.W.keepIn K (.ref (ga K x)) = true := fun x hx => keepB_ok (c.fact 2) hx
  obtain ⟨tg8, g8⟩ := int_ok X G (x := "LONGEST_NAME") (i := 8) (c.fact 4)
  obtain ⟨tg9, g9⟩ := int_ok X G (x := "LAST_TICK") (i := 1000000000) (c.fact 5)
  have ECI : ErrC P K mg "InvalidStay" "index" nfInv (ga K "InvalidStay") := errC_InvalidStay (errB_ok (K := K) (file := "/claim/cut.py") (x := "InvalidStay") (fld := "index") (c.fact 6)) (c.def_ 20 (d := dnE "InvalidStay" "InvalidStay.__init__" sInvInit)) hf B.sup hs (g "InvalidStay" (by simp))
  have ECR : ErrC P K mg "InvalidRing" "index" nfRing (ga K "InvalidRing") := errC_InvalidRing (errB_ok (K := K) (file := "/claim/cut.py") (x := "InvalidRing") (fld := "index") (c.fact 7)) (c.def_ 21 (d := dnE "InvalidRing" "InvalidRing.__init__" sRingInit)) hf B.sup hs (g "InvalidRing" (by simp))
  have PF := partyB_ok (K := K) (g "Party" (by simp)) (c.fact 8)
  have dPI : DunF K (ga K "Party") "__init__" := dunB_ok (c.fact 9)
  have DPI := c.def_ 22 (d := dm "Party" "__init__" "Party.__init__" sPInit)
  have dPA : DunF K (ga K "Party") "__add__" := dunB_ok (c.fact 10)
  have DPA := c.def_ 23 (d := dm "Party" "__add__" "Party.__add__" sPAdd)
  obtain ⟨fdPA, FPA, bPA, _⟩ := FunF.funW DPA dPA.kp
  have bPA := bPA ["self", "other"] (fun _ _ _ _ _ _ us hl => match us, hl with | [_, _], _ => rfl)
  have PNM : PropOf K (ga K "Party") "names" (ma K (ga K "Party") "names") (getA K (ga K "Party") "names") := propB_ok (c.fact 11)
  have PNMk : PySem.W.keepIn K (.ref (getA K (ga K "Party") "names")) = true := c.fact 12
  obtain ⟨fdNM, FNM, bNM, _⟩ := FunF.funW (c.def_ 24 (d := dp "Party" "names" "Party.names" sPNames)) PNMk
  have bNM := bNM ["self"] (fun _ _ _ _ _ _ us hl => match us, hl with | [_], _ => rfl)
  have MX : Meth K (ga K "Party") "crossings" (ma K (ga K "Party") "crossings") := meth_ok (c.fact 13)
  obtain ⟨fd_0, F_0, b_0, _⟩ := FunF.funW (c.def_ 0 (d := Shd.dn "is_name" sIsName)) (kp "is_name" (by simp))
  have b_0 := b_0 ["word"] (fun _ _ _ _ _ _ us hl => match us, hl with | [_], _ => rfl)
  have m_0 := g "is_name" (by simp)
  have k_0 := kp "is_name" (by simp)
  obtain ⟨fd_1, F_1, b_1, _⟩ := FunF.funW (c.def_ 1 (d := Shd.dn "is_within" sIsWithin)) (kp "is_within" (by simp))
  have b_1 := b_1 ["number", "low", "high"] (fun _ _ _ _ _ _ us hl => match us, hl with | [_, _, _], _ => rfl)
  have m_1 := g "is_within" (by simp)
  have k_1 := kp "is_within" (by simp)
  obtain ⟨fd_2, F_2, b_2, _⟩ := FunF.funW (c.def_ 2 (d := Shd.dn "is_tick" sIsTick)) (kp "is_tick" (by simp))
  have b_2 := b_2 ["number"] (fun _ _ _ _ _ _ us hl => match us, hl with | [_], _ => rfl)
  have m_2 := g "is_tick" (by simp)
  have k_2 := kp "is_tick" (by simp)
  obtain ⟨fd_3, F_3, b_3, _⟩ := FunF.funW (c.def_ 3 (d := Shd.dn "is_stay" sIsStay)) (kp "is_stay" (by simp))
  have b_3 := b_3 ["name", "come", "go"] (fun _ _ _ _ _ _ us hl => match us, hl with | [_, _, _], _ => rfl)
  have m_3 := g "is_stay" (by simp)
  have k_3 := kp "is_stay" (by simp)
  obtain ⟨fd_4, F_4, b_4, _⟩ := FunF.funW (c.def_ 4 (d := Shd.dn "lifted_from" sLiftedFrom)) (kp "lifted_from" (by simp))
  have b_4 := b_4 ["stays", "taker"] (fun _ _ _ _ _ _ us hl => match us, hl with | [_, _], _ => rfl)
  have m_4 := g "lifted_from" (by simp)
  have k_4 := kp "lifted_from" (by simp)
  obtain ⟨fd_5, F_5, b_5, _⟩ := FunF.funW (c.def_ 5 (d := Shd.dn "_check_stays" sCheck)) (kp "_check_stays" (by simp))
  have b_5 := b_5 ["stays", "most"] (fun _ _ _ _ _ _ us hl => match us, hl with | [_, _], _ => rfl)
  have m_5 := g "_check_stays" (by simp)
  have k_5 := kp "_check_stays" (by simp)
  obtain ⟨fd_6, F_6, b_6, _⟩ := FunF.funW (c.def_ 6 (d := Shd.dn "_crossing_names" sCrossingNames)) (kp "_crossing_names" (by simp))
  have b_6 := b_6 ["party"] (fun _ _ _ _ _ _ us hl => match us, hl with | [_], _ => rfl)
  have m_6 := g "_crossing_names" (by simp)
  have k_6 := kp "_crossing_names" (by simp)
  obtain ⟨fd_7, F_7, b_7, _⟩ := FunF.funW (c.def_ 7 (d := Shd.dn "_piles_from" sPilesFrom)) (kp "_piles_from" (by simp))
  have b_7 := b_7 ["crossing", "start"] (fun _ _ _ _ _ _ us hl => match us, hl with | [_, _], _ => rfl)
  have m_7 := g "_piles_from" (by simp)
  have k_7 := kp "_piles_from" (by simp)
  obtain ⟨fd_8, F_8, b_8, _⟩ := FunF.funW (c.def_ 8 (d := Shd.dn "two_piles" sTwoPiles)) (kp "two_piles" (by simp))
  have b_8 := b_8 ["party"] (fun _ _ _ _ _ _ us hl => match us, hl with | [_], _ => rfl)
  have m_8 := g "two_piles" (by simp)
  have k_8 := kp "two_piles" (by simp)
  obtain ⟨fd_9, F_9, b_9, _⟩ := FunF.funW (c.def_ 9 (d := Shd.dn "_odd_walk" sOddWalk)) (kp "_odd_walk" (by simp))
  have b_9 := b_9 ["crossing", "start"] (fun _ _ _ _ _ _ us hl => match us, hl with | [_, _], _ => rfl)
  have m_9 := g "_odd_walk" (by simp)
  have k_9 := kp "_odd_walk" (by simp)
  obtain ⟨fd_10, F_10, b_10, _⟩ := FunF.funW (c.def_ 10 (d := Shd.dn "odd_ring" sOddRing)) (kp "odd_ring" (by simp))
  have b_10 := b_10 ["party"] (fun _ _ _ _ _ _ us hl => match us, hl with | [_], _ => rfl)
  have m_10 := g "odd_ring" (by simp)
  have k_10 := kp "odd_ring" (by simp)
  obtain ⟨fd_11, F_11, b_11, _⟩ := FunF.funW (c.def_ 11 (d := Shd.dn "judge_ring" sJudgeRing)) (kp "judge_ring" (by simp))
  have b_11 := b_11 ["party", "names"] (fun _ _ _ _ _ _ us hl => match us, hl with | [_, _], _ => rfl)
  have m_11 := g "judge_ring" (by simp)
  have k_11 := kp "judge_ring" (by simp)
  obtain ⟨fd_12, F_12, b_12, _⟩ := FunF.funW (c.def_ 12 (d := Shd.dn "_law_start" sStart)) (kp "_law_start" (by simp))
  have b_12 := b_12 ["_law_script"] (fun _ _ _ _ _ _ us hl => match us, hl with | [_], _ => rfl)
  have m_12 := g "_law_start" (by simp)
  have k_12 := kp "_law_start" (by simp)
  obtain ⟨fd_13, F_13, b_13, _⟩ := FunF.funW (c.def_ 13 (d := Shd.dn "_law_drawn" sDrawn)) (kp "_law_drawn" (by simp))
  have b_13 := b_13 ["_law_state", "_law_count"] (fun _ _ _ _ _ _ us hl => match us, hl with | [_, _], _ => rfl)
  have m_13 := g "_law_drawn" (by simp)
  have k_13 := kp "_law_drawn" (by simp)
  obtain ⟨fd_14, F_14, b_14, _⟩ := FunF.funW (c.def_ 14 (d := Shd.dn "_law_rows" sRows)) (kp "_law_rows" (by simp))
  have b_14 := b_14 ["_law_state", "_law_most", "_law_high"] (fun _ _ _ _ _ _ us hl => match us, hl with | [_, _, _], _ => rfl)
  have m_14 := g "_law_rows" (by simp)
  have k_14 := kp "_law_rows" (by simp)
  obtain ⟨fd_15, F_15, b_15, _⟩ := FunF.funW (c.def_ 15 (d := Shd.dn "_law_party" sLawParty)) (kp "_law_party" (by simp))
  have b_15 := b_15 ["_law_rows_here"] (fun _ _ _ _ _ _ us hl => match us, hl with | [_], _ => rfl)
  have m_15 := g "_law_party" (by simp)
  have k_15 := kp "_law_party" (by simp)
  obtain ⟨fd_16, F_16, b_16, _⟩ := FunF.funW (c.def_ 16 (d := Shd.dn "_law_played" sLawPlayed)) (kp "_law_played" (by simp))
  have b_16 := b_16 ["_law_rows_here"] (fun _ _ _ _ _ _ us hl => match us, hl with | [_], _ => rfl)
  have m_16 := g "_law_played" (by simp)
  have k_16 := kp "_law_played" (by simp)
  obtain ⟨fd_17, F_17, b_17, _⟩ := FunF.funW (c.def_ 17 (d := Shd.dn "_law_cross" sLawCross)) (kp "_law_cross" (by simp))
  have b_17 := b_17 ["_law_rows_here"] (fun _ _ _ _ _ _ us hl => match us, hl with | [_], _ => rfl)
  have m_17 := g "_law_cross" (by simp)
  have k_17 := kp "_law_cross" (by simp)
  obtain ⟨fd_18, F_18, b_18, _⟩ := FunF.funW (c.def_ 18 (d := Shd.dn "_law_parts" sLawParts)) (kp "_law_parts" (by simp))
  have b_18 := b_18 ["_law_near", "_law_names"] (fun _ _ _ _ _ _ us hl => match us, hl with | [_, _], _ => rfl)
  have m_18 := g "_law_parts" (by simp)
  have k_18 := kp "_law_parts" (by simp)
  obtain ⟨fd_19, F_19, b_19, _⟩ := FunF.funW (c.def_ 19 (d := Shd.dn "_law_least_odd" sLawLeastOdd)) (kp "_law_least_odd" (by simp))
  have b_19 := b_19 ["_law_near", "_law_names"] (fun _ _ _ _ _ _ us hl => match us, hl with | [_, _], _ => rfl)
  have m_19 := g "_law_least_odd" (by simp)
  have k_19 := kp "_law_least_odd" (by simp)
  have ne01 : Shd.tabA K "bottom_up" ≠ tabOf K (codeA K (ma K (ga K "Party") "crossings")) := of_decide_eq_true (c.fact 3)
  obtain ⟨fdT0, FT0, bT0, _⟩ := FunF.funL9 (c.def_ 25 (d := Shd.dn "bottom_up" sBottomUp))
  have bT0 := bT0 ["stays"] (fun _ _ _ _ _ _ us hl => match us, hl with | [_], _ => rfl)
  have mT0 := g "bottom_up" (by simp)
  have kT0 := kp "bottom_up" (by simp)
  obtain ⟨fdT1, FT1, bT1, _⟩ := FunF.funL9 (c.def_ 26 (d := dm "Party" "crossings" "Party.crossings" sPCross))
  have bT1 := bT1 ["self"] (fun _ _ _ _ _ _ us hl => match us, hl with | [_], _ => rfl)
  obtain ⟨fdL, FL, _, bL⟩ := FunF.funW (c.def_ 27 (d := Shd.dn "law" sLaw)) (kp "law" (by simp))
  refine ⟨fdL, fun s v => bL ["_law_script"] (fun _ _ _ _ _ _ us hl => match us, hl with | [_], _ => rfl) s [v] rfl, fun base hT => ?_⟩
  have TT0 : LamX.TabB base mg (codeA K (ga K "bottom_up")) (Shd.tabA K "bottom_up") := hT (codeA K (ga K "bottom_up"), Shd.tabA K "bottom_up") (by simp)
  have hT0 : (Shd.tabA K "bottom_up", qBot) ∈ T04 K := by simp
  have uT0 : ∀ p ∈ T04 K, p.1 = Shd.tabA K "bottom_up" → p.2 = qBot := fun p hp e => by
    rcases List.mem_cons.mp hp with rfl | hp
    · rfl
    rcases List.mem_cons.mp hp with rfl | hp
    · exact absurd e.symm ne01
    cases hp
  have TT1 : LamX.TabB base mg (codeA K (ma K (ga K "Party") "crossings")) (tabOf K (codeA K (ma K (ga K "Party") "crossings"))) := hT (codeA K (ma K (ga K "Party") "crossings"), tabOf K (codeA K (ma K (ga K "Party") "crossings"))) (by simp)
  have hT1 : (tabOf K (codeA K (ma K (ga K "Party") "crossings")), qCross) ∈ T04 K := by simp
  have uT1 : ∀ p ∈ T04 K, p.1 = tabOf K (codeA K (ma K (ga K "Party") "crossings")) → p.2 = qCross := fun p hp e => by
    rcases List.mem_cons.mp hp with rfl | hp
    · exact absurd e ne01
    rcases List.mem_cons.mp hp with rfl | hp
    · rfl
    cases hp
  have M : Mk K (ga K "Party") (ma K (ga K "Party") "__init__") := dPI.mkr PF.makes PF.kp
  have G_0 : FnOk P w K mg base CX0 1 _ _ _ _ := ok_isName F_0 B1 g8
  have G_1 : FnOk P w K mg base CX0 1 _ _ _ _ := Sh1.ok_isWithin F_1 B1
  have G_2 : FnOk P w K mg base CX0 2 _ _ _ _ := ok_isTick F_2 g9 G_1 m_1 k_1 b_1
  have G_3 : FnOk P w K mg base CX0 3 _ _ _ _ := ok_isStay F_3 G_0 m_0 k_0 b_0 G_2 m_2 k_2 b_2
  have G_5 : FnOk P w K mg base (L2.CX P w) 4 _ _ _ _ := ok_check F_5 B1 ECI G_3 m_3 k_3 b_3
  have GI : FnR P w K mg base (L2.CX P w) 5 _ (spPNew (ga K "Party") (ga K "InvalidStay")) := ok_pinit (funS04 DPI) PF.pc G_5 m_5 k_5 b_5
  have GB : FnOk P w K mg base CX0 5 _ _ _ _ := ok_bottom (T := T04 K) FT0 B TT0 hT0 uT0
  have GLN : FnOk P w K mg base CX0 6 _ _ _ _ := ok_liftedN (T := T04 K) F_4 GB mT0 kT0 bT0
  have GXQ : GFnQ P w K mg base 8 _ _ _ _ := ok_crossQ (T := T04 K) FT1 B PF.pc TT1 hT1 uT1 GB mT0 kT0 bT0 GLN m_4 k_4 b_4
  have GNM : FnOk P w K mg base CX0 1 _ _ _ _ := ok_pnames FNM B1 PF.pc
  have G_6 : FnOk P w K mg base CX0 10 _ _ _ _ := ok_near (T := T04 K) F_6 PF.pc GNM PNM bNM GXQ MX bT1
  have G_11 : FnOk P w K mg base (L2.CX P w) 11 _ _ _ _ := ok_judge (T := T04 K) F_11 B ECR G_6 m_6 k_6 b_6
  have GA : FnOk P w K mg base (L2.CX P w) 7 _ _ _ _ := ok_padd FPA PF.pc M GI
  have G_13 : FnOk P w K mg base CX0 1 _ _ _ _ := ok_drawn F_13 B1
  have G_12 : FnOk P w K mg base CX0 1 _ _ _ _ := ok_start F_12
  have G_14 : FnOk P w K mg base CX0 2 _ _ _ _ := ok_rows F_14 B1 G_13 m_13 k_13 b_13
  have G_15 : FnOk P w K mg base (L2.CX P w) 8 _ _ _ _ := ok_party F_15 PF.pc M GI PF.self dPA.at_ dPA.isF GA bPA
  have G_16 : FnOk P w K mg base CX0 1 _ _ _ _ := Pq.ok_played F_16 B
  have G_17 : FnOk P w K mg base CX0 2 _ _ _ _ := ok_lawNear F_17 B G_16 m_16 k_16 b_16
  have G_18 : FnOk P w K mg base CX0 1 _ _ _ _ := ok_parts F_18 B
  have G_19 : FnOk P w K mg base CX0 1 _ _ _ _ := ok_least F_19 B
  have G_7 : FnOk P w K mg base CX0 1 _ _ _ _ := ok_from F_7
  have G_8 : FnOk P w K mg base CX0 11 _ _ _ _ := ok_two (T := T04 K) F_8 B PF.pc G_6 m_6 k_6 b_6 G_7 m_7 k_7 b_7 GNM PNM bNM GXQ MX bT1
  have G_9 : FnOk P w K mg base CX0 1 _ _ _ _ := ok_odd F_9
  have G_10 : FnOk P w K mg base CX0 11 _ _ _ _ := ok_ring (T := T04 K) F_10 B PF.pc G_6 m_6 k_6 b_6 G_9 m_9 k_9 b_9 GNM PNM bNM
  exact ok_law04 (C := (ga K "Party")) (CR := ga K "InvalidRing") FL ⟨B, ⟨_, _, G_12, m_12, k_12, b_12⟩, ⟨_, _, G_13, m_13, k_13, b_13⟩, ⟨_, _, G_14, m_14, k_14, b_14⟩, ⟨_, _, G_15, m_15, k_15, b_15⟩, ⟨_, _, G_17, m_17, k_17, b_17⟩, ⟨_, _, G_8, m_8, k_8, b_8⟩, ⟨_, _, G_10, m_10, k_10, b_10⟩, ⟨_, _, G_19, m_19, k_19, b_19⟩, ⟨_, _, G_18, m_18, k_18, b_18⟩, ⟨_, _, G_11, m_11, k_11, b_11⟩⟩
end Fp
set_option Elab.async false
set_option linter.all false
set_option maxRecDepth 100000
set_option maxHeartbeats 0
namespace Fp
open PySem PySem.Spec PyProof.Rows L2 Sho He Shh Shd
abbrev R04 : PySem.W.OpenRow := PySem.W.OpenLaw.row PySem.Challenge.rw_shoepile_k04_two_piles_or_an_odd_ring
abbrev hk04 : PySem.W.Hook := hookS 6 fa04 fn04 tf04
def ob04 (s : PySem.W.SharedT) : Shh.AlS := obsS 6 fa04 fn04 tf04 (HandSHeadRun.getT s)
theorem ob04_eq (s : PySem.W.SharedT) : ob04 s = hk04.obs s.abs := obsS_eq (HandSHeadRun.getT_eq s)
def looseA : List Str := ["_wall", "PartyError", "InvalidStay", "UnknownGuest", "InvalidRing", "LAST_TICK", "LONGEST_NAME", "is_name", "is_within", "is_tick", "is_stay", "bottom_up", "lifted_from", "_crossing_names", "_piles_from"]
def looseB : List Str := ["two_piles", "_odd_walk", "odd_ring", "judge_ring", "_check_stays", "Party", "_law_start", "_law_drawn", "_law_same", "_law_rows", "_law_party", "_law_played", "_law_cross", "_law_parts", "_law_least_odd"]
def loose04 : List Str := looseA ++ looseB
theorem run04 (w : World) : HandSHeadRun.RunEq R04 (PySem.W.view R04.prog [35]) hk04 ob04 20000 loose04 w := by
  intro os
  kernel_rfl
theorem at04 {w : World} {K : Shh.Fr} {h : Heap} {mg : Str → Option Value} {fa : Addr} (KX : K.In h) (G : h.Ns mainGlobals mg) (c : SaysS fa04 fn04 tf04 h K) (hmg : mg "law" = some (.ref fa)) :
    LamX.LawAtS PySem.Challenge.rw_shoepile_k04_two_piles_or_an_odd_ring w K (L2.CX PySem.Challenge.rw_shoepile_k04_two_piles_or_an_odd_ring.prog w) 13 63 "_law_script" mg fa h := by
  obtain ⟨fd, hb, hF⟩ := facts04 (P := PySem.Challenge.rw_shoepile_k04_two_piles_or_an_odd_ring.prog) (w := w) KX G c rfl (by decide +kernel)
  have e : fa = ga K "law" := by
    have q := hmg.symm.trans (gloB_ok KX G (xs := glo04) (c.fact 0) (x := "law") (by simp))
    injection q with q
    injection q
  subst e
  have t0 : (fun K => ga K "bottom_up") ∈ tf04 := List.mem_cons_self
  have t1 : (fun K => ma K (ga K "Party") "crossings") ∈ tf04 := List.mem_cons_of_mem _ (List.mem_cons_self)
  refine ⟨fd, cs04 K, spLaw04 K (T04 K), ?_, ?_, ?_, hb, fun H a ns hl _ ht hS => ?_, fun base _ _ hT => hF base hT⟩
  · exact fun p hp => by
      rcases List.mem_cons.mp hp with rfl | hp
      · exact c.empty _ t0
      rcases List.mem_cons.mp hp with rfl | hp
      · exact c.empty _ t1
      cases hp
  · exact fun p hp => by
      rcases List.mem_cons.mp hp with rfl | hp
      · exact c.out _ t0
      rcases List.mem_cons.mp hp with rfl | hp
      · exact c.out _ t1
      cases hp
  · exact fun p hp => by
      rcases List.mem_cons.mp hp with rfl | hp
      · exact PySem.W.codeHd_of_K KX (c.hd _ t0)
      rcases List.mem_cons.mp hp with rfl | hp
      · exact PySem.W.codeHd_of_K KX (c.hd _ t1)
      cases hp
  · refine ⟨a, ns, rfl, hS, hl, ?_, fun _ => rfl⟩
    exact fun p hp => by
      rcases List.mem_cons.mp hp with rfl | hp
      · exact LamX.TabS.nil (ht _ List.mem_cons_self)
      rcases List.mem_cons.mp hp with rfl | hp
      · exact LamX.TabS.nil (ht _ (List.mem_cons_of_mem _ List.mem_cons_self))
      cases hp
end Fp
open PySem PySem.W PySem.Calls PyProof.Rows
theorem PySem.Challenge.cw_shoepile_k04_two_piles_or_an_odd_ring_holds : PySem.Challenge.rw_shoepile_k04_two_piles_or_an_odd_ring.Holds := by
  w_on; o_law
  refine HandSHeadRun.head_any (r := OpenLaw.row PySem.Challenge.rw_shoepile_k04_two_piles_or_an_odd_ring) (q := view (OpenLaw.row PySem.Challenge.rw_shoepile_k04_two_piles_or_an_odd_ring).prog [35]) (H := Fp.hk04) (ob := Fp.ob04) (M := 20000) (loose := Fp.loose04) (d := HandSHeadRun.topDef (OpenLaw.row PySem.Challenge.rw_shoepile_k04_two_piles_or_an_odd_ring).prog 35) (kwd := []) Fp.ob04_eq
    (by kernel_rfl) (fun s => by kernel_rfl) Fp.run04 (by kernel_rfl) (by kernel_rfl) (by kernel_rfl) (by rfl) (by first | assumption | decide +kernel) (by decide +kernel) ⟨rfl, rfl, rfl, rfl, rfl, by decide +kernel⟩ ?hw ?hc
  case hw => w_witness2
  case hc =>
    refine LamX.walk_ofTsE (l := PySem.Challenge.rw_shoepile_k04_two_piles_or_an_odd_ring) (n := 63) (k := 13) (x := "_law_script") (CX := fun w => L2.CX PySem.Challenge.rw_shoepile_k04_two_piles_or_an_odd_ring.prog w) rfl (by decide) (by kernel_rfl) ⟨rfl, by decide, by decide⟩ ?F ?hCX
    case hCX =>
      rintro w H s e s' ⟨a, B, H', cls, d, _, _, _, _, _, _, _, z⟩
      exact z
    case F =>
      intro w mg fa h Y G hmg0
      obtain ⟨K, KX, c⟩ := Y
      have hmg : mg ("law" : PySem.Str) = some (.ref fa) := by
        have e : (HandSHeadRun.topDef (OpenLaw.row PySem.Challenge.rw_shoepile_k04_two_piles_or_an_odd_ring).prog 35).name = ("law" : PySem.Str) := by kernel_rfl
        rw [← e]
        exact hmg0
      exact ⟨K, KX, Fp.at04 KX G c hmg⟩
