import PyProof.Rows.All
import Wide.All
import OpenK.AllK
import Wide.FinOn
import KE.KStateDown
import HandS.ForExc
import HandS.Defaults
import HandS.Head0
import HandS.Head1
import HandS.Head2
import HandS.HeadHook1
import HandS.HeadHook2
import HandS.HeadHook3
import HandS.HeadHook4
import HandS.HeadNt
import HandS.HeadWalk
import HandS.EndTab
import HandS.Star
import HandS.Property
import HandS.ExcField
import KE.KExcLine
import KE.KSuper
import HandS.ForMost
import HandS.FStr
import HandS.ExcInit
import HandS.ExcOwn
import HandS.Nested
import HandS.MakeKwOnly
import HandS.More
import HandS.Lambda
import HandS.TryMany
import HandS.Walk
import HandS.TupAny
import HandS.IsInst
import HandS.ClsMeth
import HandS.DeepEq
import HandS.Words
import KE.GoesMore
import PyProof.EnumMake
import PyProof.EnumFor
import PyProof.Draws
import HandS.Small
import HandS.Dict
import HandS.Iter
import HandS.DictComp
import HandS.DictTup
import KE.KDictDisplayH
import HandS.List
import KE.KRevSl
import HandS.Style
import HandS.Rev
import HandS.SortKw
import KE.KSortKeySt
import HandS.Deep
import HandS.RaiseMore
import KE.KTupTruth
import OpenK.KOps
import HandS.Zip
import KE.KDictZip
import HandS.SetFor
import HandS.Strs
import HandS.TupSets
import HandS.SetKeys
import HandS.Text
import PyProof.Rows.SortShellAny
import HandS.SortRule
import PySem.Challenge.RW_shoepile_k08_goings_by_search
set_option Elab.async false
set_option linter.all false
set_option maxRecDepth 100000
set_option maxHeartbeats 4000000
/-! Own errors over ValueError: made with keywords, their __init__ with super(). -/
namespace ShX
open PySem PySem.W PySem.HandSPX
open Builtin Builtin.ObjectAttr
section
variable {M : Model} {prog : Program} {w : World} {A : Around} {E : Value → Shared → Prop} {R : Result → Shared → Prop}
variable {h : Heap} {g : Array GenState} {d : Drawn} {t : Nat} {os : OsState}
variable {nm q : Str} {C N : Addr} {bs bm bmB : List Value} {hdct : Bool} {sn : List Str} {sub : List Value} {ab : Bool} {col : Option Bool} {dd : Option Addr} {k0 k1 k2 k3 k5 : Option Value} {B newId initId : String}

theorem chk_new (F : ExcBaseFacts B newId initId bmB) (hT : ∀ X : String, bm.contains (.type X) = bmB.contains (.type X)) {kw : List (Str × Value)} {Q : Unit → Shared → Prop}
    (hC : h.get? C = some (excClassObj nm q C N bs bm hdct sn sub ab col dd k0 k1 k2 k3 k5 newId)) (hq : Q () ⟨h, g, d, t, os⟩) :
    wpAny M A (checkBuiltinCall newId ⟨[.ref C], kw⟩) Q E ⟨h, g, d, t, os⟩ := by
  have has : (Value.ref C :: bm).contains (.type B) = true := by rw [List.contains_cons, hT, F.hasB, Bool.or_true]
  have star := F.noStar
  simp only [checkBuiltinCall, F.newKind, F.newSplit, F.newRow]
  repeat (first
    | refine wpAny_loadPart_at hC ?_
    | (refine wpAny_isSubtype_exc hC ?_; rw [has])
    | refine wpAny_staticBase_exc hC ?_
    | refine wpAny_madeBy_exc hC ?_
    | simp only [bne_self_eq_false, Bool.false_eq_true, if_false]
    | wp_step)
  exact hq

/-- the new object: its args are none, the keywords go to __init__ alone -/
theorem new_kw (F : ExcBaseFacts B newId initId bmB) (hT : ∀ X : String, bm.contains (.type X) = bmB.contains (.type X)) {kw : List (Str × Value)}
    (hC : h.get? C = some (excClassObj nm q C N bs bm hdct sn sub ab col dd k0 k1 k2 k3 k5 newId))
    (hq : R (.ok (.ret (.ref (h.objs.size + 1)))) ⟨(h.push (kdv_tup [])).push (excO C h.objs.size), g, d, t, os⟩) :
    codeAny (model prog w) A (.builtin newId ⟨[.ref C], kw⟩) R ⟨h, g, d, t, os⟩ := by
  have ends := F.ends
  have has : ∀ Y : String, (Value.ref C :: bm).contains (.type Y) = bmB.contains (.type Y) := fun Y => by rw [List.contains_cons, hT]; rfl
  have yes : (Value.ref C :: bm).contains (.type B) = true := (has _).trans F.hasB
  have no1 : (Value.ref C :: bm).contains (.type "AttributeError") = false := (has _).trans F.noAttr
  have no2 : (Value.ref C :: bm).contains (.type "NameError") = false := (has _).trans F.noName
  refine codeAny_builtinAt F.entry ?_
  unfold Builtin.«BaseException.__new__»
  refine wpAt_bind ?_
  show wpAt _ _ _ (stack >>= _) _ _ _
  refine wpAt_bind (wpAt_stack fun p below => wpAt_of_wpAny ?_)
  wp_walk
  refine wpAt_of_wpAny ?_
  rw [F.owner]
  repeat (first
    | with_reducible refine wpAny_madeHere_exc F.canon hC ?_
    | with_reducible refine wpAny_loadPart_at hC ?_
    | (with_reducible refine wpAny_isSubtype_exc hC ?_; first | rw [yes] | rw [no1] | rw [no2])
    | wp_step)
  show R _ _
  rw [Heap.size_push]
  exact hq

theorem tcall_kw (F : ExcBaseFacts B newId initId bmB) (hT : ∀ X : String, bm.contains (.type X) = bmB.contains (.type X)) {kw : List (Str × Value)} {fI : Addr} {Q : Fin → Shared → Prop}
    (hC : h.get? C = some (excClassObj nm q C N bs bm hdct sn sub ab col dd k0 k1 k2 k3 k5 newId))
    (hi : Looks (model prog w) h (typeLookup (.ref C) "__init__") (some (.ref fI))) (hb : ∀ self, Looks (model prog w) h (bindSpecial (.ref fI) self) (.ref fI, [self]))
    (hq : codeAny (model prog w) A (.call (.ref fI) ⟨[.ref (h.objs.size + 1)], kw⟩)
      (fun r s' => match r with
        | .ok (.ret v) => v = .none ∧ Q (.done (.ret (.ref (h.objs.size + 1)))) s'
        | .ok _ => False
        | .error e => E e s')
      ⟨(h.push (kdv_tup [])).push (excO C h.objs.size), g, d, t, os⟩) :
    wpAny (model prog w) A (Builtin.«type.__call__» ⟨[.ref C], kw⟩) Q E ⟨h, g, d, t, os⟩ := by
  repeat (first | with_reducible refine wpAny_loadPart_at hC ?_ | with_reducible refine wpAny_madeBy_exc hC ?_ | wp_step)
  refine codeAny_call_builtin_code (Code.quiet_builtin _ F.quiet) (chk_new F hT hC ?_)
  refine new_kw F hT hC ?_
  show wpAny _ _ _ _ _ _
  have kp : ∀ b o, h.get? b = some o → ((h.push (kdv_tup [])).push (excO C h.objs.size)).get? b = some o := fun b o e => Heap.get?_push_of_some _ (Heap.get?_push_of_some _ e)
  have cls1 := kp _ _ hC
  have new1 : ((h.push (kdv_tup [])).push (excO C h.objs.size)).get? (h.objs.size + 1) = some (excO C h.objs.size) := by heap_get
  have self1 : (Value.ref C :: bm).contains (.ref C) = true := by simp
  have look1 := hi.keeps kp
  have bind1 := (hb (.ref (h.objs.size + 1))).keeps kp
  unfold isInstance
  repeat (first | with_reducible refine wpAny_loadPart_at new1 ?_ | (with_reducible refine wpAny_isSubtype_exc cls1 ?_; rw [self1]) | wp_step)
  show wpAny _ _ (typeLookup (.ref C) _) _ _ _
  refine look1.at ?_
  refine wpAny_holding (wpAny_bind (bind1.at ?_))
  refine wpAny_bind (wpAny_call (codeAny_mono hq fun r s' z => ?_))
  rcases r with e | (v | _ | _ | _) <;> first | exact z | exact z.elim | skip
  obtain ⟨rfl, z⟩ := z
  first
    | exact wpAny_pure (wpAny_pure z)
    | (wp_walk; exact z)

theorem chk_tcall {kw : List (Str × Value)} {Q : Unit → Shared → Prop} (hC : h.get? C = some (excClassObj nm q C N bs bm hdct sn sub ab col dd k0 k1 k2 k3 k5 newId))
    (hq : Q () ⟨h, g, d, t, os⟩) : wpAny M A (checkBuiltinCall "type.__call__" ⟨[.ref C], kw⟩) Q E ⟨h, g, d, t, os⟩ := by
  have f3 := tc_sub
  have hT : (⟨h, g, d, t, os⟩ : Shared).TypeIs (.ref C) "type" := ⟨_, hC, rfl⟩
  simp only [checkBuiltinCall, tc_kind, tc_split]
  repeat (any_goals (first | assumption | with_reducible refine wpAny_loadPart_at hC ?_ | with_reducible refine wpAny_onRaise ?_ | with_reducible refine wpAny_map ?_ | wp_step))

theorem call_kw (F : ExcBaseFacts B newId initId bmB) (hT : ∀ X : String, bm.contains (.type X) = bmB.contains (.type X)) {kw : List (Str × Value)} {fI : Addr}
    (hC : h.get? C = some (excClassObj nm q C N bs bm hdct sn sub ab col dd k0 k1 k2 k3 k5 newId))
    (hi : Looks (model prog w) h (typeLookup (.ref C) "__init__") (some (.ref fI))) (hb : ∀ self, Looks (model prog w) h (bindSpecial (.ref fI) self) (.ref fI, [self]))
    (hq : codeAny (model prog w) (A.under (.builtin "type.__call__" ⟨[.ref C], kw⟩)) (.call (.ref fI) ⟨[.ref (h.objs.size + 1)], kw⟩) (InitBack (h.objs.size + 1) R)
      ⟨(h.push (kdv_tup [])).push (excO C h.objs.size), g, d, t, os⟩) :
    codeAny (model prog w) A (.call (.ref C) ⟨[], kw⟩) R ⟨h, g, d, t, os⟩ := by
  have f1 := tc_lookup
  have f2 := tc_bind (.ref C)
  have hTy : (⟨h, g, d, t, os⟩ : Shared).TypeIs (.ref C) "type" := ⟨_, hC, rfl⟩
  refine codeAny_of_tree ?_
  show wpAny _ _ (callAny (.ref C) _) _ _ _
  repeat (any_goals (first | assumption | with_reducible refine wpAny_loadPart_at hC ?_ | wp_step))
  refine ⟨rfl, ?_⟩
  refine codeAny_call_builtin_at (Code.quiet_builtin _ (by decide +kernel)) entry_typeCall (chk_tcall hC (tcall_kw F hT hC hi hb ?_))
  refine codeAny_mono hq fun r s' z => ?_
  rcases r with e | (v | _ | _ | _) <;> exact z
end
end ShX

namespace ShX
open PySem PySem.W PySem.Calls PyProof.Rows PySem.HandSPX
section
variable {prog : Program} {w : World} {A : Around} {E : Value → Shared → Prop} {h : Heap} {g : Array GenState} {d : Drawn} {t : Nat} {os : OsState}
variable {nm q : Str} {C N : Addr} {bs bm : List Value} {hdct : Bool} {sn : List Str} {sub : List Value} {ab : Bool} {col : Option Bool} {dd : Option Addr} {k0 k1 k2 k3 k5 : Option Value}
abbrev veI : String := "ValueError.__init__"
/-- ValueError's __init__, bound to the exception at e, called -/
theorem call_mw {u e t0 : Addr} {rest : List Value} {Q : Value → Shared → Prop}
    (hC : h.get? C = some (excClassObj nm q C N bs bm hdct sn sub ab col dd k0 k1 k2 k3 k5 "ValueError.__new__")) (he : h.get? e = some (excO C t0))
    (hu : h.get? u = some (kxs_mw veI e)) (hz : rest.length ≤ sizeLine)
    (hq : ∀ h' t1, (∀ b o, b ≠ e → h.get? b = some o → h'.get? b = some o) → h'.get? e = some (excO C t1) → Q .none ⟨h', g, d, t, os⟩) :
    wpAny (model prog w) A (call (.ref u) rest) Q E ⟨h, g, d, t, os⟩ := by
  refine wpAny_call (codeAny_of_tree ?_)
  show wpAny _ A.in1 (callAny (.ref u) ⟨rest, []⟩) _ _ _
  simp only [callAny]
  refine wpAny_bind (wpAny_load hu ?_)
  have yes : (Value.type "method-wrapper" == Value.type "method" || Value.type "method-wrapper" == Value.type "builtin_function_or_method" || Value.type "method-wrapper" == Value.type "method-wrapper") = true := by decide
  simp only [kxs_mw, yes, if_true]
  refine KFB.if_so (by decide) ?_
  refine wpAny_bind (check_bound_init F.excBase_ValueError.toExcCallFacts hC he rfl ?_)
  refine wpAny_bind (wpAny_pure (wpAny_pure ?_))
  refine ⟨plainId_quiet F.excBase_ValueError.init.plain _, codeAny_builtin F.excBase_ValueError.initEntry ?_⟩
  exact exc_init_tree (cls := .ref C) (t0 := t0) (dv := none) (c2 := .none) (c3 := .none) (b4 := .bool false) he hz fun h' k e' _ => hq h' _ k e'
end
end ShX
set_option Elab.async false
set_option linter.all false
set_option maxRecDepth 100000
set_option maxHeartbeats 4000000

namespace Sho
open PySem PySem.Spec PyProof.Rows L2 NdefX
/-- what the written part says of an own error's __init__ at f that says super() -/
structure SupTxt (P : Program) (K : PySem.W.Frag) (mg : Str → Option Value) (F : NF) (f cc D : Addr) : Prop where
  fn : ∃ (oc : Value) (od : Option Addr) (doc pm : Value) (an : Option Addr) (ct : Value) (osl : Array (Option Value)),
    K.lookup f = some ⟨oc, od, .func (PySem.W.ksFn F.name F.qual F.params F.body F.scope .none .none doc pm an (.ref F.c) ct cc), osl⟩
  cd : PySem.W.codeIn K (.ref F.c) F.qual = true
  cell : ∃ (cl : Value) (cld : Option Addr) (csl : Array (Option Value)), K.lookup cc = some ⟨cl, cld, .cell (some (.ref D)), csl⟩
  cls : F.cl = [(("__class__" : Str), cc)]
  file : ∃ (oc : Value) (od : Option Addr) (vs : Array Value) (sl : Array (Option Value)) (fl : Str) (tf : Tok), K.lookup F.c = some ⟨oc, od, .fields vs, sl⟩ ∧ vs[2]? = some (.str fl tf) ∧ ((P.main.file : Str) == fl) = true
  first : ∃ ar : Arg, (F.params.posonlyargs ++ F.params.args).head? = some ar ∧ ar.arg = ("self" : Str)
  sup : mg "super" = none
  top : (P.main.scope.names.lookup ("super" : Str)).isSome = false
  ks : F.scope.names.lookup ("super" : Str) = some .globalImplicit
  kc : F.scope.names.lookup ("__class__" : Str) = some .free
  kse : F.scope.names.lookup ("self" : Str) = some .local
  isD : PySem.W.isClsIn K D = true
  opq : PySem.W.nsIn K cStatics "thirdparty.any" = some none
/-- the context's class: C's __init__ from D on is ValueError's -/
structure SupCls (K : PySem.W.Frag) (C D : Addr) : Prop where
  o : OexC K C
  sub : PySem.W.mroIn K C (.ref D) = some true
  nxt : PySem.W.ks_superIn K C D "__init__" = some (some (.builtin ShX.veI))
  ve : PySem.W.subIn K (.ref C) (.type "ValueError") = some true
section
variable {X : Cx} {pins : List (Addr × Obj)} {σ : L2.St} {H : Hp} {s : Shared} {F : NF} {f cc D a C : Addr}
theorem cls_at {K : PySem.W.Frag} {h : Heap} {D : Addr} (X : K.In h) (i : PySem.W.isClsIn K D = true) : ∃ (o : Obj) (cd : ClassData), h.get? D = some o ∧ o.data = .cls cd ∧ PySem.W.clsIn K D = some cd := by
  have i2 : (PySem.W.clsIn K D).isSome = true := i
  cases e : PySem.W.clsIn K D with
  | none =>
    rw [e] at i2
    cases i2
  | some cd =>
    have e0 := e
    unfold PySem.W.clsIn at e
    split at e
    · rename_i c d cd' sl ho
      cases e
      exact ⟨_, _, X _ _ ho, rfl, rfl⟩
    · cases e
/-- super().__init__(e), the exception at a being made -/
theorem sup_stmt {pl : Sem Bool} {R : Hp → Prop} {body : List Stmt} {e : Expr} {te : TA} {p0 p1 p2 p3 p4 : Pos} {Qf : PySem.Flow → Shared → Prop} {Ex : Value → Shared → Prop} (T : SupTxt X.prog X.K X.mg F f cc D) (V : SupCls X.K C D)
    (hX : X.env = envF F f X.env.locals) (I : Inv X pins σ H s) (hi : X.N[0]? = some ("self" : Str)) (hv : σ[0]? = some (some (.ref a))) (ha : H a = some (exo a C none))
    (he : PA X [e] te) (hxe : ∀ v s', X.xe v s' → Ex v s') (hq : te σ H fun xs H1 => xs.length ≤ 1000 ∧ H1 a = some (exo a C none) ∧ R H1) (hR : ∀ H1 s', Inv X pins σ H1 s' → R H1 → Qf .next s')
    (hce : eval (.Call (.Attribute (.Call (.Name "super" p0) [] [] p1) "__init__" p2) [e] [] p3) X.env = (do
      let ov ← attributeBase (.Call (.Name "super" p0) [] [] p1) "__init__" X.env (eval (.Call (.Name "super" p0) [] [] p1) X.env)
      standAt p2.atName
      let (fx, first) ← holding [ov] (getMethod ov "__init__" pl)
      callWith p3 fx first (backTo p3 (starEach [e] X.env)) []))
    (hst : starEach [e] X.env = (false, eval e X.env) :: starEach [] X.env) :
    PySem.wpAt (model X.prog X.w) X.A (.func body X.env) (exec (.Expr (.Call (.Attribute (.Call (.Name "super" p0) [] [] p1) "__init__" p2) [e] [] p3) p4) X.env) Qf Ex s := by
  obtain ⟨fc, fod, doc, pm, an, ct, osl, hf⟩ := T.fn
  obtain ⟨cl, cld, csl, hcell⟩ := T.cell
  obtain ⟨oc, od, vs, sl, fl, tf, hcode, hvs, hfile⟩ := T.file
  obtain ⟨ar, hfirst, har⟩ := T.first
  obtain ⟨oD, cdD, hD1, hD2, _⟩ := cls_at I.kIn T.isD
  obtain ⟨t0, hx⟩ := exo_at I.hok ha
  obtain ⟨nm, q, N, bs, bm, sn, sub, ab, col, dd, k0, k1, k2, k3, k5, hC, hbm⟩ := V.o.cls
  have hclC : PySem.W.clsIn X.K C = some { name := nm, bases := bs, mro := .ref C :: bm, ns := N, qualname := q, hasDict := true, slotNames := sn, subclasses := sub, abstract := ab, collection := col, hasDel := false } := by unfold PySem.W.clsIn; rw [hC] <;> rfl
  have IA : PySem.W.InstAt s.heap a ({ cls := .ref C, data := .fields #[.ref t0, .none, .none, .none, .bool false, .none] } : Obj) C none := ⟨hx, rfl, rfl, True.intro⟩
  have kD : X.env.kindOf ("self" : Str) = some .local := by rw [hX]; exact T.kse
  have selfv : ∃ m, s.heap.Ns X.env.locals m ∧ m ("self" : Str) = some (.ref a) := by
    obtain ⟨m, hm, hl⟩ := I.loc
    obtain ⟨u, ru, lk⟩ := hl 0 _ _ hi hv (.inl (by have := kD; rw [hX] at this; rw [hX]; exact this))
    obtain rfl : u = Value.ref a := ru
    rcases lk with ⟨_, e⟩ | ⟨e, _⟩
    · exact ⟨m, hm, e⟩
    · rw [kD] at e
      rcases e with e | e <;> cases e
  obtain ⟨m, hm, hself⟩ := selfv
  obtain ⟨mb, hb1, hb2⟩ := I.mod.blt
  have ek : X.env.scope.kind = .function := I.ok.kind
  have e1 : X.env.kindOf ("super" : Str) = some .globalImplicit := by rw [hX]; exact T.ks
  have e2 : X.env.kindOf ("__class__" : Str) = some .free := by rw [hX]; exact T.kc
  have e3 : X.env.cells.lookup ("__class__" : Str) = some cc := by
    rw [hX]
    show F.cl.lookup _ = _
    rw [T.cls]
    rfl
  refine ks_wpAt_Expr_any ?_ (I.quiet) (by rfl)
  refine ks_wpAt_MethodCall ?_ hce
  refine ks_wpAt_super_base (prog := X.prog) (w := X.w) (f := f) (cc := F.c) e1 e2 (by rfl) (by rw [hX]) (I.kIn _ _ hf) rfl hfirst (by rw [hX]) (I.kIn _ _ hcode) rfl hvs hfile T.top ?_
  refine PySem.W.ks_loadName_global ek e1 (PySem.Calls.loadGlobal_builtin (by rw [I.ok.glob]; exact I.mod.glob.keeps I.bk) T.sup (by rw [I.ok.blt]; exact hb1.keeps I.bk) ((hb2 _ (by decide)).trans (by decide +kernel)) ⟨rfl, ?_⟩)
  refine wpAny_loadName_free ek e2 e3 ⟨_, I.kIn _ _ hcell, rfl⟩ ?_
  rw [har]
  refine wpAny_loadName_local ek kD hm hself ?_
  refine ks_wpAny_isType_cls hD1 hD2 ⟨rfl, ?_⟩
  obtain ⟨hp, g, d, tk, os⟩ := s
  refine ks_wpAny_call_super hD1 hD2 hx rfl (fun c z => by cases z) (PySem.W.looks_mroIn I.kIn V.sub) fun h1 so1 kp1 => ?_
  have I1 : Inv X pins σ H ⟨h1, g, d, tk, os⟩ := I.kept (t' := tk) kp1
  have nx := V.nxt
  unfold PySem.W.ks_superIn at nx
  rw [hclC] at nx
  have hxC : a ≠ C := by
    rintro rfl
    have z := I.kIn _ _ hC
    have z2 : hp.get? a = some (excClassObj nm q a N bs bm true sn sub ab col dd k0 k1 k2 k3 k5 "ValueError.__new__") := z
    rw [z2] at hx
    cases hx
  have hmro : PySem.W.Looks (model X.prog X.w) h1 (mroOf (.ref C)) (.ref C :: bm) := (PySem.W.looks_clsIn I1.kIn hclC).andThen .now
  have hinst : PySem.W.Looks (model X.prog X.w) h1 (isInstance (.ref a) (.type "ValueError")) true :=
    PySem.W.Looks.andThen (PySem.W.InstAt.type (⟨kp1 _ _ hx, rfl, rfl, True.intro⟩ : PySem.W.InstAt h1 a _ C none)) (PySem.W.looks_subIn I1.kIn V.ve)
  refine PySem.W.kxs_getMethod PySem.W.kxs_ValueError so1 (PySem.W.looks_opaque I1.kIn T.opq) hmro rfl I1.kIn nx hinst hxC (by decide) ?_
  generalize hu : h1.objs.size = u
  have kp2 : ∀ b o, h1.get? b = some o → (h1.push (PySem.W.kxs_mw ShX.veI a)).get? b = some o := fun b o z => Heap.get?_push_of_some _ z
  have I2 : Inv X pins σ H ⟨h1.push (PySem.W.kxs_mw ShX.veI a), g, d, tk + 1, os⟩ := I1.kept (t' := tk + 1) kp2
  have gu : (h1.push (PySem.W.kxs_mw ShX.veI a)).get? u = some (PySem.W.kxs_mw ShX.veI a) := by rw [← hu]; exact Heap.get?_push_size _ rfl
  have fu : FpOk X pins H u := I1.fpOk (by rw [← hu]; exact Nat.le_refl _) (I1.hok.fresh (by rw [← hu]; exact Nat.le_refl _))
  have I3 : Inv X ((u, PySem.W.kxs_mw ShX.veI a) :: pins) σ H ⟨h1.push (PySem.W.kxs_mw ShX.veI a), g, d, tk + 1, os⟩ := I2.pins_of fun p hp => by
    rcases List.mem_cons.mp hp with rfl | hp
    · exact ⟨gu, fu.1, fu.2.1, fu.2.2.1, fun v z => by cases z⟩
    · exact I2.pin p (List.mem_append_right _ hp)
  refine wpAny_mono (PySem.W.kxs_callWith (i := ShX.veI) (x := a) (Q := fun _ s' => Qf .next s') (E := X.xe) (by rw [hst]; rfl) ?_) (fun _ _ z => z) hxe
  rw [hst]
  refine PySem.Calls.evalArgs_plain ?_
  have hr := he.run p3 ((u, PySem.W.kxs_mw ShX.veI a) :: pins) _ σ H _ I3 hq
  rw [hst] at hr
  refine thn hr fun us s2 ⟨xs, H2, I4, rv, hl, ha2, q⟩ => ?_
  have gu2 := (I4.pin (u, PySem.W.kxs_mw ShX.veI a) (List.mem_append_right _ List.mem_cons_self)).1
  refine ⟨gu2, ?_⟩
  obtain ⟨t2, hx2⟩ := exo_at I4.hok ha2
  obtain ⟨hp2, g2, d2, tk2, os2⟩ := s2
  refine ShX.call_mw (I4.kIn _ _ hC) hx2 gu2 ?_ fun h' t3 k3 e3 => ?_
  · show us.length ≤ sizeLine
    rw [← rv.length, sizeLine_eq]
    omega
  · have J := I4.write (t' := tk2) (x := a) (e := a) (o := exo a C none) (by rw [ha2]; exact True.intro) (.inl rfl) k3 ⟨_, e3⟩ (exo_ok e3)
    have eu : upd H2 a (exo a C none) = H2 := by
      funext b
      by_cases hb : b = a
      · rw [hb, upd_same, ha2]
      · rw [upd_ne hb]
    rw [eu] at J
    refine hR _ _ (J.pins_of fun p hp => J.pin p (by
      rcases List.mem_append.mp (List.mem_append_right X.pn hp) with z | z
      · exact List.mem_append_left _ z
      · exact List.mem_append_right _ (List.mem_cons_of_mem _ z))) q
end
section
variable {CX : CXT} {P : Program} {w : World} {K : PySem.W.Frag} {mg : Str → Option Value} {base : Heap} {N ps : List Str} {F : NF} {f cc D C a : Addr} {A : Around} {outer : List Env} {s : Shared} {H : Hp} {E : XK} {Q : VK} {us : List Value} {vs : List V} {k : Nat}
/-- the __init__ of an own error that says super() first, run: a is the exception -/
theorem run_sup {pl : Sem Bool} {args : Args} {e : Expr} {te : TA} {tr : TS} {rest : List Stmt} {p0 p1 p2 p3 p4 : Pos} (T : SupTxt P K mg F f cc D) (VC : SupCls K C D) (S : NScope N ps ["__class__"] F.scope) (hr : Room (k + 1) A) (e0 : Env0 P w K mg base A outer s H)
    (hb : ∀ doc pm an ct, BindsTo s (PySem.W.ksFn F.name F.qual F.params F.body F.scope .none .none doc pm an (.ref F.c) ct cc) args (ps.zip us)) (hl : vs.length = ps.length) (r : Vals vs us)
    (h0 : vs[0]? = some (.ref a)) (hN : N[0]? = some ("self" : Str)) (ha : H a = some (exo a C none))
    (hbody : F.body = .Expr (.Call (.Attribute (.Call (.Name "super" p0) [] [] p1) "__init__" p2) [e] [] p3) p4 :: rest)
    (he : PA (ncx CX P w K mg base N F f A outer s H E) [e] te) (hrest : PSs (ncx CX P w K mg base N F f A outer s H E) rest tr)
    (hq : te (startF N vs [none]) H fun xs H1 => xs.length ≤ 1000 ∧ H1 a = some (exo a C none) ∧ tr { nx := fun _ H' => Q .non H', rt := Q } (startF N vs [none]) H1)
    (hce : ∀ L : Addr, eval (.Call (.Attribute (.Call (.Name "super" p0) [] [] p1) "__init__" p2) [e] [] p3) (envF F f L) = (do
      let ov ← attributeBase (.Call (.Name "super" p0) [] [] p1) "__init__" (envF F f L) (eval (.Call (.Name "super" p0) [] [] p1) (envF F f L))
      standAt p2.atName
      let (fx, first) ← holding [ov] (getMethod ov "__init__" pl)
      callWith p3 fx first (backTo p3 (starEach [e] (envF F f L))) []))
    (hst : ∀ L : Addr, starEach [e] (envF F f L) = (false, eval e (envF F f L)) :: starEach [] (envF F f L)) :
    codeAny (model P w) A (.call (.ref f) args) (CR CX outer P w H s Q E) s := by
  obtain ⟨fc, fod, doc, pm, an, ct, osl, hf⟩ := T.fn
  have kin : K.In s.heap := e0.mod.kin.keeps fun b o z => (e0.bs b o z).1
  have lim : s.heap.NoLimit := e0.mod.nolimit.keeps fun b o z => (e0.bs b o z).1
  obtain ⟨cl, cld, csl, hcell⟩ := T.cell
  have hcb : base.get? cc = some ⟨cl, cld, .cell (some (.ref D)), csl⟩ := e0.mod.kin _ _ hcell
  have CA : CellsAt F.cl ["__class__"] [none] s.heap H := by
    rw [T.cls]
    have one : ∀ {y : Str} {c : Addr}, List.lookup y [(("__class__" : Str), cc)] = some c → y = "__class__" ∧ c = cc := fun {y c} z => by
      by_cases hy : y = ("__class__" : Str)
      · subst hy
        rw [List.lookup_cons_self] at z
        exact ⟨rfl, (Option.some.inj z).symm⟩
      · have q : (y == ("__class__" : Str)) = false := by simpa using hy
        rw [List.lookup_cons, q] at z
        cases z
    refine ⟨rfl, fun y c z => ?_, fun x y c z1 z2 => (one z1).1.trans (one z2).1.symm, fun i y z => ?_⟩
    · obtain ⟨_, rfl⟩ := one z
      exact ⟨(e0.bs _ _ hcb).2, _, _, (e0.bs _ _ hcb).1, rfl⟩
    · match i with
      | 0 =>
        simp at z
        subst z
        exact ⟨cc, List.lookup_cons_self, fun v z => by simp at z⟩
      | i + 1 => simp at z
  refine ks_codeAny_call_defAt (fd := PySem.W.ksFn F.name F.qual F.params F.body F.scope .none .none doc pm an (.ref F.c) ct cc) (body := F.body) (binds := ps.zip us) hr.depth (kin _ _ hf) rfl lim (PySem.W.codeRec_of kin T.cd) rfl (hb _ _ _ _)
    S.nocell (fun ⟨n, _⟩ hy => S.par n (List.of_mem_zip hy).1) (fun h₁ hns kp => ?_) S.co S.gen S.kind
  have I : Inv (ncx CX P w K mg base N F f A outer s H E) [] (startF N vs [none]) H { s with heap := h₁, toks := s.toks + (ps.zip us).length } := inv_startN S hr.hd e0 hl r CA hns kp
  have env_eq : callEnv (PySem.W.ksFn F.name F.qual F.params F.body F.scope .none .none doc pm an (.ref F.c) ct cc) s.heap.objs.size f = envF F f s.heap.objs.size := by
    show PySem.W.envX _ _ _ _ _ [(("__class__" : Str), cc)] = PySem.W.envX _ _ _ _ _ F.cl
    rw [T.cls]
  rw [env_eq]
  show PySem.wpAt (model P w) (ncx CX P w K mg base N F f A outer s H E).A (.func F.body (envF F f s.heap.objs.size)) (execs F.body (envF F f s.heap.objs.size)) _ _ _
  rw [hbody]
  refine ks_wpAt_execs_cons ?_
  have hs0 : (startF N vs [none])[0]? = some (some (.ref a)) := by
    unfold startF
    cases vs with
    | nil => simp at h0
    | cons v vs =>
      simp at h0
      subst h0
      rfl
  refine sup_stmt (X := ncx CX P w K mg base N F f A outer s H E) (Ex := (ncx CX P w K mg base N F f A outer s H E).xe) T VC rfl I hN hs0 ha he (fun _ _ z => z) hq (fun H1 s1 I1 q1 => ?_) (hce _) (hst _)
  refine wpAt_of_wpAny (wpAny_mono (hrest.run [] s1 (startF N vs [none]) H1 _ I1 q1) (fun fl s' hs => ?_) fun e s' hs => hs)
  have fin : ∀ {σ' : L2.St} {H' : Hp} {v : V} {u : Value}, Inv (ncx CX P w K mg base N F f A outer s H E) [] σ' H' s' → L2.RelV v u → Q v H' → CE outer P w H s Q u s' :=
    fun {σ' H' v u} J rv q => ⟨v, H', J.os, J.bare, J.base, J.hok, rv, q⟩
  cases fl with
  | ret u =>
    obtain ⟨v, σ', H', J, rv, q⟩ := hs
    exact fin J rv q
  | next =>
    obtain ⟨σ', H', J, q⟩ := hs
    exact fin (v := V.non) (u := Value.none) J rfl q
  | brk =>
    obtain ⟨_, _, _, q⟩ := hs
    exact False.elim q
  | cont =>
    obtain ⟨_, _, _, q⟩ := hs
    exact False.elim q
end
/-- a value that an error's message may tell -/
def Tells (v : V) : Prop := (∃ y : Str, v = .str y ∧ y.length ≤ 100000) ∨ ∃ i : Int, v = .int i ∧ i.natAbs.log2 < 1920
/-- C(f = e) -/
def tMkW (C : Addr) (fld : Str) (te : TA) : L2.St → Hp → XK → Prop := fun σ H Q => te σ H fun xs H1 => ∃ v, xs = [v] ∧ Tells v ∧ ∀ d, H1 d = none → Q (.ref C) (some d) (upd H1 d (.xd [(fld, v)]))
section
variable {X : Cx} {CX : CXT} {C f cc D : Addr} {F : NF} {k : Nat} {fld x : Str} {e msg : Expr} {kws : List Keyword} {te : TA} {p pos p0 p1 p2 p3 p4 r1 r2 r3 r4 : Pos} {pl : Sem Bool}
theorem pmk_kw (T : SupTxt X.prog X.K X.mg F f cc D) (VC : SupCls X.K C D) (XC : XfC X.K C) (hno : PySem.W.findIn X.K (.ref C) fld = some none)
    (iC : PySem.W.findIn X.K (.ref C) "__init__" = some (some (.ref f))) (tI : PySem.W.typeIn X.K (.ref f) = some (.type "function"))
    (S : NScope ["self", fld, "__class__"] ["self", fld] ["__class__"] F.scope) (hr : Room (k + 2) X.A) (hx : Passes CX X (fun _ _ _ => False)) (hg : Gl X x) (hm : X.mg x = some (.ref C))
    (hkw : PK X kws te) (hall : (backToKw pos (keywordEach kws X.env)).all (·.1.isSome) = true) (hks : (backToKw pos (keywordEach kws X.env)).filterMap (·.1) = [fld])
    (hpl : ((backTo pos (starEach [] X.env)).any (·.1) || (backToKw pos (keywordEach kws X.env)).any (·.1.isNone)) = false)
    (hbody : F.body = [.Expr (.Call (.Attribute (.Call (.Name "super" p0) [] [] p1) "__init__" p2) [msg] [] p3) p4, .Assign [.Attribute (.Name "self" r1) fld r2] (.Name fld r3) r4])
    (hb : ∀ (s : Shared) (doc pm : Value) (an : Option Addr) (ct : Value) (xa : Addr) (u : Value), BindsTo s (PySem.W.ksFn F.name F.qual F.params F.body F.scope .none .none doc pm an (.ref F.c) ct cc) ⟨[.ref xa], [(fld, u)]⟩ [(("self" : Str), .ref xa), (fld, u)])
    (hmsg : ∀ (A : Around) (outer : List Env) (s : Shared) (H : Hp) (E : XK) (xa : Addr) (v : V), Tells v → ∃ tm, PA (ncx CX X.prog X.w X.K X.mg X.base ["self", fld, "__class__"] F f A outer s H E) [msg] tm ∧
      ∀ R : List V → Hp → Prop, (∀ y : Str, R [.str y] H) → tm (startF ["self", fld, "__class__"] [.ref xa, v] [none]) H R)
    (hce : ∀ L : Addr, eval (.Call (.Attribute (.Call (.Name "super" p0) [] [] p1) "__init__" p2) [msg] [] p3) (envF F f L) = (do
      let ov ← attributeBase (.Call (.Name "super" p0) [] [] p1) "__init__" (envF F f L) (eval (.Call (.Name "super" p0) [] [] p1) (envF F f L))
      standAt p2.atName
      let (fx, first) ← holding [ov] (getMethod ov "__init__" pl)
      callWith p3 fx first (backTo p3 (starEach [msg] (envF F f L))) []))
    (hst : ∀ L : Addr, starEach [msg] (envF F f L) = (false, eval msg (envF F f L)) :: starEach [] (envF F f L))
    (hsw : ∀ L : Addr, swapsWith (.Name fld r3) (some (.Attribute (.Name "self" r1) fld r2)) r4.line (envF F f L) = pure false)
    (hf1 : (fld == ("__debug__" : Str)) = false := by decide) (hf2 : (fld == ("__classdict__" : Str)) = false := by decide)
    (hdb : (x == ("__debug__" : Str)) = false := by decide) : PMk X (.Call (.Name x p) [] kws pos) (tMkW C fld te) := by
  intro pins s σ H Q I h
  obtain ⟨nm, q, N, bs, bm, sn, sub, ab, col, dd, k0, k1, k2, k3, k5, hC, hbm⟩ := VC.o.cls
  refine wpAny_Call_Name_kw (ld_glob I hg hm ?_ hdb)
  refine PySem.W.callWith_KW0 (h₀ := X.base) I.ok.mod.kin VC.o.kC hall ?_ hpl
  refine thn (hkw.run pos pins s σ H _ I h) fun ws s1 ⟨zs, H1, I1, rz, v, ezs, hv, q1⟩ => ⟨I1.kIn, ?_⟩
  subst ezs
  cases rz with
  | @cons _ u _ _ rv rn =>
  cases rn
  rw [hks]
  obtain ⟨hp, g, dr, tk, os⟩ := s1
  have hsz : hp.objs.size ≤ hp.objs.size + 1 := Nat.le_succ _
  have hn : H1 (hp.objs.size + 1) = none := I1.hok.fresh hsz
  generalize ha : hp.objs.size + 1 = a at hn hsz
  have kk : ∀ b o, hp.get? b = some o → ((hp.push (PySem.W.kdv_tup [])).push (PySem.HandSPX.excO C hp.objs.size)).get? b = some o := fun b o e => Heap.get?_push_of_some _ (Heap.get?_push_of_some _ e)
  have hget : ((hp.push (PySem.W.kdv_tup [])).push (PySem.HandSPX.excO C hp.objs.size)).get? a = some (PySem.HandSPX.excO C hp.objs.size) := by
    rw [← ha]
    heap_get
  generalize hh2 : (hp.push (PySem.W.kdv_tup [])).push (PySem.HandSPX.excO C hp.objs.size) = h2 at kk hget
  have I2 : Inv X pins σ (upd H1 a (exo a C none)) ⟨h2, g, dr, tk, os⟩ := I1.laid (t' := tk) (a := a) (o := exo a C none) (h' := h2) kk hsz (exo_ok hget)
  obtain ⟨tm, hpm, htm⟩ := hmsg (X.A.under (.builtin "type.__call__" ⟨[.ref C], [(fld, u)]⟩)) X.stack ⟨h2, g, dr, tk, os⟩ (upd H1 a (exo a C none)) (fun _ _ _ => False) a v hv
  refine wpAny_call (ShX.call_kw PySem.F.excBase_ValueError (fun Y => PySem.HandSPX.refsVE_contains Y bm hbm) (I1.kIn _ _ hC) (PySem.W.looks_findIn I1.kIn iC) (fun self => PySem.W.bind_fn I1.kIn self tI) ?_)
  rw [ha, hh2]
  have vis0 : Vis F.scope ("self" : Str) := .inl (S.par _ List.mem_cons_self)
  have vis1 : Vis F.scope fld := .inl (S.par _ (List.mem_cons_of_mem _ List.mem_cons_self))
  refine codeAny_mono (run_sup (CX := CX) (k := k) (N := ["self", fld, "__class__"]) (ps := ["self", fld]) (us := [.ref a, u]) (vs := [.ref a, v]) (E := fun _ _ _ => False)
    (Q := fun r H2 => r = .non ∧ ∃ (d : Addr) (fs : List (Str × V)), H2 a = some (exo a C (some d)) ∧ H2 d = some (exd d fs) ∧ H1 d = none ∧ Q (.ref C) (some d) (upd (del H2 a) d (.xd fs)))
    T VC S (hr.make C [] _) (I2.env0.make C [] _) ?_ rfl (.cons rfl (.cons rv .nil)) rfl rfl upd_same hbody hpm
    (pss_one (ps_ost (pe_var (i := 0) rfl vis0) (pe_var (i := 1) rfl vis1 hf1 hf2) (hsw _))) ?_ hce hst) fun r s' hq' => ?_
  · intro doc pm an ct
    exact hb _ doc pm an ct a u
  · refine htm _ fun y => ⟨by simp, upd_same, v, rfl, .ref a, rfl, a, C, rfl, VC.o, hno, .inl ⟨upd_same, fun dx hdx ndx => ?_⟩⟩
    have hdx1 : H1 dx = none := by
      rw [upd_ne ndx] at hdx
      exact hdx
    refine ⟨rfl, dx, [(fld, v)], upd_same, ?_, hdx1, ?_⟩
    · rw [upd_ne ndx, upd_same]
    · have eH : upd (del (upd (upd (upd H1 a (exo a C none)) dx (exd dx [(fld, v)])) a (exo a C (some dx))) a) dx (.xd [(fld, v)]) = upd H1 dx (.xd [(fld, v)]) := by
        funext b
        by_cases h1 : b = dx
        · rw [h1, upd_same, upd_same]
        · rw [upd_ne h1, upd_ne h1]
          by_cases h2 : b = a
          · rw [h2, del_same, hn]
          · rw [del_ne h2, upd_ne h2, upd_ne h1, upd_ne h2]
      rw [eH]
      exact q1 dx hdx1
  · cases r with
    | error er => exact hx pins σ _ _ er s' I2 hq'
    | ok fl =>
      cases fl with
      | ret uu =>
        obtain ⟨vv, H2, os2, bare2, un2, hok2, rv2, ev, d2, fs, ea, ed, hd1, q2⟩ := hq'
        subst ev
        obtain ⟨h3, g2, dr2, t2, os'⟩ := s'
        exact ⟨rv2, mk_end (raises_own VC.o.exC VC.o.tyC) I1 hsz kk un2 hok2 os2 bare2 ea ed hd1 q2⟩
      | next => exact False.elim hq'
      | brk => exact False.elim hq'
      | cont => exact False.elim hq'
end
end Sho
set_option Elab.async false
set_option linter.all false
set_option maxRecDepth 100000
set_option maxHeartbeats 2000000
/-! The head of a law with facts: defs with and without a closure, Bools of the written part, empty tables of code objects left out. -/
namespace Shh
open PySem PySem.Spec PyProof.Rows L2 He Sho
abbrev Fr : Type := PySem.W.Frag
/-! ### a def -/
abbrev FnS : Type := Option (Str × Str × Arguments × FuncBody × Scope)
def fnS (K : Fr) (a : Addr) : FnS := match K.lookup a with
  | some ⟨_, _, .func fd, _⟩ => some (fd.name, fd.qualname, fd.params, fd.body, fd.scope)
  | _ => none
def noneB : Value → Bool
  | .none => true
  | _ => false
theorem noneB_ok {v : Value} (h : noneB v = true) : v = .none := by
  cases v with
  | none => rfl
  | _ => cases h
def fnB (K : Fr) (a : Addr) (q : Str) (cl : List (Str × Addr)) : Bool := match K.lookup a with
  | some ⟨_, _, .func fd, _⟩ => decide (fd.globals = mainGlobals) && (decide (fd.closure = cl) && (decide (fd.builtins = builtinsNs) && (noneB fd.defaults && (noneB fd.kwdefaults && PySem.W.codeIn K fd.code q))))
  | _ => false
def codeA (K : Fr) (a : Addr) : Addr := match K.lookup a with
  | some ⟨_, _, .func fd, _⟩ => (match fd.code with
    | .ref c => c
    | _ => 0)
  | _ => 0
/-- the first cell of a function's closure -/
def cellA (K : Fr) (a : Addr) : Addr := match K.lookup a with
  | some ⟨_, _, .func fd, _⟩ => (match fd.closure with
    | (_, c) :: _ => c
    | _ => 0)
  | _ => 0
structure FunF (K : Fr) (x qual : Str) (st : Stmt) (cl : List (Str × Addr)) (f : Addr) : Prop where
  ex : ∃ (oc : Value) (od : Option Addr) (doc pm : Value) (an : Option Addr) (ct : Value) (osl : Array (Option Value)),
    K.lookup f = some ⟨oc, od, .func (PySem.W.fnX x qual (defArgs st) (defBody st) (defScope st) cl .none .none doc pm an (.ref (codeA K f)) ct), osl⟩ ∧ PySem.W.codeIn K (.ref (codeA K f)) qual = true
/-- one def: where it stands, its name, qualified name, statement, closure -/
structure Dn where
  at_ : Fr → Addr
  name : Str
  qual : Str
  st : Stmt
  cl : Fr → List (Str × Addr) := fun _ => []
def Dn.val (d : Dn) : FnS := some (d.name, d.qual, defArgs d.st, .stmts (defBody d.st), defScope d.st)
def Dn.ok (K : Fr) (d : Dn) : Bool := fnB K (d.at_ K) d.qual (d.cl K)
theorem Dn.funF {K : Fr} {d : Dn} (e : fnS K (d.at_ K) = d.val) (c : d.ok K = true) : FunF K d.name d.qual d.st (d.cl K) (d.at_ K) := by
  unfold Dn.ok fnB at c
  unfold fnS at e
  have ec : ∀ fd oc od osl, K.lookup (d.at_ K) = some ⟨oc, od, .func fd, osl⟩ → ∀ c, fd.code = .ref c → codeA K (d.at_ K) = c := fun fd oc od osl q c h => by
    unfold codeA
    rw [q]
    show (match fd.code with | .ref c => c | _ => 0) = c
    rw [h]
  cases q : K.lookup (d.at_ K) with
  | none =>
    rw [q] at c
    cases c
  | some o =>
    obtain ⟨oc, od, dt, osl⟩ := o
    rw [q] at c e
    cases dt with
    | func fd =>
      have ec' := ec fd oc od osl q
      obtain ⟨n1, n2, n3, n4, n5, n6, n7, n8, n9, n10, n11, n12, n13, n14, n15⟩ := fd
      have e2 : (some (n1, n2, n3, n4, n5) : FnS) = some (d.name, d.qual, defArgs d.st, .stmts (defBody d.st), defScope d.st) := e
      simp only [Option.some.injEq, Prod.mk.injEq] at e2
      obtain ⟨h1, h2, h3, h4, h5⟩ := e2
      obtain ⟨c1, c⟩ := ba c
      obtain ⟨c2, c⟩ := ba c
      obtain ⟨c3, c⟩ := ba c
      obtain ⟨c4, c⟩ := ba c
      obtain ⟨c5, c6⟩ := ba c
      have g1 : n6 = mainGlobals := of_decide_eq_true c1
      have g2 : n7 = d.cl K := of_decide_eq_true c2
      have g3 : n15 = builtinsNs := of_decide_eq_true c3
      have g4 : n8 = .none := noneB_ok c4
      have g5 : n9 = .none := noneB_ok c5
      obtain ⟨cc, hc⟩ := codeIn_ref c6
      have hc' : n13 = .ref cc := hc
      have e3 := ec' cc hc'
      subst h1 h2 h3 h4 h5 g1 g2 g3 g4 g5 hc'
      exact ⟨oc, od, n10, n11, n12, n14, osl, by rw [e3]; exact q, by rw [e3]; exact c6⟩
    | _ => cases c
/-! ### the Hook -/
def okAll (fa : List (Fr → Bool)) (fn : List Dn) (K : Fr) : Bool := (fa.all fun f => f K) && fn.all fun d => d.ok K
def tabsS (g : Addr → Option Obj) (tf : List (Fr → Addr)) (K : Fr) : Bool := tf.all fun p => PySem.W.codeHdIn K (codeA K (p K)) (tabOf K (codeA K (p K))) && (match g (tabOf K (codeA K (p K))) with
  | some o => emptyTab o
  | none => false)
def fragS (n : Nat) (g : Addr → Option Obj) : Fr := frT g (asD g n ++ [cStatics])
abbrev AlS : Type := Bool × List FnS
def obsS (n : Nat) (fa : List (Fr → Bool)) (fn : List Dn) (tf : List (Fr → Addr)) (g : Addr → Option Obj) : AlS := (okAll fa fn (fragS n g) && tabsS g tf (fragS n g), fn.map fun d => fnS (fragS n g) (d.at_ (fragS n g)))
def valS (fn : List Dn) : AlS := (true, fn.map Dn.val)
structure SaysS (fa : List (Fr → Bool)) (fn : List Dn) (tf : List (Fr → Addr)) (h : Heap) (K : Fr) : Prop where
  fa : ∀ f ∈ fa, f K = true
  fn : ∀ d ∈ fn, FunF K d.name d.qual d.st (d.cl K) (d.at_ K)
  hd : ∀ p ∈ tf, PySem.W.codeHdIn K (codeA K (p K)) (tabOf K (codeA K (p K))) = true
  out : ∀ p ∈ tf, K.lookup (tabOf K (codeA K (p K))) = none
  empty : ∀ p ∈ tf, h.get? (tabOf K (codeA K (p K))) = some { cls := .none, data := .fields #[] }
theorem saysS_of {n : Nat} {fa : List (Fr → Bool)} {fn : List Dn} {tf : List (Fr → Addr)} {h : Heap} (e : obsS n fa fn tf h.get? = valS fn) : SaysS fa fn tf h (fragS n h.get?) := by
  have e1 : (okAll fa fn (fragS n h.get?) && tabsS h.get? tf (fragS n h.get?)) = true := congrArg (fun z : AlS => z.1) e
  have e2 : (fn.map fun d => fnS (fragS n h.get?) (d.at_ (fragS n h.get?))) = fn.map Dn.val := congrArg (fun z : AlS => z.2) e
  obtain ⟨h1, h2⟩ := ba e1
  obtain ⟨h3, h4⟩ := ba h1
  have key : ∀ p ∈ tf, PySem.W.codeHdIn (fragS n h.get?) (codeA (fragS n h.get?) (p (fragS n h.get?))) (tabOf (fragS n h.get?) (codeA (fragS n h.get?) (p (fragS n h.get?)))) = true ∧
      ∃ o, h.get? (tabOf (fragS n h.get?) (codeA (fragS n h.get?) (p (fragS n h.get?)))) = some o ∧ emptyTab o = true := fun p hp => by
    obtain ⟨h5, h6⟩ := ba (List.all_eq_true.mp h2 p hp)
    refine ⟨h5, ?_⟩
    cases q : h.get? (tabOf (fragS n h.get?) (codeA (fragS n h.get?) (p (fragS n h.get?)))) with
    | none =>
      rw [q] at h6
      cases h6
    | some o =>
      rw [q] at h6
      exact ⟨o, rfl, h6⟩
  refine ⟨fun f hf => List.all_eq_true.mp h3 f hf, fun d hd => ?_, fun p hp => (key p hp).1, fun p hp => ?_, fun p hp => ?_⟩
  · obtain ⟨i, hi, ei⟩ := List.mem_iff_getElem.mp hd
    have e3 : (fn.map fun d => fnS (fragS n h.get?) (d.at_ (fragS n h.get?)))[i]? = (fn.map Dn.val)[i]? := by rw [e2]
    rw [List.getElem?_map, List.getElem?_map, List.getElem?_eq_getElem hi, ei] at e3
    exact Dn.funF (Option.some.inj e3) (List.all_eq_true.mp h4 d hd)
  · obtain ⟨_, o, q, z⟩ := key p hp
    exact frT_none q z
  · obtain ⟨_, o, q, z⟩ := key p hp
    rw [q, emptyTab_eq z]
def hookS (n : Nat) (fa : List (Fr → Bool)) (fn : List Dn) (tf : List (Fr → Addr)) : PySem.W.Hook where
  α := AlS
  obs := fun s => obsS n fa fn tf s.heap.get?
  val := fun _ => valS fn
  says := fun _ h => ∃ K : PySem.W.Frag, K.In h ∧ SaysS fa fn tf h K
  of := fun _ _ e => ⟨_, frT_in, saysS_of e⟩
  keeps := fun _ _ _ ⟨K, hK, c⟩ k => ⟨K, PySem.W.Frag.In.keeps hK k, ⟨c.fa, c.fn, c.hd, c.out, fun p hp => k _ _ (c.empty p hp)⟩⟩
theorem obsS_eq {n : Nat} {fa : List (Fr → Bool)} {fn : List Dn} {tf : List (Fr → Addr)} {g : Addr → Option Obj} {s : Shared} (h : ∀ a, g a = s.heap.get? a) : obsS n fa fn tf g = (hookS n fa fn tf).obs s := by
  have e : g = s.heap.get? := funext h
  rw [e] <;> rfl
section
variable {fa : List (Fr → Bool)} {fn : List Dn} {tf : List (Fr → Addr)} {h : Heap} {K : Fr}
theorem SaysS.fact (c : SaysS fa fn tf h K) (i : Nat) {f : Fr → Bool} (e : fa[i]? = some f := by rfl) : f K = true := c.fa f (List.mem_of_getElem? e)
theorem SaysS.def_ (c : SaysS fa fn tf h K) (i : Nat) {d : Dn} (e : fn[i]? = some d := by rfl) : FunF K d.name d.qual d.st (d.cl K) (d.at_ K) := c.fn d (List.mem_of_getElem? e)
end
/-! ### names of the module -/
section
variable {K : Fr} {h : Heap} {mg : Str → Option Value}
def gloB (K : Fr) (xs : List Str) : Bool := xs.all fun x => eqO (PySem.W.nsIn K mainGlobals x) (some (some (.ref (ga K x))))
theorem gloB_ok (X : K.In h) (G : h.Ns mainGlobals mg) {xs : List Str} (c : gloB K xs = true) {x : Str} (hx : x ∈ xs) : mg x = some (.ref (ga K x)) := PySem.W.mg_of X G (eqO_ok (List.all_eq_true.mp c x hx))
def freeB (K : Fr) (xs : List Str) : Bool := xs.all fun x => eqO (PySem.W.nsIn K mainGlobals x) (some none)
theorem freeB_ok (X : K.In h) (G : h.Ns mainGlobals mg) {xs : List Str} (c : freeB K xs = true) {x : Str} (hx : x ∈ xs) : mg x = none := PySem.W.mg_none_of X G (eqO_ok (List.all_eq_true.mp c x hx))
def keepB (K : Fr) (xs : List Str) : Bool := xs.all fun x => PySem.W.keepIn K (.ref (ga K x))
theorem keepB_ok {xs : List Str} (c : keepB K xs = true) {x : Str} (hx : x ∈ xs) : PySem.W.keepIn K (.ref (ga K x)) = true := List.all_eq_true.mp c x hx
end
/-! ### an own error whose __init__ says super().__init__(text) and stores a field -/
def oexB (K : Fr) (C : Addr) : Bool := match K.lookup C with
  | some ⟨.type t, _, .cls cd, sl⟩ => decide (t = "type") && (decide (cd.mro.head? = some (.ref C)) && (PySem.HandSPX.refsVE cd.mro.tail && (cd.hasDict && (!cd.hasDel && (match sl.toList with
    | [_, _, _, _, some (.builtin n), _] => decide (n = "ValueError.__new__")
    | _ => false)))))
  | _ => false
theorem oexB_ok {K : Fr} {C : Addr} (h : oexB K C = true) : ∃ nm q N bs bm sn sub ab col dd k0 k1 k2 k3 k5, K.lookup C = some (excClassObj nm q C N bs bm true sn sub ab col dd k0 k1 k2 k3 k5 "ValueError.__new__") ∧ PySem.HandSPX.refsVE bm = true := by
  unfold oexB at h
  split at h
  · rename_i t dd cd sl e
    obtain ⟨h1, h⟩ := ba h
    obtain ⟨h2, h⟩ := ba h
    obtain ⟨h3, h⟩ := ba h
    obtain ⟨h4, h⟩ := ba h
    obtain ⟨h5, h6⟩ := ba h
    split at h6
    · rename_i k0 k1 k2 k3 n k5 hs
      obtain ⟨nm, bs, mro, N, q, hd, sn, sub, ab, col, hdel⟩ := cd
      have a1 : t = "type" := of_decide_eq_true h1
      have a2 : mro.head? = some (.ref C) := of_decide_eq_true h2
      have a4 : hd = true := h4
      have a5 : hdel = false := by
        cases z : hdel with
        | false => rfl
        | true =>
          have h5' : (!hdel) = true := h5
          rw [z] at h5'
          cases h5'
      have a6 : n = "ValueError.__new__" := of_decide_eq_true h6
      have a7 : sl = #[k0, k1, k2, k3, some (.builtin n), k5] := by
        have z : sl.toList.toArray = [k0, k1, k2, k3, some (.builtin n), k5].toArray := by rw [hs]
        simpa using z
      cases mro with
      | nil => cases a2
      | cons m0 bm =>
        have a8 : m0 = .ref C := Option.some.inj a2
        subst a1 a4 a5 a6 a7 a8
        exact ⟨nm, q, N, bs, bm, sn, sub, ab, col, dd, k0, k1, k2, k3, k5, e, h3⟩
    · cases h6
  · cases h
def cellB (K : Fr) (cc C : Addr) : Bool := match K.lookup cc with
  | some ⟨_, _, .cell (some (.ref D)), _⟩ => decide (D = C)
  | _ => false
theorem cellB_ok {K : Fr} {cc C : Addr} (h : cellB K cc C = true) : ∃ (cl : Value) (cld : Option Addr) (csl : Array (Option Value)), K.lookup cc = some ⟨cl, cld, .cell (some (.ref C)), csl⟩ := by
  unfold cellB at h
  split at h
  · rename_i cl cld D csl e
    rw [of_decide_eq_true h] at e
    exact ⟨cl, cld, csl, e⟩
  · cases h
def fileB (K : Fr) (c : Addr) (file : Str) : Bool := match K.lookup c with
  | some ⟨_, _, .fields vs, _⟩ => (match (vs[2]? : Option Value) with
    | some (.str fl _) => file == fl
    | _ => false)
  | _ => false
theorem fileB_ok {K : Fr} {c : Addr} {file : Str} (h : fileB K c file = true) : ∃ (oc : Value) (od : Option Addr) (vs : Array Value) (sl : Array (Option Value)) (fl : Str) (tf : Tok), K.lookup c = some ⟨oc, od, .fields vs, sl⟩ ∧ vs[2]? = some (.str fl tf) ∧ (file == fl) = true := by
  unfold fileB at h
  split at h
  · rename_i oc od vs sl e
    split at h
    · rename_i fl tf e2
      exact ⟨oc, od, vs, sl, fl, tf, e, e2, h⟩
    · cases h
  · cases h
/-- where an error's __init__ stands -/
def eInit (K : Fr) (x : Str) : Addr := ma K (ga K x) "__init__"
def errB (file : Str) (K : Fr) (x fld : Str) : Bool :=
  oexB K (ga K x) && (cellB K (cellA K (eInit K x)) (ga K x) && (fileB K (codeA K (eInit K x)) file && (PySem.W.isClsIn K (ga K x) && (eqO (PySem.W.nsIn K cStatics "thirdparty.any") (some none) &&
  (decide (PySem.W.mroIn K (ga K x) (.ref (ga K x)) = some true) && (eqO (PySem.W.ks_superIn K (ga K x) (ga K x) "__init__") (some (some (.builtin ShX.veI))) && (decide (PySem.W.subIn K (.ref (ga K x)) (.type "ValueError") = some true) &&
  (xfB K (ga K x) && (eqO (PySem.W.findIn K (.ref (ga K x)) fld) (some none) && (decide (PySem.W.exmOne K (.ref (ga K x)) (.ref (ga K x)) = some true) && (eqO (PySem.W.findIn K (.ref (ga K x)) "__init__") (some (some (.ref (eInit K x)))) &&
  (decide (PySem.W.typeIn K (.ref (eInit K x)) = some (.type "function")) && (eqO (PySem.W.findIn K (.ref (ga K x)) "__setattr__") (some (some (.builtin "object.__setattr__"))) && (decide (PySem.W.subIn K (.ref (ga K x)) (.type "BaseException") = some true) &&
  (decide (PySem.W.typeIn K (.ref (ga K x)) = some (.type "type")) && PySem.W.keepIn K (.ref (ga K x)))))))))))))))))
section
variable {K : Fr} {h : Heap} {mg : Str → Option Value} {P : Program}
/-- the pieces of errB -/
structure ErrF (file : Str) (K : Fr) (x fld : Str) : Prop where
  oex : OexC K (ga K x)
  cell : ∃ (cl : Value) (cld : Option Addr) (csl : Array (Option Value)), K.lookup (cellA K (eInit K x)) = some ⟨cl, cld, .cell (some (.ref (ga K x))), csl⟩
  file : ∃ (oc : Value) (od : Option Addr) (vs : Array Value) (sl : Array (Option Value)) (fl : Str) (tf : Tok), K.lookup (codeA K (eInit K x)) = some ⟨oc, od, .fields vs, sl⟩ ∧ vs[2]? = some (.str fl tf) ∧ (file == fl) = true
  isC : PySem.W.isClsIn K (ga K x) = true
  opq : PySem.W.nsIn K cStatics "thirdparty.any" = some none
  sup : SupCls K (ga K x) (ga K x)
  xf : XfC K (ga K x)
  no : PySem.W.findIn K (.ref (ga K x)) fld = some none
  exm : PySem.W.exmOne K (.ref (ga K x)) (.ref (ga K x)) = some true
  ini : PySem.W.findIn K (.ref (ga K x)) "__init__" = some (some (.ref (eInit K x)))
  ity : PySem.W.typeIn K (.ref (eInit K x)) = some (.type "function")
theorem errB_ok {file x fld : Str} (c : errB file K x fld = true) : ErrF file K x fld := by
  obtain ⟨c1, c⟩ := ba c
  obtain ⟨c2, c⟩ := ba c
  obtain ⟨c3, c⟩ := ba c
  obtain ⟨c4, c⟩ := ba c
  obtain ⟨c5, c⟩ := ba c
  obtain ⟨c6, c⟩ := ba c
  obtain ⟨c7, c⟩ := ba c
  obtain ⟨c8, c⟩ := ba c
  obtain ⟨c9, c⟩ := ba c
  obtain ⟨c10, c⟩ := ba c
  obtain ⟨c11, c⟩ := ba c
  obtain ⟨c12, c⟩ := ba c
  obtain ⟨c13, c⟩ := ba c
  obtain ⟨c14, c⟩ := ba c
  obtain ⟨c15, c⟩ := ba c
  obtain ⟨c16, c17⟩ := ba c
  have O : OexC K (ga K x) := ⟨oexB_ok c1, eqO_ok c14, of_decide_eq_true c15, of_decide_eq_true c16, c17⟩
  exact ⟨O, cellB_ok c2, fileB_ok c3, c4, eqO_ok c5, ⟨O, of_decide_eq_true c6, eqO_ok c7, of_decide_eq_true c8⟩, xfB_ok c9, eqO_ok c10, of_decide_eq_true c11, eqO_ok c12, of_decide_eq_true c13⟩
/-- the text of its __init__ -/
theorem err_txt {file x fld qual : Str} {st : Stmt} (E : ErrF file K x fld) (D : FunF K "__init__" qual st [(("__class__" : Str), cellA K (eInit K x))] (eInit K x)) (hf : P.main.file = file) (sup : mg "super" = none)
    (h1 : ∃ ar : Arg, ((defArgs st).posonlyargs ++ (defArgs st).args).head? = some ar ∧ ar.arg = ("self" : Str)) (h2 : (P.main.scope.names.lookup ("super" : Str)).isSome = false)
    (h3 : (defScope st).names.lookup ("super" : Str) = some .globalImplicit) (h4 : (defScope st).names.lookup ("__class__" : Str) = some .free) (h5 : (defScope st).names.lookup ("self" : Str) = some .local) :
    SupTxt P K mg ⟨"__init__", qual, defArgs st, defBody st, defScope st, [(("__class__" : Str), cellA K (eInit K x))], codeA K (eInit K x)⟩ (eInit K x) (cellA K (eInit K x)) (ga K x) := by
  obtain ⟨oc, od, doc, pm, an, ct, osl, lk, hcd⟩ := D.ex
  exact ⟨⟨oc, od, doc, pm, an, ct, osl, lk⟩, hcd, E.cell, rfl, by rw [hf]; exact E.file, h1, sup, h2, h3, h4, h5, E.isC, E.opq⟩
end
/-! ### an own error without a field, a property, an operator -/
def ernB (K : Fr) (x : Str) : Bool := PySem.W.excIn K (ga K x) veBase "ValueError.__new__" && (PySem.W.keepIn K (.ref (ga K x)) && (decide (PySem.W.subIn K (.ref (ga K x)) (.type "BaseException") = some true) && (decide (PySem.W.typeIn K (.ref (ga K x)) = some (.type "type")) &&
  decide (PySem.W.exmOne K (.ref (ga K x)) (.ref (ga K x)) = some true))))
/-- the getter of a property -/
def getA (K : Fr) (C : Addr) (m : Str) : Addr := He5.wf K C "property" m
def propB (K : Fr) (C : Addr) (m : Str) : Bool := eqO (PySem.W.findIn K (.ref C) m) (some (some (.ref (ma K C m)))) && (eqO (PySem.W.specialIn K (.ref (ma K C m)) "__get__") (some (some (.builtin "property.__get__"))) && (decide (PySem.W.takesIn K (.ref (ma K C m)) = some true) &&
  (match PySem.W.recIn K (ma K C m) "property" with
    | some (.ref _ :: _) => true
    | _ => false)))
theorem propB_ok {K : Fr} {C : Addr} {m : Str} (c : propB K C m = true) : PropOf K C m (ma K C m) (getA K C m) := by
  obtain ⟨c1, c⟩ := ba c
  obtain ⟨c2, c⟩ := ba c
  obtain ⟨c3, c4⟩ := ba c
  refine ⟨eqO_ok c1, eqO_ok c2, of_decide_eq_true c3, ?_⟩
  unfold getA He5.wf
  split at c4
  · rename_i f r e
    exact ⟨r, by rw [e]⟩
  · cases c4
/-- a def of the class under a name that Python itself looks up -/
def dunB (K : Fr) (C : Addr) (m : Str) : Bool := eqO (PySem.W.findIn K (.ref C) m) (some (some (.ref (ma K C m)))) && (PySem.W.isFn K (.ref (ma K C m)) && (PySem.W.fnIn K (ma K C m) && PySem.W.keepIn K (.ref (ma K C m))))
structure DunF (K : Fr) (C : Addr) (m : Str) : Prop where
  at_ : PySem.W.findIn K (.ref C) m = some (some (.ref (ma K C m)))
  isF : PySem.W.isFn K (.ref (ma K C m)) = true
  fn : PySem.W.fnIn K (ma K C m) = true
  kp : PySem.W.keepIn K (.ref (ma K C m)) = true
theorem dunB_ok {K : Fr} {C : Addr} {m : Str} (c : dunB K C m = true) : DunF K C m := by
  obtain ⟨c1, c⟩ := ba c
  obtain ⟨c2, c⟩ := ba c
  obtain ⟨c3, c4⟩ := ba c
  exact ⟨eqO_ok c1, c2, c3, c4⟩
theorem DunF.meth {K : Fr} {C : Addr} {m : Str} (d : DunF K C m) : Meth K C m (ma K C m) := ⟨d.at_, d.isF, d.kp⟩
theorem DunF.mkr {K : Fr} {C : Addr} (d : DunF K C "__init__") (m : PySem.W.makesIn K C = true) (k : PySem.W.keepIn K (.ref C) = true) : Mk K C (ma K C "__init__") := ⟨m, d.at_, d.isF, k⟩
theorem DunF.callO {K : Fr} {C : Addr} (d : DunF K C "__call__") : StX.CallO K C (ma K C "__call__") := ⟨d.at_, d.isF, d.fn⟩
/-! ### functions without a closure -/
section
variable {K : Fr} {x qual : Str} {st : Stmt} {f : Addr}
/-- its object -/
theorem FunF.funW (F : FunF K x qual st [] f) (kp : PySem.W.keepIn K (.ref f) = true) : ∃ fd, L2.Fun K x qual st f fd ∧ (∀ ps : List Str, (∀ (kV doc pm : Value) (an : Option Addr) (cdv ct : Value) (us : List Value), us.length = ps.length → bindArgs (PySem.W.fnOf x qual (defArgs st) (defBody st) (defScope st) .none kV doc pm an cdv ct) ⟨us, []⟩ = pure (ps.zip us)) → Binds K fd ps []) ∧
    ∀ ps : List Str, (∀ (kV doc pm : Value) (an : Option Addr) (cdv ct : Value) (us : List Value), us.length = ps.length → bindArgs (PySem.W.fnOf x qual (defArgs st) (defBody st) (defScope st) .none kV doc pm an cdv ct) ⟨us, []⟩ = pure (ps.zip us)) → ∀ (s : Shared) (us : List Value), us.length = ps.length → BindsTo s fd ⟨us, []⟩ (ps.zip us) := by
  obtain ⟨oc, od, doc, pm, an, ct, osl, lk, hcd⟩ := F.ex
  exact ⟨_, ⟨⟨oc, od, .none, doc, pm, an, _, ct, osl, rfl, lk, hcd⟩, kp⟩, fun ps h => .all (h .none doc pm an _ ct), fun ps h s us hl => .of_eq (h .none doc pm an _ ct us hl)⟩
end
end Shh
set_option Elab.async false
set_option linter.all false
set_option maxRecDepth 100000
set_option maxHeartbeats 2000000
/-! Lambdas as objects that are known: made (with a default or without), called. -/
namespace Sho
open PySem PySem.Spec PyProof.Rows L2 LamX NdefX

/-- a lambda's words: those of a def without a body, its expression, its defaults -/
structure LF where
  F : NF
  e : Expr
  dV : Value
abbrev LF.fd (Z : LF) (pm ctv : Value) : FuncData :=
  { PySem.W.kla_fn Z.F.name Z.F.qual Z.F.params Z.e Z.F.scope Z.F.cl pm (.ref Z.F.c) ctv with defaults := Z.dV }
/-- the object at f is that lambda -/
def LamO (f : Addr) (Z : LF) : HO :=
  .ext fun g => ∃ pm ctv : Value, g.get? f = some (({ cls := .type "function", data := .func (Z.fd pm ctv) }) : Obj)
theorem lamO_ne {f : Addr} {Z : LF} (qs : Array Value) : LamO f Z ≠ .tbl qs := fun h => nomatch h
theorem lamO_at {P : Program} {w : World} {H : Hp} {h : Heap} {f : Addr} {Z : LF} (ok : HOk P w H h) (hf : H f = some (LamO f Z)) :
    ∃ pm ctv : Value, h.get? f = some (({ cls := .type "function", data := .func (Z.fd pm ctv) }) : Obj) := by
  obtain ⟨x, _, _⟩ := ok f _ hf
  exact x
/-- nothing that was known is forgotten, but for the tables -/
structure Grows (T : List (Addr × Str)) (H H1 : Hp) : Prop where
  ext : ExtN H H1
  tab : Tabs T H → Tabs T H1
theorem Grows.rfl' {T : List (Addr × Str)} (H : Hp) : Grows T H H := ⟨ExtN.refl H, id⟩
theorem Grows.trans {T : List (Addr × Str)} {H H1 H2 : Hp} (a : Grows T H H1) (b : Grows T H1 H2) : Grows T H H2 := ⟨a.ext.trans b.ext, fun t => b.tab (a.tab t)⟩
theorem Grows.upd {T : List (Addr × Str)} {H : Hp} {p : Addr} {o : HO} (hp : H p = none) : Grows T H (L2.upd H p o) := by
  have e : ∀ b u, H b = some u → L2.upd H p o b = some u := fun b u q => (upd_ne (ne_of_none q hp)).trans q
  exact ⟨ExtN.of e, fun t => Tabs.ext t e⟩
/-- the words of a lambda that is made in X -/
abbrev mkLF (X : Cx) (params : Arguments) (body : Expr) (scope : Scope) (c' : Addr) (dV : Value) : LF :=
  ⟨⟨"<lambda>", X.env.qual ++ "<lambda>", params, [], scope, cloFrom X.env.cells scope.names [], c'⟩, body, dV⟩
section
variable {M : Model} {A : Around} {E : Value → Shared → Prop} {s : Shared}
/-- the making's end, the code object by a premise -/
theorem tail_d {name qual : Str} {params : Arguments} {body : Expr} {scope : Scope} {env : Env} {dV : Value} {pos : Pos} {fl : Nat} {clos : List (Str × Addr)} {mg : Str → Option Value} {Pl : Addr} {Q : Value → Shared → Prop}
    (hcl : closureFor scope env = pure clos) (hge : env.globals = mainGlobals)
    (h : ∀ h1 ctv, (∀ b o, s.heap.get? b = some o → h1.get? b = some o) → s.heap.objs.size ≤ h1.objs.size →
      wpAny M A (functionCode env pos fl name qual params scope (.expr body)) (fun cv s2 => s2.heap.Ns mainGlobals mg ∧ s2.heap.BuiltinsAt mg Pl ∧
        Q (.ref s2.heap.objs.size) { s2 with heap := s2.heap.push { cls := .type "function", data := .func { PySem.W.kla_fn name qual params body scope clos ((mg "__name__").getD .none) cv ctv with defaults := dV } } }) E { s with heap := h1 }) :
    wpAny M A (makeTail name qual params (.expr body) scope env dV .none none pos fl) Q E s := by
  unfold makeTail
  rw [hcl]
  refine wpAny_bind (wpAny_pure ?_)
  cases clos with
  | nil =>
    simp only [List.isEmpty_nil, if_true]
    refine wpAny_bind (wpAny_pure (wpAny_bind (wpAny_mono (h s.heap .none (fun _ _ e => e) (Nat.le_refl _)) (fun cv s2 x => ?_) fun _ _ x => x)))
    obtain ⟨g2, ⟨bm, ob, b1, b2, _, _, b5, b6, b7, b8⟩, q⟩ := x
    rw [hge]
    exact wpAny_bind (wpAny_builtinsFor g2 b1 b2 b5 b6 b7 b8 (wpAny_bind (wpAny_nsGet g2 (wpAny_bind (wpAny_pure (wpAny_newObj_type q (by size_fits)))))))
  | cons c r =>
    simp only [List.isEmpty_cons, Bool.false_eq_true, if_false]
    refine wpAny_bind (wpAny_newTextTuple (wpAny_bind (wpAny_mono (h _ (.ref s.heap.objs.size) (fun _ _ e => Heap.get?_push_of_some _ e) (by rw [Heap.size_push]; omega)) (fun cv s2 x => ?_) fun _ _ x => x)))
    obtain ⟨g2, ⟨bm, ob, b1, b2, _, _, b5, b6, b7, b8⟩, q⟩ := x
    rw [hge]
    exact wpAny_bind (wpAny_builtinsFor g2 b1 b2 b5 b6 b7 b8 (wpAny_bind (wpAny_nsGet g2 (wpAny_bind (wpAny_pure (wpAny_newObj_type q (by size_fits)))))))
end
section
variable {X : Cx} {pins : List (Addr × Obj)} {σ : L2.St} {H : Hp} {s : Shared}
theorem lamO_new {Z : LF} {tk : Nat} {pm ctv : Value} (I : Inv X pins σ H s) :
    Inv X pins σ (upd H s.heap.objs.size (LamO s.heap.objs.size Z))
      { s with heap := s.heap.push (({ cls := .type "function", data := .func (Z.fd pm ctv) }) : Obj), toks := tk } := by
  refine I.laid (fun b u e => Heap.get?_push_of_some _ e) (Nat.le_refl _) ?_
  have here : (s.heap.push (({ cls := .type "function", data := .func (Z.fd pm ctv) }) : Obj)).get? s.heap.objs.size = some (({ cls := .type "function", data := .func (Z.fd pm ctv) }) : Obj) :=
    Heap.get?_push_size _ rfl
  exact ⟨⟨pm, ctv, here⟩, ⟨_, here⟩, fun g1 g2 ⟨p, t, z⟩ st => ⟨p, t, st _ z⟩⟩

theorem lam_made {T : List (Addr × Str)} {c P : Addr} {params : Arguments} {body : Expr} {scope : Scope} {pos : Pos} {dV : Value} {E : Value → Shared → Prop} {Q : Value → Shared → Prop}
    (I : Inv X pins σ H s) (TB : TabB X.base X.mg c P) (hcode : X.env.code = .ref c)
    (hm : (P, X.env.qual ++ "<lambda>") ∈ T) (hu : ∀ p ∈ T, p.1 = P → p.2 = X.env.qual ++ "<lambda>") (hT : Tabs T H)
    (hcl : ∀ y ∈ scope.names, y.2 = .free → ∃ c, X.env.cells.lookup y.1 = some c)
    (h : ∀ (f c' : Addr) (H1 : Hp) (s' : Shared), Inv X pins σ H1 s' → Grows T H H1 → H f = none →
      H1 f = some (LamO f (mkLF X params body scope c' dV)) → H1 c' = some (CodeO c' (X.env.qual ++ "<lambda>")) → Q (.ref f) s') :
    wpAny (model X.prog X.w) X.A (makeTail "<lambda>" (X.env.qual ++ "<lambda>") params (.expr body) scope X.env dV .none none pos pos.line) Q E s := by
  obtain ⟨qs, hP, tri, among⟩ := (show TabS H P (X.env.qual ++ "<lambda>") from hT _ hm)
  refine tail_d (mg := X.mg) (Pl := P) (closure_ok hcl) I.ok.glob fun h1 ctv k1 z1 => ?_
  have I1 : Inv X pins σ H { s with heap := h1 } := I.kept (t' := s.toks) k1
  have hgP : h1.get? P = some { cls := .none, data := .fields qs } := I1.hok P _ hP
  have hbP := TB.bm.keeps I1.bk
  have CH := TB.code.keeps I1.bk
  cases hit : codeAmong pos qs.toList with
  | some cv =>
    obtain ⟨c', rfl, kc⟩ := among pos cv hit
    refine wpAny_functionCode_hit hcode (CH.code hgP tri) hit ⟨I1.mod.glob.keeps I1.bk, hbP, ?_⟩
    have nF : H h1.objs.size = none := I1.hok.fresh (Nat.le_refl _)
    exact h h1.objs.size c' _ _ (lamO_new (Z := mkLF X params body scope c' dV) (pm := (X.mg "__name__").getD .none) (ctv := ctv) (tk := s.toks) I1) (Grows.upd nF) nF upd_same
      ((upd_ne (ne_of_none kc nF)).trans kc)
  | none =>
    refine wpAny_functionCodeX hcode (CH.code hgP tri) (CH.tab hgP) hit fun c' h' tk hx hge hlt _ hrec htb _ => ?_
    have gl := (I1.mod.glob.keeps I1.bk).extBut hx TB.gP
    have bl : h'.BuiltinsAt X.mg P := by
      obtain ⟨bm, ob, b1, b2, b3, b4, b5, b6⟩ := hbP
      exact ⟨bm, ob, b1, b2, b3, b4, hx _ _ b4 b5, b6⟩
    refine ⟨gl, bl, ?_⟩
    obtain ⟨c2, oc, vs, t, e2, hoc, hd, hv⟩ := hrec
    cases e2
    have nC : H c' = none := I1.hok.fresh hge
    have J := inv_table (q := X.env.qual ++ "<lambda>") (t' := tk) (more := #[rawInt pos.line, rawInt pos.col, .ref c']) (h' := h') I1 hP (fun b o hb e => hx b o hb e) htb.2 hge ⟨oc, vs, t, hoc, hd, hv⟩
    generalize hH2 : L2.upd (L2.upd H P (.tbl (qs ++ #[rawInt pos.line, rawInt pos.col, .ref c']))) c' (CodeO c' (X.env.qual ++ "<lambda>")) = H2 at J
    have kC : H2 c' = some (CodeO c' (X.env.qual ++ "<lambda>")) := by rw [← hH2]; exact upd_same
    have ext : ExtN H H2 := fun b o e n => by
      have nP : b ≠ P := by
        rintro rfl
        exact n qs (Option.some.inj (e.symm.trans hP))
      rw [← hH2, upd_ne (ne_of_none e nC), upd_ne nP]
      exact e
    have eL : (qs ++ #[rawInt pos.line, rawInt pos.col, .ref c']).toList = qs.toList ++ [rawInt pos.line, rawInt pos.col, .ref c'] := by simp
    have tabs2 : Tabs T H2 := by
      intro p hp
      by_cases hb : p.1 = P
      · rw [hu p hp hb, hb]
        refine ⟨qs ++ #[rawInt pos.line, rawInt pos.col, .ref c'], ?_, ?_, ?_⟩
        · rw [← hH2, upd_ne (ne_of_none hP nC), upd_same]
        · rw [eL]
          exact PySem.TriplesOk_snoc _ _ _ _ tri
        · intro p' cv hcv
          rw [eL] at hcv
          rcases among_app _ tri hcv with z | z
          · obtain ⟨c0, f1, f2⟩ := among p' cv z
            exact ⟨c0, f1, ext _ _ f2 codeO_ne⟩
          · exact ⟨c', z, kC⟩
      · obtain ⟨qs', q1, q2, q3⟩ := hT p hp
        refine ⟨qs', ?_, q2, ?_⟩
        · rw [← hH2, upd_ne (ne_of_none q1 nC), upd_ne hb]
          exact q1
        · intro p' cv hcv
          obtain ⟨c0, f1, f2⟩ := q3 p' cv hcv
          exact ⟨c0, f1, ext _ _ f2 codeO_ne⟩
    have nF : H2 h'.objs.size = none := J.hok.fresh (Nat.le_refl _)
    have g2 : Grows T H2 (L2.upd H2 h'.objs.size (LamO h'.objs.size (mkLF X params body scope c' dV))) := Grows.upd nF
    exact h h'.objs.size c' _ _ (lamO_new (Z := mkLF X params body scope c' dV) (pm := (X.mg "__name__").getD .none) (ctv := ctv) (tk := tk) J) (Grows.trans ⟨ext, fun _ => tabs2⟩ g2)
      (I1.hok.fresh (Nat.le_trans hge (Nat.le_of_lt hlt))) upd_same (g2.ext _ _ kC codeO_ne)
end

/-! ### calls -/
section
variable {CX : CXT} {P : Program} {w : World} {K : PySem.W.Frag} {mg : Str → Option Value} {base : Heap} {N ps fr : List Str} {Z : LF} {f : Addr} {k : Nat}
/-- the body's context, at its entry -/
abbrev lcx (CX : CXT) (P : Program) (w : World) (K : PySem.W.Frag) (mg : Str → Option Value) (base : Heap) (N : List Str) (Z : LF) (f : Addr) (A : Around) (outer : List Env) (s : Shared) (H : Hp) (E : XK) : Cx :=
  ncx CX P w K mg base N Z.F f A outer s H E
theorem lam_call {A : Around} {outer : List Env} {s : Shared} {H : Hp} {args : Args} {us : List Value} {vs : List V} {ws : List (Option V)} {Q : VK} {E : XK} {t : TE} {pm ctv : Value}
    (S : NScope N ps fr Z.F.scope) (hr : Room (k + 1) A) (e0 : Env0 P w K mg base A outer s H)
    (ho : s.heap.get? f = some (({ cls := .type "function", data := .func (Z.fd pm ctv) }) : Obj)) (hcr : s.heap.CodeRec (.ref Z.F.c) Z.F.qual)
    (hb : BindsTo s (Z.fd pm ctv) args (ps.zip us)) (hl : vs.length = ps.length) (C : CellsAt Z.F.cl fr ws s.heap H) (r : Vals vs us)
    (hbody : Room k (A.deeper (envF Z.F f s.heap.objs.size)) → PE (lcx CX P w K mg base N Z f A outer s H E) Z.e t) (hq : t (startF N vs ws) H Q) :
    codeAny (model P w) A (.call (.ref f) args) (CR CX outer P w H s Q E) s := by
  have nolim : s.heap.NoLimit := e0.mod.nolimit.keeps fun b o e => (e0.bs b o e).1
  refine PySem.W.kla_callFunE hr.depth ho rfl S.co S.gen rfl hcr ?_
  refine hb _ _ _ _ ?_
  refine wpAny_newFunctionEnv S.nocell (fun ⟨n, _⟩ hy => S.par n (List.of_mem_zip hy).1) (fun h₁ hns hsb => ⟨nolim.fresh _ hsb, ?_⟩) S.kind
  show codeAny _ _ (.expr Z.e (envF Z.F f s.heap.objs.size)) _ _
  have kp : ∀ b o, s.heap.get? b = some o → h₁.get? b = some o :=
    fun b o e => hsb.extBut b o (Nat.ne_of_lt (Heap.lt_size e)) (Heap.get?_push_of_some _ e)
  have J : Inv (lcx CX P w K mg base N Z f A outer s H E) [] (startF N vs ws) H { s with heap := h₁, toks := s.toks + (ps.zip us).length } :=
    inv_startN S hr.hd e0 hl r C hns kp
  refine PySem.W.kla_codeExpr (wpAny_mono ((hbody (hr.deeper _)).run [] _ _ H Q J hq) (fun v s' hh => ?_) fun e s' hh => hh)
  obtain ⟨v', H', J', rv, q⟩ := hh
  exact ⟨v', H', J'.os, J'.bare, J'.base, J'.hok, rv, q⟩
/-- what the heap knows of a lambda at f -/
structure LamAt (H : Hp) (f : Addr) (Z : LF) : Prop where
  o : H f = some (LamO f Z)
  c : H Z.F.c = some (CodeO Z.F.c Z.F.qual)
  d : ∀ T : Addr, Z.dV = .ref T → ∃ xs, H T = some (.tup xs) ∧ xs = [.int 0]
theorem LamAt.ext {H H1 : Hp} (a : LamAt H f Z) (e : ExtN H H1) : LamAt H1 f Z :=
  ⟨e _ _ a.o lamO_ne, e _ _ a.c codeO_ne, fun T h => (a.d T h).elim fun xs q => ⟨xs, e _ _ q.1 (fun ps z => nomatch z), q.2⟩⟩
abbrev SpL := List (Option V) → Hp → VK → XK → Prop
/-- f may be called without arguments; cl, fr: its captured cells; sp: by what they hold -/
def Act (P : Program) (w : World) (K : PySem.W.Frag) (mg : Str → Option Value) (base : Heap) (CX : CXT) (k : Nat) (cl : List (Str × Addr)) (fr : List Str) (sp : SpL) (f : Addr) (H : Hp) : Prop :=
  ∃ Z : LF, Z.F.cl = cl ∧ LamAt H f Z ∧ ∀ (A : Around) (outer : List Env) (s : Shared) (H' : Hp) (ws : List (Option V)) (Q : VK) (E : XK), Room k A → Env0 P w K mg base A outer s H' → LamAt H' f Z →
    CellsAt cl fr ws s.heap H' → sp ws H' Q E → codeAny (model P w) A (.call (.ref f) ⟨[], []⟩) (CR CX outer P w H' s Q E) s
theorem Act.ext {cl : List (Str × Addr)} {sp : SpL} {H H1 : Hp} (a : Act P w K mg base CX k cl fr sp f H) (e : ExtN H H1) : Act P w K mg base CX k cl fr sp f H1 := by
  obtain ⟨Z, h1, h2, h3⟩ := a
  exact ⟨Z, h1, h2.ext e, h3⟩
theorem Act.mono {cl : List (Str × Addr)} {sp sp' : SpL} {H : Hp} {k' : Nat} (a : Act P w K mg base CX k cl fr sp f H) (h : k ≤ k') (i : ∀ ws H Q E, sp' ws H Q E → sp ws H Q E) : Act P w K mg base CX k' cl fr sp' f H := by
  obtain ⟨Z, h1, h2, h3⟩ := a
  exact ⟨Z, h1, h2, fun A outer s H' ws Q E hr e0 l c q => h3 A outer s H' ws Q E (hr.mono h) e0 l c (i _ _ _ _ q)⟩
/-- a lambda without parameters -/
theorem act0 {sp : SpL} {H : Hp} (l : LamAt H f Z) (S : NScope N [] fr Z.F.scope) (hb : ∀ pm ctv : Value, bindArgs (Z.fd pm ctv) ⟨[], []⟩ = pure [])
    (hbody : ∀ (A : Around) (outer : List Env) (s : Shared) (H : Hp) (ws : List (Option V)) (Q : VK) (E : XK), Room k (A.deeper (envF Z.F f s.heap.objs.size)) → ws.length = fr.length → sp ws H Q E →
      ∃ t, PE (lcx CX P w K mg base N Z f A outer s H E) Z.e t ∧ t (startF N [] ws) H Q) : Act P w K mg base CX (k + 1) Z.F.cl fr sp f H := by
  refine ⟨Z, rfl, l, fun A outer s H' ws Q E hr e0 l' C h => ?_⟩
  obtain ⟨pm, ctv, ho⟩ := lamO_at e0.hok l'.o
  obtain ⟨t, ht, hq⟩ := hbody A outer s H' ws Q E (hr.deeper _) C.len h
  exact lam_call (ps := []) (us := []) S hr e0 ho (codeO_at e0.hok l'.c) (.of_eq (hb pm ctv)) rfl C .nil (fun _ => ht) hq
/-- .. of one parameter, whose default is 0 -/
theorem act1 {x : Str} {T : Addr} {sp : SpL} {H : Hp} (l : LamAt H f Z) (hT : Z.dV = .ref T) (S : NScope N [x] fr Z.F.scope)
    (hb : ∀ (pm ctv u : Value), ∃ kk, bindArgs (Z.fd pm ctv) ⟨[], []⟩ = seqItems? Z.dV >>= kk ∧ kk (some #[u]) = pure [(x, u)])
    (hbody : ∀ (A : Around) (outer : List Env) (s : Shared) (H : Hp) (ws : List (Option V)) (Q : VK) (E : XK), Room k (A.deeper (envF Z.F f s.heap.objs.size)) → ws.length = fr.length → sp ws H Q E →
      ∃ t, PE (lcx CX P w K mg base N Z f A outer s H E) Z.e t ∧ t (startF N [.int 0] ws) H Q) : Act P w K mg base CX (k + 1) Z.F.cl fr sp f H := by
  refine ⟨Z, rfl, l, fun A outer s H' ws Q E hr e0 l' C h => ?_⟩
  obtain ⟨pm, ctv, ho⟩ := lamO_at e0.hok l'.o
  obtain ⟨xs, hx, rfl⟩ := l'.d T hT
  obtain ⟨_, its, rv, ht1⟩ := e0.hok T _ hx
  cases rv with
  | @cons _ u _ _ ru rn =>
  cases rn
  obtain ⟨t, ht, hq⟩ := hbody A outer s H' ws Q E (hr.deeper _) C.len h
  obtain ⟨kk, b1, b2⟩ := hb pm ctv u
  obtain ⟨oT, g1, _, n, g3⟩ := ht1
  refine lam_call (ps := [x]) (us := [u]) S hr e0 ho (codeO_at e0.hok l'.c) ?_ rfl C (.cons ru .nil) (fun _ => ht) hq
  exact BindsTo.of_defaults (fd := Z.fd pm ctv) (k := kk) hT g1 g3 b1 b2
end

/-! ### the rules: a lambda as a value -/
section
variable {X : Cx} {T : List (Addr × Str)} {c P : Addr} {params : Arguments} {body : Expr} {scope : Scope} {pos : Pos}
/-- the new lambda stands at f; mk: its words by its code object and its defaults -/
def tLamO (T : List (Addr × Str)) (mk : Addr → Value → LF) : TE := fun σ H Q => Tabs T H ∧ ∀ (f c' : Addr) (H1 : Hp), Grows T H H1 → H f = none → LamAt H1 f (mk c' .none) → Q (.ref f) H1
def tLamD (T : List (Addr × Str)) (mk : Addr → Value → LF) : TE := fun σ H Q => Tabs T H ∧ ∀ (f c' t : Addr) (H1 : Hp), Grows T H H1 → H f = none → LamAt H1 f (mk c' (.ref t)) → Q (.ref f) H1
theorem pe_lam (TB : TabB X.base X.mg c P) (hcode : X.env.code = .ref c)
    (hm : (P, X.env.qual ++ "<lambda>") ∈ T) (hu : ∀ p ∈ T, p.1 = P → p.2 = X.env.qual ++ "<lambda>")
    (hfree : ∀ y ∈ scope.names, y.2 = .free → X.env.scope.names.lookup y.1 = some .cell ∨ X.env.scope.names.lookup y.1 = some .free) (hdef : defaultsOf params X.env = ([], []) := by exact rfl) :
    PE X (.Lambda params body scope pos) (tLamO T (mkLF X params body scope)) := by
  refine ⟨fun pins s σ H Q I ⟨hT, h⟩ => PySem.W.kla_eval hdef ?_⟩
  rw [makeFunction_eq]
  simp only [List.zip_nil_right, List.filterMap_nil, List.isEmpty_nil, if_true, pure_bind]
  refine lam_made I TB hcode hm hu hT (fun y hy e => I.ok.has _ (hfree y hy e)) fun f c' H1 s' I1 g n1 e1 e2 => ?_
  exact ⟨.ref f, H1, I1, rfl, h f c' H1 g n1 ⟨e1, e2, fun t z => nomatch z⟩⟩
/-- a default that is an int: 0 -/
theorem pe_lamD {d : Expr} (TB : TabB X.base X.mg c P) (hcode : X.env.code = .ref c)
    (hm : (P, X.env.qual ++ "<lambda>") ∈ T) (hu : ∀ p ∈ T, p.1 = P → p.2 = X.env.qual ++ "<lambda>")
    (hfree : ∀ y ∈ scope.names, y.2 = .free → X.env.scope.names.lookup y.1 = some .cell ∨ X.env.scope.names.lookup y.1 = some .free)
    (hd : PE X d (tC (.int 0))) (hdef : defaultsOf params X.env = ([eval d X.env], []) := by exact rfl) :
    PE X (.Lambda params body scope pos) (tLamD T (mkLF X params body scope)) := by
  refine ⟨fun pins s σ H Q I ⟨hT, h⟩ => ?_⟩
  rw [arm_eval_Lambda, hdef]
  show wpAny _ X.A (do
    let dv ← evalAll [eval d X.env]
    let kdv ← holding dv (evalAllOpt [])
    makeFunction "<lambda>" (X.env.qual ++ "<lambda>") params (.expr body) scope X.env dv kdv [] pos pos.line) _ _ s
  refine wpAny_bind ?_
  show wpAny _ X.A (eval d X.env >>= fun v => _) _ _ s
  refine wpAny_bind (thn (hd.run pins s σ H (fun v H1 => v = .int 0 ∧ H1 = H) I ⟨rfl, rfl⟩) fun v s1 x => ?_)
  obtain ⟨v0, H1, I1, rv, rfl, rfl⟩ := x
  refine wpAny_bind (wpAny_holding (wpAny_pure (wpAny_pure ?_)))
  refine wpAny_bind (wpAny_holding (wpAny_pure ?_))
  rw [makeFunction_eq]
  simp only [List.zip_nil_right, List.filterMap_nil, List.isEmpty_nil, List.isEmpty_cons, Bool.false_eq_true, if_true, if_false, pure_bind]
  refine wpAny_bind (wpAny_newTextTuple ?_)
  have nT : H1 s1.heap.objs.size = none := I1.hok.fresh (Nat.le_refl _)
  have I2 : Inv X pins σ (upd H1 s1.heap.objs.size (.tup [.int 0])) { s1 with heap := s1.heap.push { cls := .type "tuple", data := .seq [v].toArray } } :=
    I1.laid (t' := s1.toks) (fun b o e => Heap.get?_push_of_some _ e) (Nat.le_refl _) ⟨by decide, [v], .cons rv .nil, _, Heap.get?_push_size _ rfl, rfl, 0, rfl⟩
  have G2 : Grows T H1 (upd H1 s1.heap.objs.size (.tup [.int 0])) := Grows.upd nT
  refine lam_made I2 TB hcode hm hu (G2.tab hT) (fun y hy e => I2.ok.has _ (hfree y hy e)) fun f c' H3 s' I3 g n1 e1 e2 => ?_
  have tT : H3 s1.heap.objs.size = some (.tup [.int 0]) := g.ext _ _ upd_same fun ps z => nomatch z
  have nf : H1 f = none := by
    by_cases z : f = s1.heap.objs.size
    · rw [z]
      exact nT
    · rw [upd_ne z] at n1
      exact n1
  exact ⟨.ref f, H3, I3, rfl, h f c' s1.heap.objs.size H3 (G2.trans g) nf ⟨e1, e2, fun t z => by cases z; exact ⟨_, tT, rfl⟩⟩⟩
end
end Sho
set_option Elab.async false
set_option linter.all false
set_option maxRecDepth 100000
set_option maxHeartbeats 2000000
/-! A try whose clauses may each bind the exception or not. -/
namespace Sho
open PySem PySem.Spec PyProof.Rows L2
/-- a clause: the class, the slot of its name (if it has one), its suite's reading -/
structure Clause where
  c : Value
  i : Option Nat
  ts : Addr → Value → Option Addr → TS
def setO (σ : L2.St) : Option Nat → Option V → L2.St
  | none, _ => σ
  | some i, v => σ.set i v
/-- a suite's ends: the clause's name is gone -/
def endsO (D : Ends) (i : Option Nat) : Ends :=
  { nx := fun σ H => D.nx (setO σ i none) H, rt := D.rt, bk := fun σ H => D.bk (setO σ i none) H, ct := fun σ H => D.ct (setO σ i none) H }
def wClauses (K : PySem.W.Frag) (Wout : WX) (D : Ends) : List Clause → WX
  | [] => Wout
  | C :: r => fun cls d σ H => ∃ b, PySem.W.exmOne K cls C.c = some b ∧
    (b = true → ∀ a, H a = none → C.ts a cls d (endsO D C.i) (setO σ C.i (some (.ref a))) H) ∧ (b = false → wClauses K Wout D r cls d σ H)
def Bound (X : Cx) : Option Str → Option Nat → Prop
  | none, none => True
  | some n, some i => X.N[i]? = some n ∧ X.env.kindOf n = some .local
  | _, _ => False
inductive ClausesOk (X : Cx) : List ExceptHandler → List Clause → Prop
  | nil : ClausesOk X [] []
  | cons {x : Str} {n : Option Str} {C : Clause} {b₀ : Stmt} {suite : List Stmt} {np hp : Pos} {hds : List ExceptHandler} {l : List Clause} (hc : Names X x C.c) (hn : Bound X n C.i)
      (body : ∀ (a : Addr) (oe : Obj) (cls : Value) (d : Option Addr) (pn : List (Addr × Obj)), Zc cls d oe → (∃ vs, oe.data = .fields vs) → PSs (X.suite a ((a, oe) :: pn)) (b₀ :: suite) (C.ts a cls d))
      (rest : ClausesOk X hds l) : ClausesOk X (.ExceptHandler (some (.Name x np)) n (b₀ :: suite) hp :: hds) (C :: l)
/-- an exception that X's frame has caught, in the state s -/
structure Caught (X : Cx) (pins : List (Addr × Obj)) (σ : L2.St) (H : Hp) (B : Heap) (a : Addr) (cls : Value) (d : Option Addr) (s : Shared) : Prop where
  fly : HandSPX.FlyingZ B (X.env :: X.outer) a (Zc cls d) s.heap
  back : ∀ h, HandSPX.FlyingZ B (X.env :: X.outer) a (Zc cls d) h → s.heap.UpToSlots h → Inv X pins σ H { s with heap := h }
  on : ∀ h (W : WX), HandSPX.HeldZ B (X.env :: X.outer) a (Zc cls d) X.env.locals h → s.heap.UpToSlots h → W cls d σ H → XE X W (.ref a) { s with heap := h }
  free : H a = none
section
variable {X : Cx} {pins : List (Addr × Obj)} {σ : L2.St} {H : Hp} {B : Heap} {a : Addr} {cls : Value} {d : Option Addr} {s : Shared}
theorem Caught.inv (c : Caught X pins σ H B a cls d s) : Inv X pins σ H s := c.back s.heap c.fly (.refl _)
theorem Caught.apart (c : Caught X pins σ H B a cls d s) (hf : X.env.frame = some X.env.locals) : a ≠ X.env.locals ∧ a ∉ X.fs := by
  obtain ⟨oe, vs, he, _, hd⟩ := c.fly.there
  have out : a ∉ frs (X.env :: X.outer) := fun hm => by
    obtain ⟨_, o, e, nf⟩ := c.fly.2.2.1.mem hm
    rw [he] at e
    cases e
    exact nf _ hd
  refine ⟨fun z => out (List.mem_filterMap.mpr ⟨X.env, .head _, hf.trans (congrArg some z.symm)⟩), fun hm => ?_⟩
  obtain ⟨e, he2, q⟩ := List.mem_filterMap.mp hm
  exact out (List.mem_filterMap.mpr ⟨e, .tail _ he2, q⟩)
theorem caught_of {xe : Value → Shared → Prop} {W : WX} {u : Value} {Q : Shared → Prop} {E : Value → Shared → Prop} (hs : X.stack = X.env :: X.outer) (hf : X.env.frame = some X.env.locals) (ok : X.Ok)
    (x : XE (X.tr (X.pn ++ pins) xe) W u s)
    (h : ∀ a B σ H cls d h3, u = .ref a → Caught X pins σ H B a cls d { s with heap := h3 } → W cls d σ H → Q { s with heap := h3 }) :
    wpAny (model X.prog X.w) X.A (noteFrame u X.env) (fun _ s2 => wpAny (model X.prog X.w) X.A (setFlight u none) (fun _ s3 => Q s3) E s2) E s := by
  obtain ⟨a, B, s0, pins', σ1, H1, cls, d, rfl, J1, ground, up, sky, na, os, ag, w⟩ := x
  have J : Inv X pins σ1 H1 s0 := J1.ofTry ok
  have sky2 : Sky B (X.env :: X.outer) a (Zc cls d) X.env.locals s.heap := hs ▸ sky
  refine Sky.land Zc.steady (ok.frames.trans (congrArg some hs)) hf sky2 fun h3 fly up3 => ?_
  refine h a B σ1 H1 cls d h3 rfl ⟨fly, fun g fg ug => J.landed ground fg.1 (up.trans (up3.trans ug)) os ag, fun g W2 hg ug w2 => ?_, na⟩ w
  exact ⟨a, B, s0, pins, σ1, H1, cls, d, rfl, J, ground, up.trans (up3.trans ug), .inr (.inr (by rw [hs]; exact hg)), na, os, ag, w2⟩

theorem clauses_run {Wout : WX} {D : Ends} (hs : X.stack = X.env :: X.outer) (hf : X.env.frame = some X.env.locals) (hN : X.N.Nodup) (tk : Takes X Wout) (c : Caught X pins σ H B a cls d s)
    {hds : List ExceptHandler} {l : List Clause} (hk : ClausesOk X hds l) : wClauses X.K Wout D l cls d σ H →
    wpAny (model X.prog X.w) X.A (handleBy (.ref a) X.env hds) (SP X pins D) X.xe s := by
  have ok := c.inv.ok
  induction hk with
  | nil =>
    intro w
    refine wpAny_handleBy_nil ?_
    obtain ⟨_, _, _, oe, vs, T, oT, ts', he, hz, hd, h1, _⟩ := id c.fly
    unfold PySem.passOn
    refine wpAny_bind (wpAny_field he hd h1 ?_)
    rw [if_neg (show ¬ ((Value.ref T == Value.none) = true) by simp)]
    have up : wpAny (model X.prog X.w) X.A (setFlight (.ref a) X.env.frame) (fun _ s4 => wpAny (model X.prog X.w) X.A (throw (.ref a) : Sem PySem.Flow) (SP X pins D) X.xe s4) X.xe s := by
      rw [hf]
      exact HandSPX.setFlight_upZ c.fly fun g hg ug => wpAny_throw (tk _ _ (c.on g Wout hg ug w))
    first
      | exact wpAny_bind (wpAny_pure (wpAny_bind up))
      | exact wpAny_bind up
  | @cons x n C b₀ suite np hp hds2 l2 hc hn body rest ih =>
    intro w
    obtain ⟨b, hb, yes, no⟩ := w
    obtain ⟨oe, vs, he, hz, hd⟩ := c.fly.there
    obtain ⟨nL, nF⟩ := c.apart hf
    have I := c.inv
    have IS := I.suite he hd c.free nL nF
    refine wpAny_handleBy_cons (codeAny_handlers_test ?_) (by intro q; cases q)
    have lt : PySem.W.Looks (model X.prog X.w) s.heap (typeOf (.ref a)) cls := fun A Q E s k q => wpAny_typeOf_ref (k _ _ he) (by rw [hz.1]; exact q)
    have lm := PySem.W.exm_one (M := model X.prog X.w) I.kIn lt hb
    have named : ∀ {Q : Value → Shared → Prop} {E : Value → Shared → Prop}, Q C.c s → wpAny (model X.prog X.w) (X.A.mark (some (.ref a))) (eval (.Name x np) X.env) Q E s := fun {Q E} q => by
      obtain ⟨g1, g2, g3⟩ := hc
      rcases g3 with g3 | ⟨g3, g4, g5⟩
      · exact ld_glob (X := X.suite a ((a, oe) :: (X.pn ++ pins))) IS g1 g3 q g2
      · exact ld_blt (X := X.suite a ((a, oe) :: (X.pn ++ pins))) IS g1 g3 g4 q g5 g2
    refine named (lm.here ?_)
    cases b with
    | false => exact ih (no rfl)
    | true =>
      have go : ∀ g, HandSPX.FlyingZ B (X.env :: X.outer) a (Zc cls d) g → s.heap.UpToSlots g → ∃ oe4 vs4, Zc cls d oe4 ∧ oe4.data = .fields vs4 ∧ Inv (X.suite a ((a, oe4) :: (X.pn ++ pins))) [] σ H { s with heap := g } := fun g fg ug => by
        obtain ⟨oe4, vs4, he4, hz4, hd4⟩ := fg.there
        exact ⟨oe4, vs4, hz4, hd4, (c.back g fg ug).suite he4 hd4 c.free nL nF⟩
      cases n with
      | none =>
        match hi : C.i with
        | some i =>
          rw [hi] at hn
          exact hn.elim
        | none =>
          rw [hi] at yes
          refine codeAny_handlers_suite ?_
          refine HandSPX.lands_againZ c.fly fun g fg ug => ?_
          obtain ⟨oe4, vs4, hz4, hd4, I4⟩ := go g fg ug
          refine wpAny_mono ((body a oe4 cls d (X.pn ++ pins) hz4 ⟨_, hd4⟩).run [] _ _ H _ I4 (yes rfl a c.free)) (fun f s6 r => ?_) fun _ _ z => False.elim z
          cases f with
          | ret u =>
            obtain ⟨v6, σ6, H6, I6, r6, q6⟩ := r
            exact ⟨v6, σ6, H6, I6.unsuite ok, r6, q6⟩
          | next => obtain ⟨σ6, H6, I6, q6⟩ := r; exact ⟨σ6, H6, I6.unsuite ok, q6⟩
          | brk => obtain ⟨σ6, H6, I6, q6⟩ := r; exact ⟨σ6, H6, I6.unsuite ok, q6⟩
          | cont => obtain ⟨σ6, H6, I6, q6⟩ := r; exact ⟨σ6, H6, I6.unsuite ok, q6⟩
      | some n =>
        match hi : C.i with
        | none =>
          rw [hi] at hn
          exact hn.elim
        | some i =>
          rw [hi] at hn yes
          obtain ⟨hni, hln⟩ := hn
          refine codeAny_handlers_suite_as ?_
          refine HandSPX.lands_againZ c.fly fun g fg ug => ?_
          obtain ⟨oe4, vs4, hz4, hd4, I4⟩ := go g fg ug
          refine store_ok (X := X.suite a ((a, oe4) :: (X.pn ++ pins))) (v := .ref a) I4 hN hni (.inl hln) rfl (fun s5 I5 => ?_) (.inr hln)
          refine wpAny_mono ((body a oe4 cls d (X.pn ++ pins) hz4 ⟨_, hd4⟩).run [] s5 _ H _ I5 (yes rfl a c.free)) (fun f s6 r => ?_) fun _ _ z => False.elim z
          have gone : ∀ {σ6 : L2.St} {H6 : Hp} {Q : Shared → Prop}, Inv (X.suite a ((a, oe4) :: (X.pn ++ pins))) [] σ6 H6 s6 → (∀ s7, Inv X pins (σ6.set i none) H6 s7 → Q s7) →
              wpAny (model X.prog X.w) X.A (do bindName X.env n .none; unbindBehindTheSuite X.env n hp) (fun _ s7 => Q s7) X.xe s6 := fun {σ6 H6 Q} I6 k => gone_ok (I6.unsuite ok) hN hni hln k
          cases f with
          | ret u =>
            obtain ⟨v6, σ6, H6, I6, r6, q6⟩ := r
            exact gone I6 fun s7 I7 => ⟨v6, _, H6, I7, r6, q6⟩
          | next => obtain ⟨σ6, H6, I6, q6⟩ := r; exact gone I6 fun s7 I7 => ⟨_, H6, I7, q6⟩
          | brk => obtain ⟨σ6, H6, I6, q6⟩ := r; exact gone I6 fun s7 I7 => ⟨_, H6, I7, q6⟩
          | cont => obtain ⟨σ6, H6, I6, q6⟩ := r; exact gone I6 fun s7 I7 => ⟨_, H6, I7, q6⟩
end
section
variable {X : Cx} {body : List Stmt} {h₀ : ExceptHandler} {hds : List ExceptHandler} {l : List Clause} {pos : Pos} {tb : WX → TS} {Wout : WX}
/-- try: body / except A as e: .. / except B: .. -/
theorem ps_try (hs : X.stack = X.env :: X.outer) (hf : X.env.frame = some X.env.locals) (hN : X.N.Nodup) (tk : Takes X Wout)
    (hb : ∀ (W : WX) (pn : List (Addr × Obj)) (xe : Value → Shared → Prop), Takes (X.tr pn xe) W → PassesOwn (model X.prog X.w) X.A X.env xe → PSs (X.tr pn xe) body (tb W))
    (hk : ClausesOk X (h₀ :: hds) l) : PS X (.Try body (h₀ :: hds) [] [] pos) (fun D σ H => tb (wClauses X.K Wout D l) D σ H) := by
  refine ⟨fun pins s σ H D I h => wpAny_Try_except ?_⟩
  have ok := I.ok
  refine wpAny_mono ((hb (wClauses X.K Wout D l) (X.pn ++ pins) (fun e s₁ => wpAny (model X.prog X.w) X.A (noteFrame e X.env)
    (fun _ s₂ => wpAny (model X.prog X.w) X.A (setFlight e none) (fun _ s₃ => wpAny (model X.prog X.w) X.A (handleBy e X.env (h₀ :: hds)) (SP X pins D) X.xe s₃) X.xe s₂) X.xe s₁)
    (fun u s' x => ?_) PassesOwn.looking).run [] s σ H D (I.toTry _) h) (fun f s1 r => ?_) fun _ _ z => z
  · refine caught_of hs hf ok x fun a B σ1 H1 cls d h3 e c w => ?_
    subst e
    exact clauses_run hs hf hN tk c hk w
  · cases f with
    | ret u =>
      obtain ⟨v6, σ6, H6, I6, r6, q6⟩ := r
      exact ⟨v6, σ6, H6, I6.ofTry ok, r6, q6⟩
    | next => obtain ⟨σ6, H6, I6, q6⟩ := r; exact wpAny_execs_nil ⟨σ6, H6, I6.ofTry ok, q6⟩
    | brk => obtain ⟨σ6, H6, I6, q6⟩ := r; exact ⟨σ6, H6, I6.ofTry ok, q6⟩
    | cont => obtain ⟨σ6, H6, I6, q6⟩ := r; exact ⟨σ6, H6, I6.ofTry ok, q6⟩
end
end Sho
set_option Elab.async false
set_option linter.all false
set_option maxRecDepth 100000
set_option maxHeartbeats 2000000
/-! A list comprehension whose element may rest on what the block's start knows of the heap itself. -/
namespace Sho
open PySem PySem.Spec PyProof.Rows L2
section
variable {X : Cx} {scope : Scope} {fp : List Addr} {own : List (Str × Nat)}
/-- the block's environment, made at s -/
abbrev blkEnv (X : Cx) (scope : Scope) (s : Shared) : Env := compEnvC scope (cellsFrom (s.heap.objs.size + 1) scope.names (cloFrom X.env.cells scope.names [])) s.heap.objs.size X.env
abbrev blkS (scope : Scope) (s : Shared) : Shared := { s with heap := pushCells (s.heap.push { cls := .type "dict", data := .dict #[] }) scope.names }
/-- out of the block: its state is one of the def's -/
theorem blk_out {pins : List (Addr × Obj)} {σ σ' : L2.St} {H H' : Hp} {s s' : Shared} (I : Inv X pins σ H s) (hfp : ∀ b ∈ fp, FpOk X pins H b)
    (J : Inv (X.blk s H scope (blkEnv X scope s) fp) [] σ' H' s') : Inv X pins σ H' s' ∧ ∃ m, s'.heap.Ns s.heap.objs.size m ∧ FpOk X pins H' s.heap.objs.size := by
  obtain ⟨m, hm, _⟩ := J.loc
  refine ⟨I.call' (ch := fp) J.os J.base J.hok J.bare fun b hb => ?_, m, hm, I.fpOk (Nat.le_refl _) J.free⟩
  obtain ⟨_, z1, z2, z3, z4, z5⟩ := hfp b hb
  exact ⟨z3, z1, z4, z5⟩
/-- a tracked list that grows -/
theorem grow {pins : List (Addr × Obj)} {σ : L2.St} {H : Hp} {s : Shared} (I : Inv X pins σ H s) :
    Inv X pins σ (upd H s.heap.objs.size (.lst [])) { s with heap := s.heap.push { cls := .type "list", data := .seq ([] : List Value).toArray } } :=
  I.laid (t' := s.toks) (fun b o e => Heap.get?_push_of_some _ e) (Nat.le_refl _) ⟨Nat.zero_le _, [], 0, .nil, Heap.get?_push_size _ rfl⟩

/-- the block's loop, by the readings of its target, tests and element -/
theorem lc_loop {B : Cx} {R : Result → Shared → Prop} {elt tg iter : Expr} {ifs : List Expr} {pos : Pos} {g : TG} {tt : TT} {te : TE} {J : It} {it D : Addr} {tn : Nat → Heap → Prop} {W : Nat → Nat → Hp → Prop} {σ : L2.St} {vs : List Nat}
    (hc : B.calm = true) (hxe : B.xe = fun _ _ => False) (T : Turn B.prog B.w B.K tg J fp it tn) (pg : PG B tg g) (pt : PTs B ifs tt) (pe : PE B elt te)
    (fpok : ∀ (pins : List (Addr × Obj)) (τ : L2.St) (H : Hp) (s : Shared), Inv B [] τ H s → (∀ b ∈ fp, H b = none) → ∀ b ∈ fp, FpOk B [] H b)
    (turn : ∀ (i m : Nat) (H : Hp), W i m H → (J.stop i H ∧ ∀ s, Inv B [] σ H s → R (.ok .next) s) ∨
      (J.go i H ∧ ∃ Nx : Hp → Prop, (∀ H', Nx H' → ∃ m', m' < m ∧ W (i + 1) m' H') ∧ ∀ x H', J.yld i H x H' → g x σ H' fun σ2 H2 => wipe σ2 vs = σ ∧ tt σ2 H2 fun b H3 =>
        if b = true then te σ2 H3 fun y H4 => ∃ acc, H4 D = some (.lst acc) ∧ acc.length < sizeLine ∧ Nx (upd H4 D (.lst (acc ++ [y]))) else Nx H3))
    {m : Nat} {H : Hp} {s : Shared} (I : Inv B [] σ H s) (st : tn 0 s.heap) (hn : ∀ b ∈ fp, H b = none) (w : W 0 m H) :
    codeAny (model B.prog B.w) B.A (.compLoop (.ListComp elt [⟨tg, iter, ifs, 0⟩] scope pos) 0 (.ref it) (.ref D) B.env) R s := by
  refine compLoop_any (fun n s' => ∃ i H', Inv B [] σ H' s' ∧ tn i s'.heap ∧ (∀ b ∈ fp, H' b = none) ∧ W i n H') ?_ m ⟨0, H, I, st, hn, w⟩
  rintro n s5 ⟨i, H5, I5, st5, n5, w5⟩
  rcases turn i n H5 w5 with ⟨stop, fin⟩ | ⟨go, Nx, less, step⟩
  · refine thnF (T.done B rfl rfl rfl hc i [] s5 σ H5 (fun _ _ => False) I5 (fpok [] _ _ _ I5 n5) st5 stop) fun r s6 x => ?_
    obtain ⟨rfl, I6⟩ := x
    exact fin _ I6
  · refine thnF (T.item B rfl rfl rfl hc i [] s5 σ H5 (fun _ _ => False) I5 (fpok [] _ _ _ I5 n5) st5 go) fun r s6 x => ?_
    obtain ⟨u, rfl, x⟩ := x
    refine thnF x fun _ s7 y => ?_
    obtain ⟨v, H7, I7, rv, yl, st7, n7⟩ := y
    have P7 := I7.pinned (fpok [] _ _ _ I7 n7) (T.obj _ _ st7)
    have pg1 := pg.run _ s7 σ H7 v u _ P7 rv (step v H7 yl)
    rw [hxe] at pg1
    refine thnF pg1 fun _ s8 x8 => ?_
    obtain ⟨σ8, H8, I8, back, q8⟩ := x8
    have pt1 := pt.run _ s8 σ8 H8 _ I8 q8
    rw [hxe] at pt1
    refine thnF pt1 fun b s9 x9 => ?_
    obtain ⟨H9, I9, q9⟩ := x9
    have next : ∀ (H' : Hp) (s' : Shared), Inv B ([] ++ pinsAt fp s7.heap) σ8 H' s' → Nx H' → ∃ m, m < n ∧ ∃ i H', Inv B [] σ H' s' ∧ tn i s'.heap ∧ (∀ b ∈ fp, H' b = none) ∧ W i m H' := fun H' s' I' nx => by
      obtain ⟨m', lt, w'⟩ := less H' nx
      have stay : ∀ b ∈ fp, ∀ o, s7.heap.get? b = some o → s'.heap.get? b = some o ∧ H' b = none := fun b hb o e => by
        have z := I'.pin (b, o) (List.mem_append_right _ (List.mem_append_right _ (mem_pinsAt hb e)))
        exact ⟨z.1, z.2.1⟩
      have lens : σ.length = σ8.length := by rw [← back, wipe_length]
      refine ⟨m', lt, i + 1, H', (I'.unpinned (pins := [])).weak lens (fun j v e => ?_), T.keep _ _ _ st7 fun b hb o e => (stay b hb o e).1, fun b hb => ?_, w'⟩
      · rw [← back] at e
        exact (wipe_some e).1
      · obtain ⟨o, e, _⟩ := T.obj _ _ st7 b hb
        exact (stay b hb o e).2
    cases b with
    | false =>
      rw [if_neg Bool.false_ne_true] at q9
      rw [if_neg Bool.false_ne_true]
      exact next _ _ I9 q9
    | true =>
      rw [if_pos rfl] at q9
      rw [if_pos rfl]
      have pe1 := pe.run _ s9 σ8 H9 _ I9 q9
      rw [hxe] at pe1
      refine thnF pe1 fun z s10 x10 => ?_
      obtain ⟨yv, H10, I10, r10, acc, hD, hz, nx⟩ := x10
      exact app_ok (X := B) I10 hD hz r10 fun s11 I11 => next _ _ I11 nx
/-- P: what the start of the block knows, of the slots and of the state; te: the element's reading, by the slots -/
theorem pe_lcS {P : L2.St → Shared → Hp → Prop} {elt tg iter : Expr} {ifs : List Expr} {pos : Pos} {wi : TI} {g : TG} {tt : TT} {te : L2.St → TE} (hc : X.calm = true) (hN : X.N.Nodup) (hi : PI X tg iter wi) (ok : BlkOk X.N X.env.scope scope own)
    (hP : ∀ (pins : List (Addr × Obj)) (σ : L2.St) (H : Hp) (s : Shared), Inv X pins σ H s → P σ s H)
    (hg : ∀ (s : Shared) (H : Hp) (C : Addr) (cl : List (Str × Addr)) (fp : List Addr), PG (X.blk s H scope (compEnvC scope cl C X.env) fp) tg g)
    (ht : ∀ (s : Shared) (H : Hp) (C : Addr) (cl : List (Str × Addr)) (fp : List Addr), PTs (X.blk s H scope (compEnvC scope cl C X.env) fp) ifs tt)
    (he : ∀ (σ : L2.St) (s : Shared) (H : Hp) (C : Addr) (cl : List (Str × Addr)) (fp : List Addr), P σ s H → (∀ b ∈ fp, ∃ o, s.heap.get? b = some o ∧ ∀ v, o.data ≠ .cell v) → PE (X.blk s H scope (compEnvC scope cl C X.env) fp) elt (te σ)) (hs : ∀ x, foldedSetIterable iter X.env x = pure x := by intro _; rfl) :
    PE X (.ListComp elt [⟨tg, iter, ifs, 0⟩] scope pos) (fun σ H Q => tLc wi g tt (te σ) (own.map (·.2)) σ H Q) := by
  refine ⟨fun pins s σ H Q I h => ?_⟩
  rw [eval_ListComp]
  have clo : ∀ y ∈ scope.names, y.2 = .free → ∃ c, X.env.cells.lookup y.1 = some c := fun y hy e => (ok.free y hy e).elim (fun k => I.ok.has _ (.inl k)) fun k => I.ok.has _ (.inr k)
  refine wpAny_comprehension_free (use := none) rfl hs (closure_ok clo) ok.kind (fun y hy e => (ok.uniq y hy).trans (congrArg some e))
    (thn (hi.run pins s σ H _ I h) fun xv s1 hx => thn hx fun itv s2 h2 => ?_)
  obtain ⟨it, fp, tn, J, H2, rfl, I2, T, st2, f2, q⟩ := h2
  refine wpAny_newObj_type (newEnv_comp ?_) (show 0 ≤ sizeLine by decide)
  have hDn : H2 s2.heap.objs.size = none := I2.hok.fresh (Nat.le_refl _)
  obtain ⟨W, ⟨m0, w0⟩, turn⟩ := q _ hDn
  have I3 := grow I2
  have old : ∀ b ∈ fp, b < s2.heap.objs.size := fun b hb => (T.obj _ _ st2 b hb).elim fun o e => Heap.lt_size e.1
  generalize hD : s2.heap.objs.size = D at *
  generalize hs3 : ({ s2 with heap := s2.heap.push { cls := .type "list", data := .seq ([] : List Value).toArray } } : Shared) = s3 at *
  have k3 : ∀ b o, s2.heap.get? b = some o → s3.heap.get? b = some o := fun b o e => by
    rw [← hs3]
    exact Heap.get?_push_of_some _ e
  have z3 : s3.heap.objs.size = D + 1 := by
    rw [← hs3, ← hD]
    exact Heap.size_push ..
  have st3 : tn 0 s3.heap := T.keep _ _ _ st2 fun b _ o e => k3 b o e
  have f3 : ∀ b ∈ fp, FpOk X pins (upd H2 D (.lst [])) b ∧ b < s3.heap.objs.size := fun b hb =>
    ⟨⟨(upd_ne (Nat.ne_of_lt (old b hb))).trans (f2 b hb).1, (f2 b hb).2⟩, by rw [z3]; exact Nat.lt_succ_of_lt (old b hb)⟩
  generalize hH3 : upd H2 D (.lst []) = H3 at *
  have know := hP pins σ H3 s3 I3
  have I4 := block_start I3 ok hN f3
  have pe := he σ s3 H3 s3.heap.objs.size (cellsFrom (s3.heap.objs.size + 1) scope.names (cloFrom X.env.cells scope.names [])) fp know (T.obj _ _ st3)
  have pg := hg s3 H3 s3.heap.objs.size (cellsFrom (s3.heap.objs.size + 1) scope.names (cloFrom X.env.cells scope.names [])) fp
  have pt := ht s3 H3 s3.heap.objs.size (cellsFrom (s3.heap.objs.size + 1) scope.names (cloFrom X.env.cells scope.names [])) fp
  show codeAny _ _ (.compStart (.ListComp elt [⟨tg, iter, ifs, 0⟩] scope pos) 0 (.ref it) (.ref D) (blkEnv X scope s3)) (compPost (model X.prog X.w) X.A X.xe none _ (.ref D) s3.heap.objs.size) (blkS scope s3)
  have st4 : tn 0 (blkS scope s3).heap := T.keep _ _ _ st3 fun b _ o e => pushCells_keeps _ _ _ _ (Heap.get?_push_of_some _ e)
  have nfp : ∀ b ∈ fp, H3 b = none := fun b hb => (f3 b hb).1.1
  have loop : codeAny (model X.prog X.w) X.A (.compLoop (.ListComp elt [⟨tg, iter, ifs, 0⟩] scope pos) 0 (.ref it) (.ref D) (blkEnv X scope s3))
      (compPost (model X.prog X.w) X.A X.xe none (EP X pins σ Q) (.ref D) s3.heap.objs.size) (blkS scope s3) := by
    refine lc_loop (B := X.blk s3 H3 scope (blkEnv X scope s3) fp) (σ := wipe σ (own.map (·.2))) (vs := own.map (·.2)) (W := W) hc rfl T pg pt pe (fun _ τ H' s' J' n' b hb => ?_) (fun i m H' w' => ?_) I4 st4 nfp w0
    · refine ⟨n' b hb, (J'.ok.exf b hb).1, J'.ok.exfs b hb, .inl hb, fun x c e => (J'.ok.exf b hb).2 x c e, fun p hp => ?_⟩
      exact absurd (show p ∈ ([] : List (Addr × Obj)) ++ [] from hp) (by simp)
    · rcases turn i m H' w' with ⟨a, b⟩ | ⟨a, Nx, b, c⟩
      · refine .inl ⟨a, fun s' J' => ?_⟩
        obtain ⟨I6, m6, ns6, f6⟩ := blk_out I3 (fun b hb => (f3 b hb).1) J'
        obtain ⟨f0, f1, f2, f3', f4, f5⟩ := f6
        exact ⟨m6, ns6, fun h'' sb => ⟨.ref D, H', I6.turned (t' := s'.toks) (fun b o hb e => (sb.2 b hb).trans e) f0 f1 f3' f4 f5, rfl, b⟩⟩
      · exact .inr ⟨a, Nx, b, c⟩
  exact codeAny_compStart_list loop (T.self X.A 0 _ _ _ st4 loop)
end

/-! ### what a comprehension gathers -/
section
/-- the values of the first n turns -/
def gather (f : Nat → Option V) (n : Nat) : List V := (List.range n).filterMap f
theorem gather_zero (f : Nat → Option V) : gather f 0 = [] := rfl
theorem gather_some {f : Nat → Option V} {n : Nat} {y : V} (h : f n = some y) : gather f (n + 1) = gather f n ++ [y] := by
  unfold gather
  rw [List.range_succ, List.filterMap_append]
  simp [h]
theorem gather_none {f : Nat → Option V} {n : Nat} (h : f n = none) : gather f (n + 1) = gather f n := by
  unfold gather
  rw [List.range_succ, List.filterMap_append]
  simp [h]
theorem gather_len (f : Nat → Option V) (n : Nat) : (gather f n).length ≤ n := by
  unfold gather
  exact Nat.le_trans (List.length_filterMap_le ..) (by simp)
/-- over a list: the items kept, each made anew -/
theorem gather_take {α : Type} (xs : List α) (p : α → Option V) : ∀ n, n ≤ xs.length → gather (fun i => (xs[i]?).bind p) n = (xs.take n).filterMap p
  | 0, _ => rfl
  | n + 1, h => by
    have ih := gather_take xs p n (by omega)
    have hn : xs[n]? = some (xs[n]'(by omega)) := List.getElem?_eq_getElem (by omega)
    rw [List.take_add_one, hn, List.filterMap_append, ← ih]
    cases e : p (xs[n]'(by omega)) with
    | none =>
      rw [gather_none (by rw [hn]; exact e)]
      simp [e]
    | some y =>
      rw [gather_some (y := y) (by rw [hn]; exact e)]
      simp [e]
theorem gather_list {α : Type} (xs : List α) (p : α → Option V) : gather (fun i => (xs[i]?).bind p) xs.length = xs.filterMap p := by
  rw [gather_take xs p _ (Nat.le_refl _), List.take_length]
theorem gather_map {α : Type} (xs : List α) (f : α → V) : gather (fun i => (xs[i]?).map f) xs.length = xs.map f := by
  have e : (fun i : Nat => (xs[i]?).map f) = fun i : Nat => (xs[i]?).bind fun x => some (f x) := by
    funext i
    cases xs[i]? <;> rfl
  rw [e, gather_list]
  simp
theorem gather_fn (f : Nat → V) (n : Nat) : gather (fun i => some (f i)) n = (List.range n).map f := by
  unfold gather
  simp
/-- a comprehension whose turns leave what is known: f i, what the i-th turn gives -/
theorem lc_gather {J : It} {n : Nat} {G : Hp → Prop} {Y : Nat → Hp → V → Hp → Prop} (w : Walk J n G Y) {g : TG} {tt : TT} {te : TE} {vs : List Nat} {σ : L2.St} {H1 : Hp} {D : Addr} {Qd : Hp → Prop} (f : Nat → Option V) (hD : H1 D = none) (hz : n ≤ sizeLine)
    (hG : ∀ H, Same H1 H → G H)
    (hs : ∀ i x H H', i < n → Same H1 H → Y i H x H' → ∀ R : Option V → Hp → Prop, (∀ H4, Same H H4 → R (f i) H4) →
      g x (wipe σ vs) H' fun σ2 H2 => wipe σ2 vs = wipe σ vs ∧ tt σ2 H2 fun b H3 => if b = true then te σ2 H3 fun y H4 => R (some y) H4 else R none H3)
    (hd : ∀ H, Same H1 H → H D = some (.lst (gather f n)) → Qd H) :
    ∃ W : Nat → Nat → Hp → Prop, (∃ m, W 0 m (upd H1 D (.lst []))) ∧ ∀ i m H, W i m H →
      (J.stop i H ∧ Qd H) ∨ (J.go i H ∧ ∃ Nx : Hp → Prop, (∀ H', Nx H' → ∃ m', m' < m ∧ W (i + 1) m' H') ∧ ∀ x H', J.yld i H x H' → g x (wipe σ vs) H' fun σ2 H2 => wipe σ2 vs = wipe σ vs ∧ tt σ2 H2 fun b H3 =>
        if b = true then te σ2 H3 fun y H4 => ∃ acc, H4 D = some (.lst acc) ∧ acc.length < sizeLine ∧ Nx (upd H4 D (.lst (acc ++ [y]))) else Nx H3) := by
  have s0 : ∀ o, Same H1 (upd H1 D o) := fun o b u e => by rw [upd_ne (ne_of_none e hD)]; exact e
  refine lc_it w (fun i H => Same H1 H ∧ H D = some (.lst (gather f i))) ⟨s0 _, upd_same⟩ (fun i H _ p => hG H p.1) (fun i x H H' hi p y => ?_) fun H p => hd H p.1 p.2
  obtain ⟨p1, p2⟩ := p
  refine hs i x H H' hi p1 y (fun oy H4 => match oy with
    | some y => ∃ acc, H4 D = some (.lst acc) ∧ acc.length < sizeLine ∧ Same H1 (upd H4 D (.lst (acc ++ [y]))) ∧ upd H4 D (.lst (acc ++ [y])) D = some (.lst (gather f (i + 1)))
    | none => Same H1 H4 ∧ H4 D = some (.lst (gather f (i + 1)))) fun H4 q => ?_
  have p4 := p1.trans q
  cases e : f i with
  | none => exact ⟨p4, by rw [gather_none e]; exact q _ _ p2⟩
  | some y =>
    refine ⟨gather f i, q _ _ p2, Nat.lt_of_le_of_lt (gather_len f i) (Nat.lt_of_lt_of_le hi hz), fun b u z => ?_, by rw [upd_same, gather_some e]⟩
    rw [upd_ne (ne_of_none z hD)]
    exact p4 b u z
/-- .. without tests -/
theorem lc_map {J : It} {n : Nat} {G : Hp → Prop} {Y : Nat → Hp → V → Hp → Prop} (w : Walk J n G Y) {g : TG} {te : TE} {vs : List Nat} {σ : L2.St} {H1 : Hp} {D : Addr} {Qd : Hp → Prop} (f : Nat → Option V) (hD : H1 D = none) (hz : n ≤ sizeLine)
    (hG : ∀ H, Same H1 H → G H)
    (hs : ∀ i x H H', i < n → Same H1 H → Y i H x H' → ∀ R : V → Hp → Prop, (∀ y H4, Same H H4 → f i = some y → R y H4) →
      g x (wipe σ vs) H' fun σ2 H2 => wipe σ2 vs = wipe σ vs ∧ te σ2 H2 R) (hf : ∀ i, i < n → ∃ y, f i = some y)
    (hd : ∀ H, Same H1 H → H D = some (.lst (gather f n)) → Qd H) :
    ∃ W : Nat → Nat → Hp → Prop, (∃ m, W 0 m (upd H1 D (.lst []))) ∧ ∀ i m H, W i m H →
      (J.stop i H ∧ Qd H) ∨ (J.go i H ∧ ∃ Nx : Hp → Prop, (∀ H', Nx H' → ∃ m', m' < m ∧ W (i + 1) m' H') ∧ ∀ x H', J.yld i H x H' → g x (wipe σ vs) H' fun σ2 H2 => wipe σ2 vs = wipe σ vs ∧ tYes σ2 H2 fun b H3 =>
        if b = true then te σ2 H3 fun y H4 => ∃ acc, H4 D = some (.lst acc) ∧ acc.length < sizeLine ∧ Nx (upd H4 D (.lst (acc ++ [y]))) else Nx H3) := by
  refine lc_gather w f hD hz hG (fun i x H H' hi s y R k => ?_) hd
  have z := hs i x H H' hi s y (fun y H4 => R (some y) H4) fun y H4 q e => by
    have := k H4 q
    rw [e] at this
    exact this
  exact z
/-- .. whose turns make new things: Rl i y H, what holds of the i-th -/
theorem lc_rel {J : It} {n : Nat} {G : Hp → Prop} {Y : Nat → Hp → V → Hp → Prop} (w : Walk J n G Y) {g : TG} {te : TE} {vs : List Nat} {σ : L2.St} {H1 : Hp} {D : Addr} {Qd : Hp → Prop} (Rl : Nat → V → Hp → Prop) (hD : H1 D = none) (hz : n ≤ sizeLine)
    (hG : ∀ H, Same H1 H → G H) (stable : ∀ i y H H', (∀ b xs, H b = some (.tup xs) → H' b = some (.tup xs)) → Rl i y H → Rl i y H')
    (hs : ∀ i x H H', i < n → Same H1 H → Y i H x H' → ∀ R : V → Hp → Prop, (∀ y H4, Same H H4 → Rl i y H4 → R y H4) →
      g x (wipe σ vs) H' fun σ2 H2 => wipe σ2 vs = wipe σ vs ∧ te σ2 H2 R)
    (hd : ∀ H ys, Same H1 H → H D = some (.lst ys) → ys.length = n → (∀ i y, ys[i]? = some y → Rl i y H) → Qd H) :
    ∃ W : Nat → Nat → Hp → Prop, (∃ m, W 0 m (upd H1 D (.lst []))) ∧ ∀ i m H, W i m H →
      (J.stop i H ∧ Qd H) ∨ (J.go i H ∧ ∃ Nx : Hp → Prop, (∀ H', Nx H' → ∃ m', m' < m ∧ W (i + 1) m' H') ∧ ∀ x H', J.yld i H x H' → g x (wipe σ vs) H' fun σ2 H2 => wipe σ2 vs = wipe σ vs ∧ tYes σ2 H2 fun b H3 =>
        if b = true then te σ2 H3 fun y H4 => ∃ acc, H4 D = some (.lst acc) ∧ acc.length < sizeLine ∧ Nx (upd H4 D (.lst (acc ++ [y]))) else Nx H3) := by
  have s0 : ∀ o, Same H1 (upd H1 D o) := fun o b u e => by rw [upd_ne (ne_of_none e hD)]; exact e
  refine lc_it w (fun i H => Same H1 H ∧ ∃ ys, H D = some (.lst ys) ∧ ys.length = i ∧ ∀ j y, ys[j]? = some y → Rl j y H) ⟨s0 _, [], upd_same, rfl, fun j y e => by simp at e⟩ (fun i H _ p => hG H p.1) (fun i x H H' hi p y => ?_) fun H p => ?_
  · obtain ⟨p1, ys, p2, p3, p4⟩ := p
    have z := hs i x H H' hi p1 y (fun y H4 => ∃ acc, H4 D = some (.lst acc) ∧ acc.length < sizeLine ∧ Same H1 (upd H4 D (.lst (acc ++ [y]))) ∧
      ∃ ys, upd H4 D (.lst (acc ++ [y])) D = some (.lst ys) ∧ ys.length = i + 1 ∧ ∀ j y', ys[j]? = some y' → Rl j y' (upd H4 D (.lst (acc ++ [y])))) fun y H4 q r => by
        have e4 := q _ _ p2
        have tups : ∀ o b xs, H4 b = some (.tup xs) → upd H4 D o b = some (.tup xs) := fun o b xs e => by
          by_cases hb : b = D
          · rw [hb, e4] at e
            cases e
          · rw [upd_ne hb]
            exact e
        refine ⟨ys, e4, by rw [p3]; exact Nat.lt_of_lt_of_le hi hz, fun b u e => by rw [upd_ne (ne_of_none e hD)]; exact (p1.trans q) b u e, ys ++ [y], upd_same, by simp [p3], fun j y' e => ?_⟩
        by_cases hj : j < ys.length
        · rw [List.getElem?_append_left hj] at e
          exact stable j y' H4 _ (tups _) (stable j y' H H4 (fun b xs e => q _ _ e) (p4 j y' e))
        · rw [List.getElem?_append_right (by omega)] at e
          have ej : j = ys.length := by
            have := (List.getElem?_eq_some_iff.mp e).1
            simp at this
            omega
          subst ej
          simp at e
          subst e
          rw [p3]
          exact stable _ _ H4 _ (tups _) r
    exact z
  · obtain ⟨p1, ys, p2, p3, p4⟩ := p
    exact hd H ys p1 p2 p3 p4
end
end Sho
set_option Elab.async false
set_option linter.all false
set_option maxRecDepth 100000
set_option maxHeartbeats 2000000
/-! A callable that is handed on, called without arguments. -/
namespace Sho
open PySem PySem.Spec PyProof.Rows L2 LamX NdefX
section
variable {X : Cx} {pins : List (Addr × Obj)} {σ : L2.St} {H : Hp} {s : Shared} {cl : List (Str × Addr)} {fr : List Str} {ws : List (Option V)}
theorem cells_un {fs ex : List Addr} {H0 : Hp} {h0 h : Heap} (C : CellsAt cl fr ws h0 H0) (U : Un fs ex H0 H h0 h) (hex : ∀ y c, cl.lookup y = some c → c ∉ ex) : CellsAt cl fr ws h H := by
  have one : ∀ {y : Str} {c : Addr} {v : Option Value}, cl.lookup y = some c → h0.IsCell c v → h.IsCell c v := fun {y c v} e ⟨o, ho, hd⟩ => by
    by_cases hm : c ∈ fs
    · obtain ⟨sl, q⟩ := U.slot c o ho (C.all y c e).1 hm (hex y c e)
      exact ⟨_, q, hd⟩
    · exact ⟨o, U.keep c o ho (C.all y c e).1 hm (hex y c e), hd⟩
  refine ⟨C.len, fun y c e => ?_, C.inj, fun i y hi => ?_⟩
  · obtain ⟨n, v, o, ho, hd⟩ := C.all y c e
    exact ⟨U.free c o ho n (hex y c e), v, one e ⟨o, ho, hd⟩⟩
  · obtain ⟨c, e, k⟩ := C.has i y hi
    refine ⟨c, e, fun v hv => ?_⟩
    obtain ⟨u, r, z⟩ := k v hv
    exact ⟨u, r, one e z⟩
/-- cells of the entry's time stand as they stood -/
theorem cells_kept (I : Inv X pins σ H s) (C : CellsAt cl fr ws X.s_0.heap X.H_0) (hex : ∀ y c, cl.lookup y = some c → c ∉ X.ex) : CellsAt cl fr ws s.heap H := cells_un C I.base hex

/-- x(): x's slot holds a callable -/
def tAct (P : Program) (w : World) (K : PySem.W.Frag) (mg : Str → Option Value) (base : Heap) (CX : CXT) (k : Nat) (i : Nat) (cl : List (Str × Addr)) (fr : List Str) (ws : List (Option V)) (E : L2.St → XK) : TE := fun σ H Q =>
  ∃ f sp, σ[i]? = some (some (.ref f)) ∧ Act P w K mg base CX k cl fr sp f H ∧ sp ws H Q (E σ)
theorem pe_act {CX : CXT} {k i : Nat} {E : L2.St → XK} {x : Str} {p pos : Pos} (hr : Room k X.A) (C : CellsAt cl fr ws X.s_0.heap X.H_0) (hex : ∀ y c, cl.lookup y = some c → c ∉ X.ex) (hx : ∀ σ, PassesAt CX X σ (E σ))
    (hN : X.N[i]? = some x) (hv : Vis X.env.scope x) (hd : (x == ("__debug__" : Str)) = false := by decide) (hcd : (x == ("__classdict__" : Str)) = false := by decide) :
    PE X (.Call (.Name x p) [] [] pos) (tAct X.prog X.w X.K X.mg X.base CX k i cl fr ws E) := by
  refine ⟨fun pins s σ H Q I ⟨f, sp, hs, ⟨Z, ecl, hl, run⟩, h⟩ => ?_⟩
  refine wpAny_Call_Name_kw (thn ((pe_var (pos := p) (i := i) hN hv hd hcd).run pins s σ H (fun v H1 => v = .ref f ∧ H1 = H) I ⟨.ref f, hs, rfl, rfl⟩) fun u s1 y => ?_)
  obtain ⟨v, H1, I1, rv, rfl, rfl⟩ := y
  obtain rfl : u = Value.ref f := rv
  obtain ⟨pm, ctv, ho⟩ := lamO_at I1.hok hl.o
  refine PySem.W.callWith_F0 ⟨_, _, _, _, ho⟩ ?_
  refine wpAny_call (codeAny_mono (run X.A X.stack s1 H1 ws Q (E σ) hr I1.env0 hl (cells_kept I1 C hex) h) fun r s' hq => ?_)
  cases r with
  | error e => exact hx σ pins H1 s1 e s' I1 hq
  | ok fl =>
    cases fl with
    | ret u => exact I1.after hq
    | next => exact hq.elim
    | brk => exact hq.elim
    | cont => exact hq.elim

/-- g(e): a def of the module, its promise told of the very state; know: what the state at the call shows -/
theorem pe_callAt {CX : CXT} {E : XK} {know : L2.St → Shared → Hp → Prop} {sp : L2.St → V → Hp → VK → Prop} {g : Addr} {x : Str} {e : Expr} {ta : TA} {p pos : Pos} (hg : Gl X x) (hm : X.mg x = some (.ref g)) (hk : PySem.W.keepIn X.K (.ref g) = true)
    (hx : Passes CX X E) (hP : ∀ (pins : List (Addr × Obj)) (σ : L2.St) (H : Hp) (s : Shared), Inv X pins σ H s → know σ s H) (ha : PA X [e] ta)
    (run : ∀ (σ : L2.St) (s : Shared) (H : Hp) (u : Value) (v : V) (Q : VK), Env0 X.prog X.w X.K X.mg X.base X.A X.stack s H → know σ s H → RelV v u → sp σ v H Q →
      codeAny (model X.prog X.w) X.A (.call (.ref g) ⟨[u], []⟩) (CR CX X.stack X.prog X.w H s Q E) s)
    (hdb : (x == ("__debug__" : Str)) = false := by decide) (hst : starEach [e] X.env = (false, eval e X.env) :: starEach [] X.env := by rfl) :
    PE X (.Call (.Name x p) [e] [] pos) (fun σ H Q => ta σ H fun vs H1 => ∃ v, vs = [v] ∧ sp σ v H1 Q) := by
  refine ⟨fun pins s σ H Q I h => ?_⟩
  refine wpAny_Call_Name_kw (ld_glob I hg hm ?_ hdb)
  refine PySem.W.callWith_K (h₀ := X.base) I.ok.mod.kin hk (thn (ha.run pos pins s σ H _ I h) fun us s1 y => ?_) hst rfl
  · obtain ⟨vs, H1, I1, rv, v, rfl, q⟩ := y
    cases rv with
    | @cons _ u _ _ ru rn =>
    cases rn
    refine ⟨I1.kIn, wpAny_call (codeAny_mono (run σ s1 H1 u v Q I1.env0 (hP pins σ H1 s1 I1) ru q) fun r s' hq => ?_)⟩
    cases r with
    | error er => exact hx pins σ H1 s1 er s' I1 hq
    | ok fl =>
      cases fl with
      | ret w2 => exact I1.after hq
      | next => exact hq.elim
      | brk => exact hq.elim
      | cont => exact hq.elim
end
end Sho
set_option Elab.async false
set_option linter.all false
set_option maxRecDepth 100000
set_option maxHeartbeats 2000000
/-! Operators of own classes by a promise; instances made with a star. -/
namespace Sho
open PySem PySem.Spec PyProof.Rows L2 StX

section
variable {P : Program} {w : World} {K : PySem.W.Frag} {mg : Str → Option Value} {base : Heap} {CX : CXT} {k : Nat} {f : Addr} {fd : FuncData} {ps : List Str} {sp : Sp}
/-- a def's promise by its values alone -/
theorem fnr_of (F : FnOk P w K mg base CX k f fd ps sp) (hb : Binds K fd ps []) : FnR P w K mg base CX k f sp := by
  intro A outer s H us vs Q E hr e0 r h
  have hl := F.len _ _ _ _ h
  have hk : K.In s.heap := e0.mod.kin.keeps fun b o e => (e0.bs b o e).1
  have b := hb s us hk (by rw [List.append_nil, ← r.length]; exact hl)
  rw [List.append_nil] at b
  exact F.run A outer s H ⟨us, []⟩ us vs Q E hr e0 b r h
end

section
variable {X : Cx} {CX : CXT} {k : Nat} {f C : Addr} {sp : Sp} {E : XK}
theorem run_r {pins : List (Addr × Obj)} {σ : L2.St} {H : Hp} {s : Shared} {Q : VK} {us : List Value} {vs : List V} (F : FnR X.prog X.w X.K X.mg X.base CX k f sp) (hr : Room k X.A) (hx : Passes CX X E)
    (I : Inv X pins σ H s) (r : Vals vs us) (h : sp vs H Q E) : wpAny (model X.prog X.w) X.A (call (.ref f) us) (EP X pins σ Q) X.xe s := by
  refine wpAny_call (codeAny_mono (F X.A X.stack s H us vs Q E hr I.env0 r h) fun r s' hq => ?_)
  cases r with
  | error e => exact hx pins σ H s e s' I hq
  | ok fl =>
    cases fl with
    | ret u => exact I.after hq
    | next => exact False.elim hq
    | brk => exact False.elim hq
    | cont => exact False.elim hq

theorem back_of {pins : List (Addr × Obj)} {σ : L2.St} {Q : VK} {u : Value} {s' : Shared} (h : EP X pins σ Q u s') : PySem.W.CmpBack (EP X pins σ Q) u s' := by
  obtain ⟨v, H', I, r, q⟩ := h
  cases u with
  | notImplemented => exact nomatch (show absV Value.notImplemented = some v from RelV.abs r)
  | _ => exact ⟨v, H', I, r, q⟩

/-- an own instance, the instance's own place in the heap -/
def InsAt (H : Hp) (a C : Addr) : Prop := ∃ dx fs, H a = some (.ins C dx fs)

/-- a op b, both of the class at C, C's own method -/
def rOwn2 (C : Addr) (sp : Sp) (E : XK) : R2 := fun x y H Q => ∃ a b, x = .ref a ∧ y = .ref b ∧ InsAt H a C ∧ InsAt H b C ∧ sp [.ref a, .ref b] H Q E
theorem op_own2 {op : Operator} (F : FnR X.prog X.w X.K X.mg X.base CX k f sp) (hr : Room k X.A) (hx : Passes CX X E) (hc : PySem.W.selfFirst X.K C = true)
    (hs : PySem.W.findIn X.K (.ref C) (PySem.dunder op.info.2) = some (some (.ref f))) (hf : PySem.W.isFn X.K (.ref f) = true) : OpR X (binaryOp op) (rOwn2 C sp E) := by
  rintro pins s σ H x y u v Q I rx ry ⟨a, b, rfl, rfl, ⟨dx, fs, ha⟩, ⟨dy, gs, hb⟩, h⟩
  cases rx
  cases ry
  obtain ⟨mA, J, _⟩ := ins_get I.hok ha
  obtain ⟨mB, J', _⟩ := ins_get I.hok hb
  obtain ⟨od, J, _⟩ := J.look
  obtain ⟨od', J', _⟩ := J'.look
  obtain ⟨m, hF⟩ := I.fr
  exact PySem.W.binop_K hF I.ok.mod.kin J J'.type hc hs hf (thn (run_r (vs := [.ref a, .ref b]) F hr hx I (.cons rfl (.cons rfl .nil)) h) fun u s' q => back_of q)

/-- a op b, a of the class at C, b of the built-in type T -/
def rOwnT (C : Addr) (sp : Sp) (E : XK) (isT : V → Prop) : R2 := fun x y H Q => ∃ a, x = .ref a ∧ isT y ∧ InsAt H a C ∧ sp [.ref a, y] H Q E
theorem op_ownT {op : Operator} {T : String} {isT : V → Prop} {fo ro rc : Option Value} (F : FnR X.prog X.w X.K X.mg X.base CX k f sp) (hr : Room k X.A) (hx : Passes CX X E) (hc : PySem.W.selfFirst X.K C = true)
    (hT : ∀ y v, isT y → RelV y v → typeOf v = pure (.type T))
    (hs : PySem.W.findIn X.K (.ref C) (PySem.dunder op.info.2) = some (some (.ref f))) (hf : PySem.W.isFn X.K (.ref f) = true)
    (hr2 : PySem.W.findIn X.K (.ref C) (dunderR op.info.2) = some rc) (hp : rc = none ∨ ∃ g : Addr, rc = some (.ref g))
    (h1 : PySem.W.findIn X.K (.type T) (PySem.dunder op.info.2) = some fo) (h2 : PySem.W.findIn X.K (.type T) (dunderR op.info.2) = some ro) (hsub : PySem.W.subIn X.K (.type T) (.ref C) = some false) :
    OpR X (binaryOp op) (rOwnT C sp E isT) := by
  rintro pins s σ H x y u v Q I rx ry ⟨a, rfl, ht, ⟨dx, fs, ha⟩, h⟩
  cases rx
  obtain ⟨mA, J, _⟩ := ins_get I.hok ha
  obtain ⟨od, J, _⟩ := J.look
  obtain ⟨m, hF⟩ := I.fr
  exact PySem.W.ksp_binT hF I.ok.mod.kin J (hT _ _ ht ry) hc hs hf hr2 hp h1 h2 hsub (thn (run_r (vs := [.ref a, y]) F hr hx I (.cons rfl (.cons ry .nil)) h) fun u s' q => back_of q)
def isInt : V → Prop := fun y => ∃ i, y = .int i
def isStr : V → Prop := fun y => ∃ i, y = .str i
theorem ty_int : ∀ y v, isInt y → RelV y v → typeOf v = pure (.type "int") := by
  rintro y v ⟨i, rfl⟩ ⟨t, rfl⟩
  rfl
theorem ty_str : ∀ y v, isStr y → RelV y v → typeOf v = pure (.type "str") := by
  rintro y v ⟨i, rfl⟩ ⟨t, rfl⟩
  rfl

/-- x in a, not in: a's own __contains__, which hands back a bool -/
def rOwnIn (C : Addr) (neg : Bool) (sp : Sp) (E : XK) : R2 := fun x y H Q => ∃ a, y = .ref a ∧ InsAt H a C ∧ sp [.ref a, x] H (fun r H' => ∃ c, r = .bl c ∧ Q (.bl (if neg then !c else c)) H') E
theorem op_ownIn (F : FnR X.prog X.w X.K X.mg X.base CX k f sp) (hr : Room k X.A) (hx : Passes CX X E)
    (hs : PySem.W.findIn X.K (.ref C) "__contains__" = some (some (.ref f))) (hf : PySem.W.isFn X.K (.ref f) = true) : OpR X (compareOp .In) (rOwnIn C false sp E) := by
  rintro pins s σ H x y u v Q I rx ry ⟨a, rfl, ⟨dx, fs, ha⟩, h⟩
  cases ry
  obtain ⟨mA, J, _⟩ := ins_get I.hok ha
  obtain ⟨od, J, _⟩ := J.look
  obtain ⟨m, hF⟩ := I.fr
  refine PySem.W.in_K hF I.ok.mod.kin J hs hf (thn (run_r (vs := [.ref a, x]) F hr hx I (.cons rfl (.cons rx .nil)) h) fun r s' q => ?_)
  obtain ⟨v2, H2, I2, r2, c, rfl, q2⟩ := q
  cases r2
  exact wpAny_truthy_bool ⟨.bl _, H2, I2, rfl, q2⟩
theorem op_ownNotIn (F : FnR X.prog X.w X.K X.mg X.base CX k f sp) (hr : Room k X.A) (hx : Passes CX X E)
    (hs : PySem.W.findIn X.K (.ref C) "__contains__" = some (some (.ref f))) (hf : PySem.W.isFn X.K (.ref f) = true) : OpR X (compareOp .NotIn) (rOwnIn C true sp E) := by
  rintro pins s σ H x y u v Q I rx ry ⟨a, rfl, ⟨dx, fs, ha⟩, h⟩
  cases ry
  obtain ⟨mA, J, _⟩ := ins_get I.hok ha
  obtain ⟨od, J, _⟩ := J.look
  obtain ⟨m, hF⟩ := I.fr
  refine PySem.W.notIn_K hF I.ok.mod.kin J hs hf (thn (run_r (vs := [.ref a, x]) F hr hx I (.cons rfl (.cons rx .nil)) h) fun r s' q => ?_)
  obtain ⟨v2, H2, I2, r2, c, rfl, q2⟩ := q
  cases r2
  exact wpAny_truthy_bool ⟨.bl _, H2, I2, rfl, q2⟩

/-- a[i]: a's own __getitem__ -/
def rOwnIx (C : Addr) (sp : Sp) (E : XK) : R2 := fun x y H Q => ∃ a, x = .ref a ∧ InsAt H a C ∧ sp [.ref a, y] H Q E
/-- C(*y), y a list or a tuple -/
def tMakeS (K : PySem.W.Frag) (C : Addr) (sp : Sp) (E : XK) (te : TE) : TE := fun σ H Q => te σ H fun y H1 => ∃ a xs, y = V.ref a ∧ (SqT K H1 a xs ∨ SqL K H1 a xs) ∧ ∀ x dx, H1 x = Option.none → H1 dx = Option.none → dx ≠ x →
  sp (V.ref x :: xs) (upd (upd H1 dx (.own x)) x (.ins C dx [])) (fun v H2 => v = .non ∧ Q (.ref x) H2) E
theorem pe_makeS {x : Str} {e : Expr} {te : TE} {p sp_ pos : Pos} (M : Mk X.K C f) (F : FnR X.prog X.w X.K X.mg X.base CX k f sp) (hr : Room (k + 1) X.A) (hg : Gl X x) (hm : X.mg x = some (.ref C)) (hx : Passes CX X E) (he : PE X e te) (hd : (x == ("__debug__" : Str)) = false := by decide)
    (hst : starEach [.Starred e sp_] X.env = [(true, eval e X.env)] := by rfl) : PE X (.Call (.Name x p) [.Starred e sp_] [] pos) (tMakeS X.K C sp E te) := by
  refine ⟨fun pins s σ H Q I h => ?_⟩
  refine wpAny_Call_Name_kw (ld_glob I hg hm ?_ hd)
  refine PySem.W.callWith_S (h₀ := X.base) I.ok.mod.kin M.kp (thn (he.run pins s σ H _ I h) fun v s1 ⟨y, H1, I1, ry, a, xs, ey, hxs, q⟩ => ?_) hst
  subst ey
  obtain rfl : v = Value.ref a := ry
  exact star_any I1 hxs fun us s2 I2 rv => ⟨I2.kIn, run_makeR M F hr hx I2 rv q⟩
/-- C() -/
theorem pe_makeR0 {x : Str} {p pos : Pos} (M : Mk X.K C f) (F : FnR X.prog X.w X.K X.mg X.base CX k f sp) (hr : Room (k + 1) X.A) (hg : Gl X x) (hm : X.mg x = some (.ref C)) (hx : Passes CX X E) (hdb : (x == ("__debug__" : Str)) = false := by decide) :
    PE X (.Call (.Name x p) [] [] pos) (tMakeR C sp E tNil) := by
  refine ⟨fun pins s σ H Q I h => ?_⟩
  refine wpAny_Call_Name_kw (ld_glob I hg hm ?_ hdb)
  exact PySem.W.callWith_K0 I.kIn M.kp (run_makeR (us := []) M F hr hx I .nil h)
end
end Sho
set_option Elab.async false
set_option linter.all false
namespace Sh1
open PySem L2
abbrev pw : Program := PySem.Challenge.pw_shoepile_k08_goings_by_search
def top (i : Nat) : Stmt := PySem.Challenge.pw_shoepile_k08_goings_by_search.main.body.getD i (.Pass ⟨0, 0, 0, 0⟩)
abbrev sWall : Stmt := top 0
abbrev cPartyError : Stmt := top 2
abbrev cInvalidStay : Stmt := top 3
abbrev sInvInit : Stmt := inClass (top 3) 0
abbrev cUnknownGuest : Stmt := top 4
abbrev sUnkInit : Stmt := inClass (top 4) 0
abbrev cInvalidNumber : Stmt := top 5
abbrev cTooManyGuests : Stmt := top 6
abbrev cInvalidGoings : Stmt := top 7
abbrev sGoingsInit : Stmt := inClass (top 7) 0
abbrev cContradiction : Stmt := top 8
abbrev sIsName : Stmt := top 12
abbrev sIsWithin : Stmt := top 13
abbrev sIsTick : Stmt := top 14
abbrev sIsStay : Stmt := top 15
abbrev sBottomUp : Stmt := top 16
abbrev sLiftedFrom : Stmt := top 17
abbrev sCheck : Stmt := top 19
abbrev cParty : Stmt := top 20
abbrev sPInit : Stmt := inClass (top 20) 1
abbrev sPEvening : Stmt := inClass (top 20) 2
abbrev sPStays : Stmt := inClass (top 20) 3
abbrev sPNames : Stmt := inClass (top 20) 4
abbrev sPStayOf : Stmt := inClass (top 20) 5
abbrev sPLen : Stmt := inClass (top 20) 6
abbrev sPBool : Stmt := inClass (top 20) 7
abbrev sPIn : Stmt := inClass (top 20) 8
abbrev sPIx : Stmt := inClass (top 20) 9
abbrev sPIter : Stmt := inClass (top 20) 10
abbrev sPEq : Stmt := inClass (top 20) 11
abbrev sPSub : Stmt := inClass (top 20) 12
abbrev sPAdd : Stmt := inClass (top 20) 13
abbrev sPShift : Stmt := inClass (top 20) 14
abbrev sPCall : Stmt := inClass (top 20) 15
abbrev sPCross : Stmt := inClass (top 20) 16
abbrev sPPile : Stmt := inClass (top 20) 17
abbrev sCheckComings : Stmt := top 23
abbrev sCheckGoings : Stmt := top 24
abbrev sAfterGoing : Stmt := top 25
abbrev sWaysToGo : Stmt := top 26
abbrev cGoingObserver : Stmt := top 27
abbrev sGoingObserver_Init : Stmt := inClass (top 27) 0
abbrev sGoingObserver_Records : Stmt := inClass (top 27) 1
abbrev sGoingObserver_CheckIndex : Stmt := inClass (top 27) 2
abbrev sGoingObserver_Names : Stmt := inClass (top 27) 3
abbrev sGoingObserver_WaysWith : Stmt := inClass (top 27) 4
abbrev sGoingObserver_Accept : Stmt := inClass (top 27) 5
abbrev sGoingObserver_SeeLift : Stmt := inClass (top 27) 6
abbrev sGoingObserver_SeeGuest : Stmt := inClass (top 27) 7
abbrev sGoingObserver_WayCount : Stmt := inClass (top 27) 8
abbrev sGoingObserver_PossibleGuests : Stmt := inClass (top 27) 9
abbrev sGoingObserver_FindParty : Stmt := inClass (top 27) 10
abbrev sStart : Stmt := top 29
abbrev sDrawn : Stmt := top 30
abbrev sSame : Stmt := top 31
abbrev sOut : Stmt := top 32
abbrev sLawPlan : Stmt := top 33
abbrev sLawWays : Stmt := top 34
abbrev sLawAgrees : Stmt := top 35
abbrev sLawStep : Stmt := top 36
abbrev sLaw : Stmt := top 37
abbrev nDue : PySem.Str := "_law_due"
end Sh1
set_option Elab.async false
set_option linter.all false
set_option maxRecDepth 100000
set_option maxHeartbeats 2000000
namespace Sh1
open PySem L2 Sho
abbrev Stay := Str × Int × Int
def StayV (H : Hp) (v : V) (x : Stay) : Prop := ∃ t, v = .ref t ∧ H t = some (.tup [.str x.1, .int x.2.1, .int x.2.2])
/-- the builtins that the text calls -/
structure Blt (mg : Str → Option Value) : Prop where
  len : mg "len" = none
  all : mg "all" = none
  isi : mg "isinstance" = none
  bool : mg "bool" = none
  tuple : mg "tuple" = none
  list : mg "list" = none
  range : mg "range" = none
  enum : mg "enumerate" = none
  int : mg "int" = none
  sup : mg "super" = none
  sorted : mg "sorted" = none
section
variable {P : Program} {w : World} {K : PySem.W.Frag} {mg : Str → Option Value} {base : Heap}
/-! ### is_name -/
def letter (c : Nat) : Bool := !decide (c < 97) && !decide (122 < c)
def okName (z : Str) : Bool := decide ((1 : Int) ≤ z.length) && (decide ((z.length : Int) ≤ 8) && z.cps.toList.all letter)
theorem one_lt (c d : Nat) : ([c] < [d]) ↔ c < d := by
  rw [List.cons_lt_cons_iff]
  simp
theorem cps_a : (Str.ofString "a").cps.toList = [97] := by decide +kernel
theorem cps_z : (Str.ofString "z").cps.toList = [122] := by decide +kernel
def spIsName : Sp := fun vs H Q _ => ∃ z : Str, vs = [.str z] ∧ z.length ≤ sizeLine ∧ ∀ H', Same H H' → Q (.bl (okName z)) H'
theorem scIsName : FnScope ["word", "letter"] ["word"] (defScope sIsName) := ⟨rfl, rfl, rfl, by decide +kernel, rfl, by decide +kernel, by decide +kernel⟩
theorem ok_isName {f : Addr} {fd : FuncData} {t8 : Tok} (F : Fun K "is_name" "is_name" sIsName f fd) (B : Blt mg) (g8 : mg "LONGEST_NAME" = some (.int 8 t8)) : FnOk P w K mg base CX0 1 f fd ["word"] spIsName := by
  refine F.ok scIsName (fun vs H Q E h => ?_) (fun cdv A outer s H vs Q E hr h => ?_)
  · obtain ⟨z, rfl, _⟩ := h
    rfl
  · obtain ⟨z, rfl, hz, k⟩ := h
    refine ⟨_, pss_one (ps_ret (pe_and (pe_chain op_le op_le pe_int (pe_callB call_len_str (by rfl) B.len PySem.boot_len (pa_cons (pv 0) pa_nil)) (pe_glob (v := .int 8) rfl g8 ⟨_, rfl⟩)) (pe_one
      (pe_callB (cr_all rfl) (by rfl) B.all (by decide +kernel) (pa_cons (pe_lc (own := [("letter", 1)]) (g := gName 1) (tt := tYes) rfl scIsName.nd (pi_str (pv 0)) (blkOk_by (own := [("letter", 1)]) (N := ["word", "letter"]) (sc := defScope sIsName) (by decide +kernel))
        (fun _ _ _ _ _ => pg_name (i := 1) scIsName.nd rfl (Or.inl rfl)) (fun _ _ _ _ _ => pts_nil)
        (fun _ _ _ _ _ => pe_chain op_le_str op_le_str pe_str (pv 1) pe_str)) pa_nil))))), ?_⟩
    refine ⟨_, rfl, z, rfl, hz, _, _, rfl, rfl, _, rfl, ?_⟩
    refine ite2 (fun h1 => ?_) (fun h1 => ?_)
    · refine ⟨_, _, rfl, rfl, _, rfl, ?_⟩
      refine ite2 (fun h2 => ?_) (fun h2 => ?_)
      · refine ⟨_, rfl, z, rfl, fun D hD => ?_⟩
        refine lc_map (walk_str (z := z)) (fun i => (z.cps.toList[i]?).map fun c => .bl (letter c)) hD hz (fun _ _ => trivial) (fun i x H1 H' hi s1 y R k1 => ?_) (fun i hi => ⟨_, by rw [List.getElem?_eq_getElem (by simpa using hi)]; rfl⟩) fun H1 s1 e1 => ?_
        · obtain ⟨rfl, c, hc, rfl⟩ := y
          refine ⟨rfl, _, rfl, _, _, rfl, rfl, _, rfl, ?_⟩
          have fi : Option.map (fun c => V.bl (letter c)) z.cps.toList[i]? = some (.bl (letter c)) := by
            rw [Array.getElem?_toList, hc]
            rfl
          have e1 : decide (({ cps := #[c] } : Str).cps.toList < (Str.ofString "a").cps.toList) = decide (c < 97) := by
            rw [cps_a]
            exact decide_eq_decide.mpr (one_lt c 97)
          have e2 : decide ((Str.ofString "z").cps.toList < ({ cps := #[c] } : Str).cps.toList) = decide (122 < c) := by
            rw [cps_z]
            exact decide_eq_decide.mpr (one_lt 122 c)
          rw [e1]
          by_cases h3 : c < 97
          · rw [decide_eq_true h3]
            refine iteF (k1 _ _ (Same.refl _) ?_)
            rw [fi]
            simp [letter, h3]
          · rw [decide_eq_false h3]
            refine iteT ⟨_, _, rfl, rfl, ?_⟩
            rw [e2]
            refine k1 _ _ (Same.refl _) ?_
            rw [fi]
            simp [letter, h3]
        · refine ⟨D, z.cps.toList.map letter, rfl, ?_, ?_⟩
          · have e2 : gather (fun i => (z.cps.toList[i]?).map fun c => V.bl (letter c)) z.cps.size = (z.cps.toList.map letter).map V.bl := by
              have := gather_map z.cps.toList fun c => V.bl (letter c)
              rw [Array.length_toList] at this
              rw [this, List.map_map]
              rfl
            rw [← e2]
            exact SqL.of e1
          · have e3 : okName z = (z.cps.toList.map letter).all id := by
              unfold okName
              have h1' : (1 : Int) ≤ z.length := of_decide_eq_true h1
              have h2' : (z.length : Int) ≤ 8 := of_decide_eq_true h2
              rw [decide_eq_true h1', decide_eq_true h2', List.all_map]
              rfl
            rw [← e3]
            exact k _ s1
      · have e3 : okName z = false := by
          unfold okName
          have h2' : ¬ (z.length : Int) ≤ 8 := fun q => h2 (decide_eq_true q)
          rw [decide_eq_false h2']
          simp
        have := k H (Same.refl H)
        rw [e3] at this
        exact this
    · have e3 : okName z = false := by
        unfold okName
        have h1' : ¬ (1 : Int) ≤ z.length := fun q => h1 (decide_eq_true q)
        rw [decide_eq_false h1']
        rfl
      have := k H (Same.refl H)
      rw [e3] at this
      exact ⟨_, rfl, iteF this⟩
end
end Sh1
set_option Elab.async false
set_option linter.all false
set_option maxRecDepth 100000
set_option maxHeartbeats 2000000
namespace Sh1
open PySem L2 Sho
section
variable {P : Program} {w : World} {K : PySem.W.Frag} {mg : Str → Option Value} {base : Heap}
/-! ### is_tick, is_stay -/
def okTick (n : Int) : Bool := decide (0 ≤ n) && decide (n ≤ 1000000000)
def spIsWithin : Sp := fun vs H Q _ => ∃ n a b : Int, vs = [.int n, .int a, .int b] ∧ Q (.bl (decide (a ≤ n) && decide (n ≤ b))) H
theorem scIsWithin : FnScope ["number", "low", "high"] ["number", "low", "high"] (defScope sIsWithin) := ⟨rfl, rfl, rfl, by decide +kernel, rfl, by decide +kernel, by decide +kernel⟩
theorem ok_isWithin {f : Addr} {fd : FuncData} (F : Fun K "is_within" "is_within" sIsWithin f fd) (B : Blt mg) : FnOk P w K mg base CX0 1 f fd ["number", "low", "high"] spIsWithin := by
  refine F.ok scIsWithin (fun vs H Q E h => ?_) (fun cdv A outer s H vs Q E hr h => ?_)
  · obtain ⟨n, a, b, rfl, _⟩ := h
    rfl
  · obtain ⟨n, a, b, rfl, k⟩ := h
    refine ⟨_, pss_one (ps_ret (pe_and (pe_not (pe_callB call_isi (by rfl) B.isi (by decide +kernel) (pa_cons (pv 0) (pa_cons (pe_bltn (v := .ty "bool") (by rfl) B.bool (by decide +kernel) rfl) pa_nil))))
      (pe_one (pe_chain op_le op_le (pv 1) (pv 0) (pv 2))))), ?_⟩
    refine ⟨_, rfl, .int n, .ty "bool", .type "int", .type "bool", false, rfl, .ty _, .base (.int n), kit_ty (by decide +kernel), _, rfl, _, rfl, iteT ⟨_, rfl, _, rfl, _, _, rfl, rfl, _, rfl, ?_⟩⟩
    refine ite2 (fun h1 => ?_) (fun h1 => ?_)
    · refine ⟨_, rfl, _, _, rfl, rfl, ?_⟩
      rw [h1] at k
      exact k
    · rw [Bool.eq_false_iff.mpr h1] at k
      exact k
def spIsTick : Sp := fun vs H Q _ => ∃ n : Int, vs = [.int n] ∧ Q (.bl (okTick n)) H
theorem scIsTick : FnScope ["number"] ["number"] (defScope sIsTick) := ⟨rfl, rfl, rfl, by decide +kernel, rfl, by decide +kernel, by decide +kernel⟩
theorem ok_isTick {f fW : Addr} {fd fdW : FuncData} {t8 : Tok} (F : Fun K "is_tick" "is_tick" sIsTick f fd) (g9 : mg "LAST_TICK" = some (.int 1000000000 t8))
    (GW : FnOk P w K mg base CX0 1 fW fdW ["number", "low", "high"] spIsWithin) (mW : mg "is_within" = some (.ref fW)) (kW : PySem.W.keepIn K (.ref fW) = true) (bW : Binds K fdW ["number", "low", "high"] []) : FnOk P w K mg base CX0 2 f fd ["number"] spIsTick := by
  refine F.ok scIsTick (fun vs H Q E h => ?_) (fun cdv A outer s H vs Q E hr h => ?_)
  · obtain ⟨n, rfl, _⟩ := h
    rfl
  · obtain ⟨n, rfl, k⟩ := h
    refine ⟨_, pss_one (ps_ret (pe_call GW hr rfl mW kW bW .nil pass0 (pa_cons (pv 0) (pa_cons pe_int (pa_cons (pe_glob (v := .int 1000000000) rfl g9 ⟨_, rfl⟩) pa_nil))))), ?_⟩
    exact ⟨_, rfl, n, 0, 1000000000, rfl, k⟩
def okStay (z : Str) (a b : Int) : Bool := okName z && (okTick a && (okTick b && decide (a < b)))
def spIsStay : Sp := fun vs H Q _ => ∃ (z : Str) (a b : Int), vs = [.str z, .int a, .int b] ∧ z.length ≤ sizeLine ∧ ∀ H', Same H H' → Q (.bl (okStay z a b)) H'
theorem scIsStay : FnScope ["name", "come", "go"] ["name", "come", "go"] (defScope sIsStay) := ⟨rfl, rfl, rfl, by decide +kernel, rfl, by decide +kernel, by decide +kernel⟩
theorem ok_isStay {f fN fT : Addr} {fd fdN fdT : FuncData} (F : Fun K "is_stay" "is_stay" sIsStay f fd) (GN : FnOk P w K mg base CX0 1 fN fdN ["word"] spIsName) (mN : mg "is_name" = some (.ref fN)) (kN : PySem.W.keepIn K (.ref fN) = true) (bN : Binds K fdN ["word"] [])
    (GT : FnOk P w K mg base CX0 2 fT fdT ["number"] spIsTick) (mT : mg "is_tick" = some (.ref fT)) (kT : PySem.W.keepIn K (.ref fT) = true) (bT : Binds K fdT ["number"] []) : FnOk P w K mg base CX0 3 f fd ["name", "come", "go"] spIsStay := by
  refine F.ok scIsStay (fun vs H Q E h => ?_) (fun cdv A outer s H vs Q E hr h => ?_)
  · obtain ⟨z, a, b, rfl, _⟩ := h
    rfl
  · obtain ⟨z, a, b, rfl, hz, k⟩ := h
    refine ⟨_, pss_one (ps_ret (pe_and (pe_call GN (hr.mono (by decide)) rfl mN kN bN .nil pass0 (pa_cons (pv 0) pa_nil)) (pe_and (pe_call GT hr rfl mT kT bT .nil pass0 (pa_cons (pv 1) pa_nil))
      (pe_and (pe_call GT hr rfl mT kT bT .nil pass0 (pa_cons (pv 2) pa_nil)) (pe_one (pe_cmpR op_lt (pv 1) (pv 2) (nomark _))))))), ?_⟩
    have fin : ∀ (c : Bool) (H' : Hp), Same H H' → c = okStay z a b → Q (.bl c) H' := fun c H' s e => by
      rw [e]
      exact k _ s
    refine ⟨_, rfl, z, rfl, hz, fun H1 s1 => ⟨_, rfl, ?_⟩⟩
    refine ite2 (fun h1 => ⟨_, rfl, a, rfl, _, rfl, ?_⟩) (fun h1 => fin _ _ s1 (by unfold okStay; rw [Bool.eq_false_iff.mpr h1]; rfl))
    refine ite2 (fun h2 => ⟨_, rfl, b, rfl, _, rfl, ?_⟩) (fun h2 => fin _ _ s1 (by unfold okStay; rw [Bool.eq_false_iff.mpr h2]; simp))
    refine ite2 (fun h3 => ⟨_, rfl, _, rfl, _, _, rfl, rfl, ?_⟩) (fun h3 => fin _ _ s1 (by unfold okStay; rw [Bool.eq_false_iff.mpr h3]; simp))
    exact fin _ _ s1 (by unfold okStay; rw [h1, h2, h3]; rfl)
end
end Sh1
set_option Elab.async false
set_option linter.all false
set_option maxRecDepth 100000
set_option maxHeartbeats 2000000
namespace Sh1
open PySem L2 Sho NdefX
abbrev nfInv (cc cda : Addr) : NF := ⟨"__init__", "InvalidStay.__init__", defArgs sInvInit, defBody sInvInit, defScope sInvInit, [("__class__", cc)], cda⟩
/-- an own error that stores one field -/
structure ErrC (P : Program) (K : PySem.W.Frag) (mg : Str → Option Value) (x fld : Str) (F : Addr → Addr → NF) (C : Addr) : Prop where
  txt : ∃ f cc cda, SupTxt P K mg (F cc cda) f cc C ∧ PySem.W.findIn K (.ref C) "__init__" = some (some (.ref f)) ∧ PySem.W.typeIn K (.ref f) = some (.type "function")
  cls : SupCls K C C
  xf : XfC K C
  no : PySem.W.findIn K (.ref C) fld = some none
  gm : mg x = some (.ref C)
  exm : PySem.W.exmOne K (.ref C) (.ref C) = some true
section
variable {X : Cx} {CX : CXT} {C : Addr} {k : Nat} {kws : List Keyword} {te : TA} {p pos : Pos}
theorem tells_len {v : V} (h : Tells v) : (∃ y : Str, v = .str y ∧ y.length ≤ 100000) ∨ ∃ i : Int, v = .int i ∧ i.natAbs.log2 < 1920 ∧ (Str.ofString (toString i)).length ≤ 100000 := by
  rcases h with ⟨y, rfl, hy⟩ | ⟨i, rfl, hi⟩
  · exact .inl ⟨y, rfl, hy⟩
  · exact .inr ⟨i, rfl, hi, Nat.le_trans (PyProof.Rows.int_text_len_1921 hi) (by decide)⟩
theorem small_cat {a b : Str} {n m : Nat} (ha : a.length ≤ n) (hb : b.length ≤ m) : (a ++ b).length ≤ n + m := by
  rw [PySem.Str.length_append]
  omega
theorem pmk_inv (EC : ErrC X.prog X.K X.mg "InvalidStay" "index" nfInv C) (hr : Room (k + 2) X.A) (hx : Passes CX X (fun _ _ _ => False)) (hg : Gl X "InvalidStay")
    (hkw : PK X kws te) (hall : (backToKw pos (keywordEach kws X.env)).all (·.1.isSome) = true) (hks : (backToKw pos (keywordEach kws X.env)).filterMap (·.1) = [("index" : Str)])
    (hpl : ((backTo pos (starEach [] X.env)).any (·.1) || (backToKw pos (keywordEach kws X.env)).any (·.1.isNone)) = false) : PMk X (.Call (.Name "InvalidStay" p) [] kws pos) (tMkW C "index" te) := by
  obtain ⟨f, cc, cda, T, iC, tI⟩ := EC.txt
  have S : NScope ["self", "index", "__class__"] ["self", "index"] ["__class__"] (defScope sInvInit) := nscope_by (by decide +kernel)
  refine pmk_kw (F := nfInv cc cda) (fld := "index") (k := k) T EC.cls EC.xf EC.no iC tI S hr hx hg EC.gm hkw hall hks hpl rfl (fun s doc pm an ct xa u => .of_eq rfl) (fun A outer s H E xa v hv => ?_) (fun L => rfl) (fun L => rfl) (fun L => rfl)
  refine ⟨_, pa_cons (pe_joined (.cons pe_str (.cons (pe_fmt (pv 1)) (.cons pe_str .nil)))) pa_nil, fun R hR => ?_⟩
  have e0 : (Str.empty ++ Str.ofString "stay ").length ≤ 10 := by decide +kernel
  have e2 : (Str.ofString " is not allowed").length ≤ 20 := by decide +kernel
  refine ⟨_, rfl, Nat.le_trans e0 (by decide), v, rfl, ?_⟩
  rcases tells_len hv with ⟨y, rfl, hy⟩ | ⟨i, rfl, hi, hl⟩
  · have l1 := small_cat e0 hy
    have l2 := small_cat l1 e2
    exact .inl ⟨y, rfl, Nat.le_trans hy (by decide), y, rfl, Nat.le_trans l1 (by decide), _, rfl, Nat.le_trans l2 (by decide), hR _⟩
  · have l1 := small_cat e0 hl
    have l2 := small_cat l1 e2
    exact .inr ⟨i, rfl, hi, _, rfl, Nat.le_trans l1 (by decide), _, rfl, Nat.le_trans l2 (by decide), hR _⟩
end
end Sh1
set_option Elab.async false
set_option linter.all false
set_option maxRecDepth 100000
set_option maxHeartbeats 2000000
namespace Sh1
open PySem L2 Sho NdefX
abbrev nfUnk (cc cda : Addr) : NF := ⟨"__init__", "UnknownGuest.__init__", defArgs sUnkInit, defBody sUnkInit, defScope sUnkInit, [("__class__", cc)], cda⟩
section
variable {X : Cx} {CX : CXT} {C : Addr} {k : Nat} {kws : List Keyword} {te : TA} {p pos : Pos}
theorem pmk_unk (EC : ErrC X.prog X.K X.mg "UnknownGuest" "name" nfUnk C) (hr : Room (k + 2) X.A) (hx : Passes CX X (fun _ _ _ => False)) (hg : Gl X "UnknownGuest")
    (hkw : PK X kws te) (hall : (backToKw pos (keywordEach kws X.env)).all (·.1.isSome) = true) (hks : (backToKw pos (keywordEach kws X.env)).filterMap (·.1) = [("name" : Str)])
    (hpl : ((backTo pos (starEach [] X.env)).any (·.1) || (backToKw pos (keywordEach kws X.env)).any (·.1.isNone)) = false) : PMk X (.Call (.Name "UnknownGuest" p) [] kws pos) (tMkW C "name" te) := by
  obtain ⟨f, cc, cda, T, iC, tI⟩ := EC.txt
  have S : NScope ["self", "name", "__class__"] ["self", "name"] ["__class__"] (defScope sUnkInit) := nscope_by (by decide +kernel)
  refine pmk_kw (F := nfUnk cc cda) (fld := "name") (k := k) T EC.cls EC.xf EC.no iC tI S hr hx hg EC.gm hkw hall hks hpl rfl (fun s doc pm an ct xa u => .of_eq rfl) (fun A outer s H E xa v hv => ?_) (fun L => rfl) (fun L => rfl) (fun L => rfl)
  refine ⟨_, pa_cons (pe_joined (.cons pe_str (.cons (pe_fmt (pv 1)) .nil))) pa_nil, fun R hR => ?_⟩
  have e0 : (Str.empty ++ Str.ofString "there is no guest ").length ≤ 30 := by decide +kernel
  refine ⟨_, rfl, Nat.le_trans e0 (by decide), v, rfl, ?_⟩
  rcases tells_len hv with ⟨y, rfl, hy⟩ | ⟨i, rfl, hi, hl⟩
  · have l1 := small_cat e0 hy
    exact .inl ⟨y, rfl, Nat.le_trans hy (by decide), y, rfl, Nat.le_trans l1 (by decide), hR _⟩
  · have l1 := small_cat e0 hl
    exact .inr ⟨i, rfl, hi, _, rfl, Nat.le_trans l1 (by decide), hR _⟩
end
end Sh1
set_option Elab.async false
set_option linter.all false
set_option maxRecDepth 100000
set_option maxHeartbeats 2000000
/-! enumerate of a tuple. -/
namespace ShE
open PySem
open Sem (wp)
open AutoSeq1 (wpAny_loadPart')
/-- the enumerate of the tuple o at t -/
theorem meets_enumT (t : Addr) (o : Obj) (items : Array Value) (hc : o.cls = .type "tuple") (n : Nat) (hd : o.data = .seq items n) :
    Meets (Builtin.«enumerate.__new__» ⟨[.type "enumerate", .ref t], []⟩) (fun _ R s => s.heap.get? t = some o ∧
      R (.ok (.ret (.ref (s.heap.push { cls := .type "tuple_iterator", data := .fields #[.ref t, .int 0 0] }).objs.size)))
        { s with heap := (s.heap.push { cls := .type "tuple_iterator", data := .fields #[.ref t, .int 0 0] }).push { cls := .type "enumerate", data := .fields #[.none, .bool false, .ref s.heap.objs.size, rawInt 0, .none, .none] } }) :=
  .of_wp fun prog w A R s h => by
    obtain ⟨hp, g, d, tk, os⟩ := s
    obtain ⟨ht, h⟩ := h
    obtain ⟨oc, od, odt, osl⟩ := o
    replace hc : oc = .type "tuple" := hc
    replace hd : odt = .seq items n := hd
    subst hc hd
    have sub := sub_enumerate
    have isT : Heap.IsTuple (Shared.heap ⟨hp, g, d, tk, os⟩) t items := ⟨_, ht, rfl, n, rfl⟩
    wp_walk using wpAny_loadPart' ht
    refine wpAny_stack_any fun st => wpAny_pure ?_
    split
    · rename_i c _ _ _ _ _
      cases (c == Value.type "enumerate")
      all_goals
        wp_walk using wpAny_loadPart' ht, wpAny_pyIter_tuple isT
        exact ⟨_, rfl, h⟩
    · wp_walk using wpAny_loadPart' ht, wpAny_pyIter_tuple isT
      exact ⟨_, rfl, h⟩
section
variable {prog : Program} {w : World} {A : Around} {E : Value → Shared → Prop} {s : Shared}
theorem call_enumT {t : Addr} {items : Array Value} {Q : Value → Shared → Prop} (hT : s.heap.IsTuple t items)
    (h : ∀ h', IsEnum h' (s.heap.objs.size + 1) s.heap.objs.size 0 .none → h'.IsTupleIter s.heap.objs.size t 0 → h'.objs.size = s.heap.objs.size + 2 →
      (∀ b o, s.heap.get? b = some o → h'.get? b = some o) → Q (.ref (s.heap.objs.size + 1)) { s with heap := h' }) :
    wpAny (model prog w) A (call (.type "enumerate") [.ref t]) Q E s := by
  obtain ⟨o, ho, hc, n, hd⟩ := hT
  refine callType_new F.called_enumerate (by decide) (F.typeCall_enumerate_1 _) (F.newCall_enumerate_1 _) (fun obj => F.args_object_init_2 obj _) F.entry_enumerate_new
    (meets_enumT t o items hc n hd) ⟨ho, ?_⟩
  generalize hI : s.heap.push { cls := .type "tuple_iterator", data := .fields #[.ref t, .int 0 0] } = h1
  have z1 : h1.objs.size = s.heap.objs.size + 1 := by
    rw [← hI]
    exact Heap.size_push ..
  have it1 : h1.get? s.heap.objs.size = some { cls := .type "tuple_iterator", data := .fields #[.ref t, .int 0 0] } := by
    rw [← hI]
    exact Heap.get?_push_size _ rfl
  show _ ∧ _
  rw [z1]
  have en : IsEnum (h1.push { cls := .type "enumerate", data := .fields #[.none, .bool false, .ref s.heap.objs.size, rawInt 0, .none, .none] }) (s.heap.objs.size + 1) s.heap.objs.size 0 .none := by
    have := Heap.get?_push_size h1 (o := { cls := .type "enumerate", data := .fields #[.none, .bool false, .ref s.heap.objs.size, rawInt 0, .none, .none] }) rfl
    rw [z1] at this
    exact this
  refine ⟨⟨_, en, rfl⟩, h _ en ⟨_, Heap.get?_push_of_some _ it1, rfl, rfl⟩ (by rw [Heap.size_push, z1]) fun b o x => Heap.get?_push_of_some _ ?_⟩
  rw [← hI]
  exact Heap.get?_push_of_some _ x
end
end ShE

namespace Sho
open PySem PySem.Spec PyProof.Rows L2
/-- enumerate of the tuple at a: pairs of the turn and its item -/
def Iet (K : PySem.W.Frag) (a : Addr) : It :=
  ⟨fun i H => ∃ (xs : List V) (x : V), SqT K H a xs ∧ xs[i]? = some x, fun i H v H' => ∃ T x, v = .ref T ∧ H T = none ∧ H' = upd H T (.tup [.int (i : Nat), x]) ∧ ∀ xs, SqT K H a xs → xs[i]? = some x,
    fun i H => ∃ xs : List V, SqT K H a xs ∧ xs.length = i⟩
theorem walk_enumT {K : PySem.W.Frag} {a : Addr} {xs : List V} : Walk (Iet K a) xs.length (fun H => SqT K H a xs) (YPair (fun i => some (.int (i : Nat))) (fun i => xs[i]?)) := by
  refine ⟨fun i H hi q => ⟨xs, xs[i], q, by simp [hi]⟩, fun H q => ⟨xs, q, rfl⟩, fun i H v H' _ q y => ?_⟩
  obtain ⟨T, x, h1, h2, h3, h4⟩ := y
  exact ⟨T, .int (i : Nat), x, h1, h2, h3, rfl, h4 xs q⟩
theorem turn_enumT {P : Program} {w : World} {K : PySem.W.Frag} {elts : List Expr} {kk : Nat} {tpos : Pos} (a e it : Addr) :
    Turn P w K (.Tuple elts kk tpos) (Iet K a) [e, it] e (fun i h => (∃ old, IsEnum h e it ((i : Nat) : Int) old) ∧ h.IsTupleIter it a i ∧ e ≠ it ∧ a ≠ it ∧ a ≠ e) where
  mem := by simp
  obj := fun i h st b hb => by
    obtain ⟨⟨old, he⟩, ⟨o, ho, hc, hd⟩, _⟩ := st
    have two : b = e ∨ b = it := by simpa using hb
    rcases two with z | z
    · rw [z]
      exact ⟨_, he, fun v q => nomatch q⟩
    · rw [z]
      exact ⟨o, ho, fun v q => by rw [hd] at q; cases q⟩
  keep := fun i h h' st k => let ⟨⟨old, he⟩, hi, n⟩ := st; ⟨⟨old, k e (by simp) _ he⟩, hi.at fun o q => k it (by simp) o q, n⟩
  item := by
    intro X hP hw hK hc i pins s σ H E I hf st hg
    subst hP hw hK
    obtain ⟨⟨old, he⟩, hit, n1, n2, n3⟩ := st
    obtain ⟨xs, x, hq, hx⟩ := hg
    obtain ⟨its, rv, isT, hz⟩ := I.tuple hq
    have DR := Draws.tuple (prog := X.prog) (w := X.w) (A := X.A.in1) (I.ok.hd hc) it a n2 its.toArray
    obtain ⟨u, hu, ru⟩ := rv.get hx
    have lt : i < its.toArray.size := by
      rw [List.size_toArray]
      exact (List.getElem?_eq_some_iff.mp hu).1
    refine wpAny_pyNext_enum_itemD DR he ⟨hit, isT⟩ lt n1 (by simp [n1, Ne.symm n3]) fun u' h' tk hu' ho st' hT hsz hk => ?_
    have eu : u' = u := by
      have hu' : its.toArray[i]? = some u' := hu'
      rw [List.getElem?_toArray, hu] at hu'
      exact (Option.some.inj hu').symm
    subst eu
    have hel : e < s.heap.objs.size := Heap.lt_size he
    have hil : it < s.heap.objs.size := by
      obtain ⟨_, q, _⟩ := hit
      exact Heap.lt_size q
    refine ⟨_, rfl, wpAny_letOwnedTupleGo_enum (s := { s with heap := h', toks := tk + 1 }) ho fun h'' he' sb => ?_⟩
    have hT2 : h''.get? s.heap.objs.size = some { cls := .type "tuple", data := .seq #[.int i tk, u'] } := (sb.2 _ (Nat.ne_of_gt hel)).trans hT
    have new : ObjOk X.prog X.w (upd H s.heap.objs.size (.tup [.int (i : Nat), x])) h'' s.heap.objs.size (.tup [.int (i : Nat), x]) :=
      ⟨by show 2 ≤ sizeLine; decide, [.int i tk, u'], .cons ⟨_, rfl⟩ (.cons ru .nil), ⟨_, hT2, rfl, _, rfl⟩⟩
    have I1 : Inv X pins σ (upd H s.heap.objs.size (.tup [.int (i : Nat), x])) { s with heap := h'', toks := tk + 1 } :=
      I.turnedNew (ch := [e, it]) (fun b ob hb q => (sb.2 b (fun z => hb (by simp [z]))).trans (hk b ob (fun z => hb (by simp [z])) (fun z => hb (by simp [z])) q)) hf (Nat.le_refl _) new
    refine ⟨.ref s.heap.objs.size, _, I1, rfl, ⟨_, x, rfl, I.hok.fresh (Nat.le_refl _), rfl, fun ys hy => by rw [I.tuple_inj hy hq]; exact hx⟩, ⟨⟨u', ?_⟩, st'.1.at fun o q => (sb.2 it (Ne.symm n1)).trans q, n1, n2, n3⟩, fun b hb => ?_⟩
    · have z : ((i + 1 : Nat) : Int) = (i : Int) + 1 := by omega
      rw [z]
      exact he'
    · have old' : b < s.heap.objs.size := by
        have two : b = e ∨ b = it := by simpa using hb
        rcases two with z | z <;> rw [z] <;> assumption
      rw [upd_ne (Nat.ne_of_lt old')]
      exact (hf b hb).1
  done := by
    intro X hP hw hK hc i pins s σ H E I hf st hg
    subst hP hw hK
    obtain ⟨⟨old, he⟩, hit, n1, n2, n3⟩ := st
    obtain ⟨xs, hq, hx⟩ := hg
    obtain ⟨its, rv, isT, hz⟩ := I.tuple hq
    have DR := Draws.tuple (prog := X.prog) (w := X.w) (A := X.A.in1) (I.ok.hd hc) it a n2 its.toArray
    obtain ⟨f0, f1, f2, f3, f4, f5⟩ := hf it (by simp)
    have ei : i = its.toArray.size := by
      rw [List.size_toArray, ← rv.length]
      exact hx.symm
    refine wpAny_pyNext_enum_endD DR he (show _ from ei ▸ ⟨hit, isT⟩) fun h' eb => ⟨rfl, I.turned (t' := s.toks) (fun b o hb q => eb b o hb q) f0 f1 f3 f4 f5⟩
  self := fun A i s Q E st h => let ⟨⟨_, he⟩, _⟩ := st; wpAny_pyIter_enum he h
def iEnumT (K : PySem.W.Frag) (ta : TA) : TI := fun σ H R => ta σ H fun vs H1 => ∃ a xs, vs = [.ref a] ∧ SqT K H1 a xs ∧ R (Iet K a) H1
theorem pi_enumT {X : Cx} {e : Expr} {ta : TA} {p pos tpos : Pos} {elts : List Expr} {kk : Nat} (hg : Gl X "enumerate") (hm : X.mg "enumerate" = none) (ha : PA X [e] ta) (hs : starEach [e] X.env = [(false, eval e X.env)] := by rfl) :
    PI X (.Tuple elts kk tpos) (.Call (.Name "enumerate" p) [e] [] pos) (iEnumT X.K ta) := by
  refine ⟨fun pins s σ H R I h => ?_⟩
  refine Call_ (ld_blt I hg hm boot_enumerate (PyProof.Rows.callWith_type1 (thn (ha.run pos pins s σ H _ I h) fun us s1 y => ?_) hs rfl))
  obtain ⟨vs, H1, I1, r1, a, xs, rfl, hq, q⟩ := y
  cases r1 with
  | cons r rr =>
    cases rr
    cases r
    obtain ⟨its, rv, isT, hz⟩ := I1.tuple hq
    have lt : a < s1.heap.objs.size := by
      obtain ⟨o, ho, _⟩ := isT
      exact Heap.lt_size ho
    refine ShE.call_enumT isT fun h' he hit hsz hk => wpAny_pyIter_enum he ?_
    have I2 : Inv X pins σ H1 { s1 with heap := h' } := I1.kept (t' := s1.toks) hk
    refine ⟨s1.heap.objs.size + 1, [s1.heap.objs.size + 1, s1.heap.objs.size], _, _, H1, rfl, I2, turn_enumT a (s1.heap.objs.size + 1) s1.heap.objs.size,
      ⟨⟨.none, he⟩, hit, Nat.succ_ne_self _, Nat.ne_of_lt lt, Nat.ne_of_lt (Nat.lt_succ_of_lt lt)⟩, fun b hb => ?_, q⟩
    have le : s1.heap.objs.size ≤ b := by
      have two : b = s1.heap.objs.size + 1 ∨ b = s1.heap.objs.size := by simpa using hb
      rcases two with z | z
      · rw [z]
        exact Nat.le_succ _
      · rw [z]
        exact Nat.le_refl _
    exact I1.fpOk le (I1.hok.fresh le)
end Sho

set_option Elab.async false
set_option linter.all false
set_option maxRecDepth 100000
set_option maxHeartbeats 2000000
namespace Sh1
open PySem L2 Sho NdefX
/-! ### stays as data -/
abbrev StaysV (H : Hp) (vs : List V) (xs : List Stay) : Prop := PySem.Paired (StayV H) vs xs
theorem StayV.same {H H' : Hp} {v : V} {x : Stay} (s : Same H H') (h : StayV H v x) : StayV H' v x := by
  obtain ⟨t, e, ht⟩ := h
  exact ⟨t, e, s _ _ ht⟩
theorem StaysV.same {H H' : Hp} (s : Same H H') : ∀ {vs : List V} {xs : List Stay}, StaysV H vs xs → StaysV H' vs xs
  | _, _, .nil => .nil
  | _, _, .cons h r => .cons (h.same s) (StaysV.same s r)
theorem pair_len {α β : Type} {R : α → β → Prop} : ∀ {as : List α} {bs : List β}, PySem.Paired R as bs → as.length = bs.length
  | _, _, .nil => rfl
  | _, _, .cons _ r => congrArg Nat.succ (pair_len r)
theorem pair_get {α β : Type} {R : α → β → Prop} : ∀ {as : List α} {bs : List β} {i : Nat} {a : α}, PySem.Paired R as bs → as[i]? = some a → ∃ b, bs[i]? = some b ∧ R a b
  | _, _, i, a, .nil, h => by simp at h
  | _, _, 0, a, .cons h r, e => by
    simp at e
    subst e
    exact ⟨_, rfl, h⟩
  | _, _, i + 1, a, .cons h r, e => by
    simp at e
    obtain ⟨b, e2, r2⟩ := pair_get r e
    exact ⟨b, by simpa using e2, r2⟩
theorem log_small {i : Nat} (h : i ≤ sizeLine) : ((i : Int)).natAbs.log2 < 1920 := by
  rw [Int.natAbs_natCast]
  rw [sizeLine_eq] at h
  by_cases z : i = 0
  · rw [z]
    decide
  · refine (Nat.log2_lt z).mpr (Nat.lt_of_le_of_lt h ?_)
    exact Nat.lt_of_lt_of_le (show 16777216 < 2 ^ 25 by decide) (Nat.pow_le_pow_right (by decide) (by decide))
/-! ### tests whose answers are known -/
theorem ans_or {A B : TT} {σ : L2.St} {H : Hp} {Q : Bool → Hp → Prop} (a b : Bool) (hA : ∀ R : Bool → Hp → Prop, (∀ H', Same H H' → R a H') → A σ H R)
    (hB : ∀ H1, Same H H1 → a = false → ∀ R : Bool → Hp → Prop, (∀ H', Same H1 H' → R b H') → B σ H1 R) (hQ : ∀ H', Same H H' → Q (a || b) H') : tOr A B σ H Q := by
  refine hA _ fun H1 s1 => ?_
  cases a with
  | true =>
    refine iteT ?_
    have := hQ H1 s1
    rw [Bool.true_or] at this
    exact this
  | false =>
    refine iteF (hB H1 s1 rfl _ fun H2 s2 => ?_)
    have := hQ H2 (s1.trans s2)
    rw [Bool.false_or] at this
    exact this
/-! ### the first invalid stay -/
def badStay (i : Nat) (seen : List Str) (x : Stay) : Bool := decide ((i : Int) = 24) || (seen.any (fun y => y == x.1) || !okStay x.1 x.2.1 x.2.2)
def firstBadFrom : Nat → List Str → List Stay → Option Nat
  | _, _, [] => none
  | i, seen, x :: r => if badStay i seen x = true then some i else firstBadFrom (i + 1) (seen ++ [x.1]) r
def firstBad (xs : List Stay) : Option Nat := firstBadFrom 0 [] xs
theorem inV_strs (z : Str) (l : List Str) : inV (.str z) (l.map V.str) = l.any (fun y => y == z) := by
  unfold inV
  rw [List.any_map]
  rfl
theorem flat_strs (l : List Str) : (l.map V.str).all flatV = true := by
  rw [List.all_map]
  exact List.all_eq_true.mpr fun _ _ => rfl
section
variable {P : Program} {w : World} {K : PySem.W.Frag} {mg : Str → Option Value} {base : Heap}
/-- names of a reasonable length -/
def Short (xs : List Stay) : Prop := ∀ x ∈ xs, x.1.length ≤ 100000 ∧ x.1.cps.all (· < 0x110000) = true
def spCheck (CI : Addr) : Sp := fun vs H Q E => ∃ (a : Addr) (ws : List V) (xs : List Stay), vs = [.ref a, .int 24] ∧ H a = some (.tup ws) ∧ StaysV H ws xs ∧ Short xs ∧ xs.length ≤ sizeLine ∧
  (firstBad xs = none → ∀ H', Same H H' → Q .non H') ∧
  ∀ i, firstBad xs = some i → ∀ (H' : Hp) (d : Addr), Same H H' → H d = none → H' d = some (.xd [(("index" : Str), .int (i : Nat))]) → E (.ref CI) (some d) H'
theorem scCheck : FnScope ["stays", "most", "names", "index", "name", "come", "go"] ["stays", "most"] (defScope sCheck) := ⟨rfl, rfl, rfl, by decide +kernel, rfl, by decide +kernel, by decide +kernel⟩
theorem ok_check {f fS CI : Addr} {fd fdS : FuncData} (F : Fun K "_check_stays" "_check_stays" sCheck f fd) (B : Blt mg) (EC : ErrC P K mg "InvalidStay" "index" nfInv CI)
    (GS : FnOk P w K mg base CX0 3 fS fdS ["name", "come", "go"] spIsStay) (mS : mg "is_stay" = some (.ref fS)) (kS : PySem.W.keepIn K (.ref fS) = true) (bS : Binds K fdS ["name", "come", "go"] []) :
    FnOk P w K mg base (L2.CX P w) 4 f fd ["stays", "most"] (spCheck CI) := by
  refine F.okX scCheck (fun vs H Q E h => ?_) (fun cdv A outer s H vs Q E hr h => ?_)
  · obtain ⟨a, ws, xs, rfl, _⟩ := h
    rfl
  · obtain ⟨a, ws, xs, rfl, ha, hxs, hsh, hz, kOk, kBad⟩ := h
    have nd := scCheck.nd
    refine ⟨_, pss_cons (ps_set (i := 2) nd rfl (Or.inl rfl) (pe_lst pa_nil)) (pss_one (ps_for (passes_of rfl) rfl (pi_enumT (by rfl) B.enum (pa_cons (pv 0) pa_nil))
      (pg_tup rfl (pgs_cons (pg_name (i := 3) nd rfl (Or.inl rfl)) (pgs_cons (pg_tup rfl (pgs_cons (pg_name (i := 4) nd rfl (Or.inl rfl)) (pgs_cons (pg_name (i := 5) nd rfl (Or.inl rfl)) (pgs_cons (pg_name (i := 6) nd rfl (Or.inl rfl)) pgs_nil)))) pgs_nil)))
      (pss_cons (ps_if (PW.pt (pw_or (pt_cmpR op_eq (pv 3) (pv 1) (nomark _)) (pw_or (pt_cmpR op_in_seq (pv 4) (pv 2) rfl) (pw_or1 (pt_not (pt_val (pe_call GS hr rfl mS kS bS .nil pass0 (pa_cons (pv 4) (pa_cons (pv 5) (pa_cons (pv 6) pa_nil))))))))))
          (pss_one (ps_raise rfl (takes_of rfl rfl rfl rfl) (pmk_inv (k := 0) EC (hr.mono (by decide)) passL (by rfl) (pk_cons (pv 3) pk_nil) rfl rfl rfl))) pss_nil)
        (pss_one (ps_expr (pe_bm PySem.F.plainAttrs_list PySem.F.slot_list_append PySem.F.type_list_append mt_append (pv 2) (pa_cons (pv 4) pa_nil))))))), ?_⟩
    refine ⟨Nat.zero_le _, fun L hL => ?_⟩
    have s1 : Same H (upd H L (.lst [])) := fun b o e => by rw [upd_ne (ne_of_none e hL)]; exact e
    refine ⟨_, rfl, a, ws, rfl, SqT.of (s1 _ _ ha), for_it walk_enumT (fun i σ H2 => ∃ o3 o4 o5 o6, σ = [some (.ref a), some (.int 24), some (.ref L), o3, o4, o5, o6] ∧ Same H H2 ∧
      H2 L = some (.lst ((xs.take i).map fun x => .str x.1)) ∧ firstBadFrom i ((xs.take i).map fun x => x.1) (xs.drop i) = firstBad xs)
      ⟨none, none, none, none, rfl, s1, upd_same, rfl⟩ (fun i σ H2 _ ⟨_, _, _, _, _, s2, _⟩ => SqT.of (s2 _ _ ha)) ?_ ?_⟩
    · rintro i y σ H2 H3 hi ⟨o3, o4, o5, o6, rfl, s2, hL2, hb⟩ ⟨T, y1, y2, rfl, hT, rfl, e1, e2⟩
      cases e1
      obtain ⟨x, hx, t, rfl, ht⟩ := pair_get hxs e2
      have s3 : Same H2 (upd H2 T (.tup [.int (i : Nat), .ref t])) := fun b o e => by rw [upd_ne (ne_of_none e hT)]; exact e
      have hx1 : x.1.length ≤ 100000 := (hsh x (List.mem_of_getElem? hx)).1
      refine ⟨T, _, rfl, SqT.of upd_same, rfl, _, _, rfl, _, _, rfl, t, _, rfl, SqT.of (s3 _ _ (s2 _ _ ht)), rfl, _, _, rfl, _, _, rfl, _, _, rfl, rfl, rfl, ?_⟩
      have hL3 := s3 _ _ hL2
      refine ans_or (decide ((i : Int) = 24)) (((xs.take i).map fun x => x.1).any (fun y => y == x.1) || !okStay x.1 x.2.1 x.2.2) (fun R h => ⟨_, rfl, _, rfl, rfl, _, rfl, ?_⟩) (fun H4 s4 _ R h => ?_) fun H4 s4 => ?_
      · have e : decide (V.int (i : Int) = V.int 24) = decide ((i : Int) = 24) := by
          rw [dec_int]
          rfl
        rw [e]
        exact h _ (Same.refl _)
      · refine ans_or _ _ (fun R h => ⟨_, rfl, _, rfl, L, _, rfl, .inl (SqL.of (s4 _ _ hL3)), rfl, ?_, _, rfl, ?_⟩) (fun H5 s5 _ R h => ⟨_, rfl, _, rfl, _, rfl, x.1, x.2.1, x.2.2, rfl, Nat.le_trans hx1 (by decide), fun H6 s6 => ⟨_, rfl, h _ s6⟩⟩) h
        · have e : (xs.take i).map (fun x => V.str x.1) = ((xs.take i).map fun x => x.1).map V.str := by
            rw [List.map_map]
            rfl
          rw [e]
          exact flat_strs _
        · have e : (xs.take i).map (fun x => V.str x.1) = ((xs.take i).map fun x => x.1).map V.str := by
            rw [List.map_map]
            rfl
          rw [e, if_neg Bool.false_ne_true, inV_strs]
          exact h _ (Same.refl _)
      · have hdrop : xs.drop i = x :: xs.drop (i + 1) := by
          have lt := (List.getElem?_eq_some_iff.mp hx)
          obtain ⟨lt, e⟩ := lt
          rw [List.drop_eq_getElem_cons lt, e]
        rw [hdrop] at hb
        unfold firstBadFrom at hb
        have s24 : Same H H4 := (s2.trans s3).trans s4
        by_cases hbad : badStay i ((xs.take i).map fun x => x.1) x = true
        · rw [if_pos hbad] at hb
          have e : (decide ((i : Int) = 24) || (((xs.take i).map fun x => x.1).any (fun y => y == x.1) || !okStay x.1 x.2.1 x.2.2)) = true := hbad
          rw [e]
          refine iteT ⟨_, rfl, _, rfl, .inr ⟨_, rfl, ?_⟩, fun d hd => ?_⟩
          · have lt : i < xs.length := (List.getElem?_eq_some_iff.mp hx).1
            exact log_small (Nat.le_trans (Nat.le_of_lt lt) hz)
          · refine kBad i hb.symm _ d (fun b o z => ?_) (s24.free hd) upd_same
            rw [upd_ne (ne_of_none (s24 _ _ z) hd)]
            exact s24 _ _ z
        · rw [if_neg hbad] at hb
          have e : (decide ((i : Int) = 24) || (((xs.take i).map fun x => x.1).any (fun y => y == x.1) || !okStay x.1 x.2.1 x.2.2)) = false := Bool.eq_false_iff.mpr hbad
          rw [e]
          have hL4 := s4 _ _ hL3
          refine iteF ⟨_, rfl, .inl ⟨rfl, _, SqL.of hL4⟩, _, rfl, L, _, _, rfl, rfl, hL4, ?_, ?_⟩
          · rw [List.length_map, List.length_take]
            have : i < ws.length := hi
            have := pair_len hxs
            omega
          · have take1 : xs.take (i + 1) = xs.take i ++ [x] := by rw [List.take_add_one, hx]; rfl
            refine ⟨_, _, _, _, rfl, fun b o z => ?_, ?_, ?_⟩
            · rw [upd_ne (ne_of_none z hL)]
              exact s24 _ _ z
            · rw [upd_same, take1, List.map_append]
              rfl
            · rw [take1, List.map_append]
              exact hb
    · rintro σ H2 ⟨o3, o4, o5, o6, rfl, s2, hL2, hb⟩
      refine kOk ?_ _ s2
      rw [← hb, pair_len hxs, List.drop_length]
      rfl
end
end Sh1
set_option Elab.async false
set_option linter.all false
set_option maxRecDepth 100000
set_option maxHeartbeats 2000000
namespace Sh1
open PySem L2 Sho NdefX
/-- a Party of the stays xs stands at p -/
def PartyAt (C : Addr) (H : Hp) (p : Addr) (xs : List Stay) : Prop := ∃ dx a ws, H p = some (.ins C dx [(("_stays" : Str), .ref a)]) ∧ H a = some (.tup ws) ∧ StaysV H ws xs
theorem PartyAt.same {C : Addr} {H H' : Hp} {p : Addr} {xs : List Stay} (s : Same H H') (h : PartyAt C H p xs) : PartyAt C H' p xs := by
  obtain ⟨dx, a, ws, h1, h2, h3⟩ := h
  exact ⟨dx, a, ws, s _ _ h1, s _ _ h2, h3.same s⟩
theorem lk_stays (a : V) : List.lookup ("_stays" : Str) [(("_stays" : Str), a)] = some a := by simp [List.lookup]
theorem no_max (a : V) : List.lookup ("MAX_GUESTS" : Str) [(("_stays" : Str), a)] = none := by
  have e : (("MAX_GUESTS" : Str) == ("_stays" : Str)) = false := by decide +kernel
  simp [List.lookup, e]
/-- what the written part says of the class -/
structure PartyC (K : PySem.W.Frag) (mg : Str → Option Value) (C : Addr) : Prop where
  gm : mg "Party" = some (.ref C)
  cl : Cls K C
  nS : NoAttr K C "_stays"
  max : ∃ t, Con K C "MAX_GUESTS" (.int 24) (.int 24 t)
  ca : PySem.W.findIn K (.ref C) "__class__" = some (some (.builtin "object.__class__"))
  cn : PySem.W.specialIn K (.builtin "object.__class__") "__get__" = some (some (.builtin "getset_descriptor.__get__"))
  ct : PySem.W.takesIn K (.builtin "object.__class__") = some true
  mo : PySem.W.mroIn K C (.type "object") = some true
  kS : PySem.W.kitOne K (.ref C) (.ref C) = some true
  kT : PySem.W.kitOne K (.type "tuple") (.ref C) = some false
  sT : PySem.W.subIn K (.type "tuple") (.ref C) = some false
section
variable {P : Program} {w : World} {K : PySem.W.Frag} {mg : Str → Option Value} {base : Heap}
/-! ### Party.__init__ -/
def spPInit (C CI : Addr) : Sp := fun vs H Q E => ∃ (x dx a : Addr) (ws : List V) (xs : List Stay), vs = [.ref x, .ref a] ∧ H x = some (.ins C dx []) ∧ H a = some (.tup ws) ∧ StaysV H ws xs ∧ Short xs ∧ xs.length ≤ sizeLine ∧
  (firstBad xs = none → ∀ H', H' x = some (.ins C dx [(("_stays" : Str), .ref a)]) → (∀ b o, H b = some o → b ≠ x → H' b = some o) → Q .non H') ∧
  ∀ i, firstBad xs = some i → ∀ (H' : Hp) (d : Addr), Same H H' → H d = none → H' d = some (.xd [(("index" : Str), .int (i : Nat))]) → E (.ref CI) (some d) H'
theorem scPInit : FnScope ["self", "stays"] ["self", "stays"] (defScope sPInit) := ⟨rfl, rfl, rfl, by decide +kernel, rfl, by decide +kernel, by decide +kernel⟩
/-- a def of the class with a star parameter -/
structure FunS (K : PySem.W.Frag) (x qual : Str) (st : Stmt) (f : Addr) : Prop where
  ex : ∃ (oc : Value) (od : Option Addr) (doc pm : Value) (an : Option Addr) (cdv ct : Value) (osl : Array (Option Value)),
    K.lookup f = some ⟨oc, od, .func (PySem.W.fnOf x qual (defArgs st) (defBody st) (defScope st) .none .none doc pm an cdv ct), osl⟩ ∧ PySem.W.codeIn K cdv qual = true
theorem ok_pinit {f C CI fC : Addr} {fdC : FuncData} (F : FunS K "__init__" "Party.__init__" sPInit f) (PC : PartyC K mg C)
    (GC : FnOk P w K mg base (L2.CX P w) 4 fC fdC ["stays", "most"] (spCheck CI)) (mC : mg "_check_stays" = some (.ref fC)) (kC : PySem.W.keepIn K (.ref fC) = true) (bC : Binds K fdC ["stays", "most"] []) :
    FnR P w K mg base (L2.CX P w) 5 f (fun vs H Q E => ∃ ws rest, vs = ws ++ rest ∧ ws.length = (["self"] : List Str).length ∧ rest.length ≤ sizeLine ∧ ∀ p, H p = none → spPInit C CI (ws ++ [V.ref p]) (upd H p (.tup rest)) Q E) := by
  obtain ⟨oc, od, doc, pm, an, cdv, ct, osl, lk, hcd⟩ := F.ex
  refine StX.fn_star (ps := ["self"]) (pv := "stays") lk hcd scPInit StX.cxUp (StX.bind_star1 (B := fun us => bindArgs (PySem.W.fnOf "__init__" "Party.__init__" (defArgs sPInit) (defBody sPInit) (defScope sPInit) .none .none doc pm an cdv ct) ⟨us, []⟩) (p1 := "self") (pv := "stays") (fun a => rfl) fun a r rs => rfl) fun A outer s H vs Q E hr h => ?_
  obtain ⟨x, dx, a, ws, xs, rfl, hx, ha, hxs, hsh, hz, kOk, kBad⟩ := h
  obtain ⟨t24, c24⟩ := PC.max
  refine ⟨_, pss_cons (ps_expr (pe_call GC hr rfl mC kC bC .nil (passes_call (takes_of rfl rfl rfl rfl) fun _ _ _ _ z => z) (pa_cons (pv 1) (pa_cons (pe_con (pv 0) rfl) pa_nil)))) (pss_one (ps_fld (pv 0) (pv 1) rfl)), ?_⟩
  refine ⟨_, rfl, _, rfl, x, C, dx, [], .int 24, _, rfl, hx, PC.cl, c24, rfl, a, ws, xs, rfl, ha, hxs, hsh, hz, fun ok H' s' => ?_, kBad⟩
  refine ⟨_, rfl, _, rfl, x, C, dx, [], rfl, s' _ _ hx, PC.cl, PC.nS, by decide, ?_⟩
  exact kOk ok _ upd_same fun b o e hb => by rw [upd_ne hb]; exact s' _ _ e
abbrev spPNew (C CI : Addr) : Sp := fun vs H Q E => ∃ ws rest, vs = ws ++ rest ∧ ws.length = (["self"] : List Str).length ∧ rest.length ≤ sizeLine ∧ ∀ p, H p = none → spPInit C CI (ws ++ [V.ref p]) (upd H p (.tup rest)) Q E
/-- a new Party of these stays, or the error of the first invalid one -/
theorem party_new {C CI : Addr} {H : Hp} {Q : VK} {E : XK} {ys : List V} {xs : List Stay} (hxs : StaysV H ys xs) (hsh : Short xs) (hz : ys.length ≤ sizeLine)
    (ok : firstBad xs = none → ∀ (p : Addr) (H' : Hp), Same H H' → H p = none → PartyAt C H' p xs → Q (.ref p) H')
    (bad : ∀ i, firstBad xs = some i → ∀ (H' : Hp) (d : Addr), Same H H' → H d = none → H' d = some (.xd [(("index" : Str), .int (i : Nat))]) → E (.ref CI) (some d) H') :
    ∀ x dx, H x = none → H dx = none → dx ≠ x → spPNew C CI (V.ref x :: ys) (upd (upd H dx (.own x)) x (.ins C dx [])) (fun v H2 => v = .non ∧ Q (.ref x) H2) E := by
  intro x dx hx hdx ne
  refine ⟨[.ref x], ys, rfl, rfl, hz, fun p hp => ?_⟩
  have px : p ≠ x := fun z => by
    rw [z, upd_same] at hp
    cases hp
  have hp0 : H p = none := by
    rw [upd_ne px] at hp
    by_cases pd : p = dx
    · rw [pd]
      exact hdx
    · rw [upd_ne pd] at hp
      exact hp
  have pd : p ≠ dx := fun z => by
    rw [upd_ne px, z, upd_same] at hp
    cases hp
  have same : Same H (upd (upd (upd H dx (.own x)) x (.ins C dx [])) p (.tup ys)) := fun b o e => by
    rw [upd_ne (ne_of_none e hp0), upd_ne (ne_of_none e hx), upd_ne (ne_of_none e hdx)]
    exact e
  refine ⟨x, dx, p, ys, xs, rfl, by rw [upd_ne (Ne.symm px), upd_same], upd_same, hxs.same same, hsh, by rw [← pair_len hxs]; exact hz, fun h0 H' h1 h2 => ⟨rfl, ?_⟩, fun i hi H' d s' hd e => ?_⟩
  · have s2 : Same H H' := fun b o e => h2 b o (same b o e) (ne_of_none e hx)
    exact ok h0 x H' s2 hx ⟨dx, p, ys, h1, h2 _ _ upd_same px, hxs.same s2⟩
  · exact bad i hi H' d (same.trans s') (same.free hd) e
/-! ### the properties -/
theorem scPStays : FnScope ["self"] ["self"] (defScope sPStays) := ⟨rfl, rfl, rfl, by decide +kernel, rfl, by decide +kernel, by decide +kernel⟩
theorem ok_pstays {f C : Addr} {fd : FuncData} (F : Fun K "stays" "Party.stays" sPStays f fd) (PC : PartyC K mg C) : FnOk P w K mg base CX0 1 f fd ["self"] (getSp C "_stays") := by
  refine F.ok scPStays (fun vs H Q E h => ?_) (fun cdv A outer s H vs Q E hr h => ?_)
  · obtain ⟨a, dx, fs, v, rfl, _⟩ := h
    rfl
  · obtain ⟨a, dx, fs, v, rfl, h1, h2, k⟩ := h
    refine ⟨_, pss_one (ps_ret (pe_fld (pv 0) rfl)), _, rfl, a, C, dx, fs, v, rfl, h1, PC.cl, PC.nS, h2, k⟩
def spPNames (C : Addr) : Sp := fun vs H Q _ => ∃ (p : Addr) (xs : List Stay), vs = [.ref p] ∧ PartyAt C H p xs ∧ xs.length ≤ sizeLine ∧ ∀ H' t, Same H H' → H t = none → H' t = some (.tup (xs.map fun x => .str x.1)) → Q (.ref t) H'
theorem scPNames : FnScope ["self", "name", "come", "go"] ["self"] (defScope sPNames) := ⟨rfl, rfl, rfl, by decide +kernel, rfl, by decide +kernel, by decide +kernel⟩
theorem ok_pnames {f C : Addr} {fd : FuncData} (F : Fun K "names" "Party.names" sPNames f fd) (B : Blt mg) (PC : PartyC K mg C) : FnOk P w K mg base CX0 1 f fd ["self"] (spPNames C) := by
  refine F.ok scPNames (fun vs H Q E h => ?_) (fun cdv A outer s H vs Q E hr h => ?_)
  · obtain ⟨p, xs, rfl, _⟩ := h
    rfl
  · obtain ⟨p, xs, rfl, ⟨dx, a, ws, h1, h2, h3⟩, hz, k⟩ := h
    have nd := scPNames.nd
    refine ⟨_, pss_one (ps_ret (pe_callTy call_tuple_of (by rfl) B.tuple (by decide +kernel) (pa_cons (pe_lc (own := [("name", 1), ("come", 2), ("go", 3)]) (g := gTup K 3 (gCons (gName 1) (gCons (gName 2) (gCons (gName 3) gNil)))) (tt := tYes) rfl nd
      (pi_tup (pe_fld (pv 0) rfl)) (blkOk_by (own := [("name", 1), ("come", 2), ("go", 3)]) (N := ["self", "name", "come", "go"]) (sc := defScope sPNames) (by decide +kernel))
      (fun _ _ _ _ _ => pg_tup rfl (pgs_cons (pg_name (i := 1) nd rfl (Or.inl rfl)) (pgs_cons (pg_name (i := 2) nd rfl (Or.inl rfl)) (pgs_cons (pg_name (i := 3) nd rfl (Or.inl rfl)) pgs_nil))))
      (fun _ _ _ _ _ => pts_nil) (fun _ _ _ _ _ => pv 1)) pa_nil))), ?_⟩
    refine ⟨_, rfl, p, C, dx, _, .ref a, rfl, h1, PC.cl, PC.nS, lk_stays _, a, rfl, ⟨_, SqT.of h2⟩, fun D hD => ?_⟩
    refine lc_map walk_tup (fun i => (xs[i]?).map fun x => .str x.1) hD (by rw [pair_len h3]; exact hz) (fun H1 s1 => SqT.of (s1 _ _ h2)) (fun i x H1 H' hi s1 y R k1 => ?_) (fun i hi => ⟨_, by rw [List.getElem?_eq_getElem (by rw [← pair_len h3]; exact hi)]; rfl⟩) fun H1 s1 e1 => ?_
    · obtain ⟨rfl, e2⟩ := y
      obtain ⟨z, hz2, t, rfl, ht⟩ := pair_get h3 e2
      refine ⟨t, _, rfl, SqT.of (s1 _ _ ht), rfl, _, _, rfl, _, _, rfl, _, _, rfl, rfl, rfl, _, rfl, ?_⟩
      exact k1 _ _ (Same.refl _) (by rw [hz2]; rfl)
    · rw [pair_len h3, gather_map xs fun x => V.str x.1] at e1
      refine ⟨D, _, rfl, .inl ⟨SqL.of e1, fun l hl => ?_⟩⟩
      refine k _ l (fun b o e => ?_) (s1.free hl) upd_same
      rw [upd_ne (ne_of_none (s1 _ _ e) hl)]
      exact s1 _ _ e
end
end Sh1
set_option Elab.async false
set_option linter.all false
set_option maxRecDepth 100000
set_option maxHeartbeats 2000000
/-! Small words that every law's text uses. -/
namespace Shg
open PySem L2 Sho
theorem pair_len {α β : Type} {R : α → β → Prop} : ∀ {as : List α} {bs : List β}, PySem.Paired R as bs → as.length = bs.length
  | _, _, .nil => rfl
  | _, _, .cons _ r => congrArg Nat.succ (pair_len r)
theorem pair_get {α β : Type} {R : α → β → Prop} : ∀ {as : List α} {bs : List β} {i : Nat} {a : α}, PySem.Paired R as bs → as[i]? = some a → ∃ b, bs[i]? = some b ∧ R a b
  | _, _, i, a, .nil, h => by simp at h
  | _, _, 0, a, .cons h r, e => by
    simp at e
    subst e
    exact ⟨_, rfl, h⟩
  | _, _, i + 1, a, .cons h r, e => by
    simp at e
    obtain ⟨b, e2, r2⟩ := pair_get r e
    exact ⟨b, by simpa using e2, r2⟩
theorem pair_mono {α β : Type} {R S : α → β → Prop} (k : ∀ a b, R a b → S a b) : ∀ {as : List α} {bs : List β}, PySem.Paired R as bs → PySem.Paired S as bs
  | _, _, .nil => .nil
  | _, _, .cons h r => .cons (k _ _ h) (pair_mono k r)
theorem pair_app {α β : Type} {R : α → β → Prop} : ∀ {as : List α} {bs : List β} {cs : List α} {ds : List β}, PySem.Paired R as bs → PySem.Paired R cs ds → PySem.Paired R (as ++ cs) (bs ++ ds)
  | _, _, _, _, .nil, k => k
  | _, _, _, _, .cons h r, k => .cons h (pair_app r k)
theorem same_upd {p : Addr} {H : Hp} {o : HO} (hp : H p = none) : Same H (upd H p o) := fun b u e => by rw [upd_ne (ne_of_none e hp)]; exact e
theorem asg_seq {te : TE} {g : TG} {u : TS} {D : Ends} {σ : L2.St} {H : Hp} (h : te σ H fun x H1 => g x σ H1 (u D)) : tSeq (tAsg te g) u D σ H := h
theorem asg_one {te : TE} {g : TG} {D : Ends} {σ : L2.St} {H : Hp} (h : te σ H fun x H1 => g x σ H1 D.nx) : tAsg te g D σ H := h
theorem cons_of {te : TE} {ta : L2.TA} {σ : L2.St} {H : Hp} {Q : List V → Hp → Prop} (h : te σ H fun v H1 => ta σ H1 fun vs H2 => Q (v :: vs) H2) : tCons te ta σ H Q := h
theorem name_of {i : Nat} {v : V} {σ : L2.St} {H : Hp} {N : L2.St → Hp → Prop} {r : VK} {b c : L2.St → Hp → Prop} (h : N (σ.set i (some v)) H) : gName i v σ H (L2.Ends.nx { nx := N, rt := r, bk := b, ct := c }) := h
theorem name_at {i : Nat} {v : V} {σ : L2.St} {H : Hp} {N : L2.St → Hp → Prop} (h : N (σ.set i (some v)) H) : gName i v σ H N := h
theorem lst_of {t : L2.TA} {σ : L2.St} {H : Hp} {Q : VK} (h : t σ H fun xs H1 => xs.length ≤ sizeLine ∧ ∀ p, H1 p = none → Q (.ref p) (upd H1 p (.lst xs))) : tLst t σ H Q := h
theorem nx_of {N : L2.St → Hp → Prop} {r : VK} {b c : L2.St → Hp → Prop} {σ : L2.St} {H : Hp} (h : N σ H) : L2.Ends.nx { nx := N, rt := r, bk := b, ct := c } σ H := h
theorem asg_val {te : TE} {g : TG} {u : TS} {D : Ends} {σ : L2.St} {H : Hp} (v : V) (h1 : ∀ R : VK, (∀ H', Same H H' → R v H') → te σ H R) (h2 : ∀ H', Same H H' → g v σ H' (u D)) : tSeq (tAsg te g) u D σ H := h1 _ h2
theorem asg_rel {te : TE} {g : TG} {u : TS} {D : Ends} {σ : L2.St} {H : Hp} (P : V → Hp → Prop) (h1 : ∀ R : VK, (∀ v H', P v H' → R v H') → te σ H R) (h2 : ∀ v H', P v H' → g v σ H' (u D)) : tSeq (tAsg te g) u D σ H := h1 _ h2
theorem if_rel {c : TT} {A u : TS} {D : Ends} {σ : L2.St} {H : Hp} (P : Hp → Prop) (h1 : ∀ R : Bool → Hp → Prop, (∀ H', P H' → R false H') → c σ H R) (h2 : ∀ H', P H' → u D σ H') : tSeq (tIfS c A tNext) u D σ H :=
  h1 _ fun H' p => iteF (h2 H' p)
theorem if_rel1 {c : TT} {A : TS} {D : Ends} {σ : L2.St} {H : Hp} (P : Hp → Prop) (h1 : ∀ R : Bool → Hp → Prop, (∀ H', P H' → R false H') → c σ H R) (h2 : ∀ H', P H' → D.nx σ H') : tIfS c A tNext D σ H :=
  h1 _ fun H' p => iteF (h2 H' p)
theorem ok_no {P : Program} {w : World} {K : PySem.W.Frag} {mg : Str → Option Value} {base : Heap} {CX : CXT} {k : Nat} {f : Addr} {fd : FuncData} {ps : List Str} : FnOk P w K mg base CX k f fd ps (fun _ _ _ _ => False) :=
  ⟨fun _ _ _ _ h => h.elim, fun _ _ _ _ _ _ _ _ _ _ _ _ _ h => h.elim⟩
theorem free_by {sn os : List (Str × NameKind)} (h : (sn.all fun y => !decide (y.2 = .free) || (decide (os.lookup y.1 = some .cell) || decide (os.lookup y.1 = some .free))) = true) :
    ∀ y ∈ sn, y.2 = .free → os.lookup y.1 = some .cell ∨ os.lookup y.1 = some .free := fun y hy e => by
  have q := List.all_eq_true.mp h y hy
  rw [decide_eq_true e] at q
  simpa using q
abbrev scL (l : List (Str × NameKind)) : Scope := { kind := .function, names := l, isGenerator := false, isCoroutine := false }
theorem ne_lst {L b : Addr} {H : Hp} {xs : List V} {o : HO} (hL : H L = some (.lst xs)) (e : H b = some o) (n : ∀ ys, o ≠ .lst ys) : b ≠ L := fun z => by
  rw [z, hL] at e
  exact n xs (Option.some.inj e).symm
theorem seq_nat {j n : Nat} (h : j < n) : seqIndex? (j : Int) n = some j := by
  have e0 : (if (j : Int) < 0 then (j : Int) + n else (j : Int)) = (j : Int) := if_neg (by omega)
  show (if (decide (0 ≤ (if (j : Int) < 0 then (j : Int) + n else (j : Int))) && decide ((if (j : Int) < 0 then (j : Int) + n else (j : Int)) < (n : Int))) = true then some (if (j : Int) < 0 then (j : Int) + n else (j : Int)).toNat else none) = some j
  rw [e0]
  have e : (decide (0 ≤ (j : Int)) && decide ((j : Int) < (n : Int))) = true := by simp; omega
  rw [if_pos e]
  simp
theorem ixN_nat {n j : Nat} (hj : j < n) : ixN n (j : Int) = some j := by
  unfold ixN
  rw [if_pos (by omega), if_pos (by omega)]
  simp
theorem gather_filter {α : Type} (xs : List α) (p : α → Bool) (f : α → V) : gather (fun i => (xs[i]?).bind fun x => if p x = true then some (f x) else none) xs.length = (xs.filter p).map f := by
  rw [gather_list]
  induction xs with
  | nil => rfl
  | cons x xs ih =>
    rw [List.filterMap_cons, List.filter_cons]
    cases h : p x with
    | true =>
      simp only [if_true, List.map_cons, ih]
    | false =>
      simp only [Bool.false_eq_true, if_false, ih]
/-- an expression read in one of two ways -/
theorem pe_either {X : Cx} {e : Expr} {t1 t2 : TE} (h1 : PE X e t1) (h2 : PE X e t2) : PE X e (fun σ H Q => t1 σ H Q ∨ t2 σ H Q) :=
  ⟨fun pins s σ H Q I h => h.elim (h1.run pins s σ H Q I) (h2.run pins s σ H Q I)⟩
/-- the builtins that the text calls -/
structure Blt (mg : Str → Option Value) : Prop where
  len : mg "len" = none
  all : mg "all" = none
  isi : mg "isinstance" = none
  bool : mg "bool" = none
  tuple : mg "tuple" = none
  list : mg "list" = none
  range : mg "range" = none
  enum : mg "enumerate" = none
  int : mg "int" = none
  sup : mg "super" = none
  sorted : mg "sorted" = none
  dict : mg "dict" = none
  str : mg "str" = none
  min : mg "min" = none
  max : mg "max" = none
  ve : mg "ValueError" = none
  set : mg "set" = none
  sum : mg "sum" = none
  any : mg "any" = none
/-- all but two objects stay -/
def But2 (l S : Addr) (H H' : Hp) : Prop := ∀ b o, H b = some o → b ≠ l → b ≠ S → H' b = some o
theorem But2.refl {l S : Addr} (H : Hp) : But2 l S H H := fun _ _ e _ _ => e
theorem But2.trans {l S : Addr} {H H1 H2 : Hp} (a : But2 l S H H1) (b : But2 l S H1 H2) : But2 l S H H2 := fun c o e n m => b c o (a c o e n m) n m
theorem But2.of {l S : Addr} {H H' : Hp} (s : Same H H') : But2 l S H H' := fun b o e _ _ => s b o e
theorem But2.upd1 {l S : Addr} {H : Hp} {o : HO} : But2 l S H (upd H l o) := fun b u e nb _ => by rw [upd_ne nb]; exact e
theorem But2.upd2 {l S : Addr} {H : Hp} {o : HO} : But2 l S H (upd H S o) := fun b u e _ nb => by rw [upd_ne nb]; exact e
/-- all but two objects and the tables stay -/
def Keep2 (l S : Addr) (H H' : Hp) : Prop := ∀ b o, H b = some o → b ≠ l → b ≠ S → (∀ ps, o ≠ .tbl ps) → H' b = some o
theorem Keep2.trans {l S : Addr} {H H1 H2 : Hp} (a : Keep2 l S H H1) (b : Keep2 l S H1 H2) : Keep2 l S H H2 := fun c o e n m t => b c o (a c o e n m t) n m t
theorem Keep2.of {l S : Addr} {H H' : Hp} (s : Same H H') : Keep2 l S H H' := fun b o e _ _ _ => s b o e
theorem Keep2.but {l S : Addr} {H H' : Hp} (s : But2 l S H H') : Keep2 l S H H' := fun b o e n m _ => s b o e n m
theorem Keep2.ext {l S : Addr} {H H' : Hp} (s : LamX.ExtN H H') : Keep2 l S H H' := fun b o e _ _ t => s b o e t
/-- a def whose code object is known -/
structure FunL (K : PySem.W.Frag) (x qual : Str) (st : Stmt) (f c : Addr) (fd : FuncData) : Prop where
  ex : ∃ (oc : Value) (od : Option Addr) (kV doc pm : Value) (an : Option Addr) (ct : Value) (osl : Array (Option Value)),
    fd = PySem.W.fnOf x qual (defArgs st) (defBody st) (defScope st) .none kV doc pm an (.ref c) ct ∧ K.lookup f = some ⟨oc, od, .func (PySem.W.fnOf x qual (defArgs st) (defBody st) (defScope st) .none kV doc pm an (.ref c) ct), osl⟩ ∧ PySem.W.codeIn K (.ref c) qual = true
theorem FunL.okX {P : Program} {w : World} {K : PySem.W.Frag} {mg : Str → Option Value} {base : Heap} {x qual : Str} {st : Stmt} {f c : Addr} {fd : FuncData} {N ps : List Str} {k : Nat} {sp : Sp} (F : FunL K x qual st f c fd) (S : FnScope N ps (defScope st)) (len : ∀ vs H Q E, sp vs H Q E → vs.length = ps.length)
    (hbody : ∀ (A : Around) (outer : List Env) (s : Shared) (H : Hp) (vs : List V) (Q : VK) (E : XK), Room k (A.deeper (PyProof.Rows.envOfC qual (defScope st) s.heap.objs.size f (.ref c))) → sp vs H Q E →
      ∃ t, PSs (cxOf (L2.CX P w) P w K mg base N qual (defScope st) f (.ref c) A outer s H E) (defBody st) t ∧ t { nx := fun _ H' => Q .non H', rt := Q } (L2.start N vs) H) : FnOk P w K mg base (L2.CX P w) (k + 1) f fd ps sp := by
  obtain ⟨oc, od, kV, doc, pm, an, ct, osl, rfl, lk, hcd⟩ := F.ex
  exact fn_of lk hcd S len fun A outer s H vs Q E hr hsp => hbody A outer s H vs Q E hr hsp
theorem FunL.ok0 {P : Program} {w : World} {K : PySem.W.Frag} {mg : Str → Option Value} {base : Heap} {x qual : Str} {st : Stmt} {f c : Addr} {fd : FuncData} {N ps : List Str} {k : Nat} {sp : Sp} (F : FunL K x qual st f c fd) (S : FnScope N ps (defScope st)) (len : ∀ vs H Q E, sp vs H Q E → vs.length = ps.length)
    (hbody : ∀ (A : Around) (outer : List Env) (s : Shared) (H : Hp) (vs : List V) (Q : VK) (E : XK), Room k (A.deeper (PyProof.Rows.envOfC qual (defScope st) s.heap.objs.size f (.ref c))) → sp vs H Q E →
      ∃ t, PSs (cxOf CX0 P w K mg base N qual (defScope st) f (.ref c) A outer s H E).nox (defBody st) t ∧ t { nx := fun _ H' => Q .non H', rt := Q } (L2.start N vs) H) : FnOk P w K mg base CX0 (k + 1) f fd ps sp := by
  obtain ⟨oc, od, kV, doc, pm, an, ct, osl, rfl, lk, hcd⟩ := F.ex
  refine fn_of lk hcd S len fun A outer s H vs Q E hr hsp => ?_
  obtain ⟨t, h, q⟩ := hbody A outer s H vs Q E hr hsp
  exact ⟨t, h.nox, q⟩
end Shg
set_option Elab.async false
set_option linter.all false
set_option maxRecDepth 100000
set_option maxHeartbeats 2000000
namespace Sh1
open PySem L2 Sho NdefX He Shh
/-! Facts of the head about Party, InvalidStay, UnknownGuest. -/
section
variable {K : Shh.Fr} {h : Heap} {mg : Str → Option Value}
def cvalB (K : Shh.Fr) (C : Addr) (f : Str) (i : Int) : Bool := match PySem.W.findCls K (.ref C) (.type "type") f with
  | some (.val (.int j _)) => decide (j = i)
  | _ => false
theorem cvalB_ok {C : Addr} {f : Str} {i : Int} (c : cvalB K C f i = true) : ∃ u, ClX.CVal K C (.type "type") f (.int i) u := by
  unfold cvalB at c
  split at c
  · rename_i j t e
    rw [of_decide_eq_true c] at e
    exact ⟨_, e, ⟨_, rfl⟩⟩
  · cases c
def partyB (K : Shh.Fr) (C : Addr) : Bool := PySem.W.plainGet K C Str.empty && (PySem.W.hasDictIn K C && (PySem.W.plainOver K C && (eqO (PySem.W.findIn K (.ref C) "__setattr__") (some (some (.builtin "object.__setattr__"))) &&
  (eqO (PySem.W.findIn K (.ref C) "_stays") (some none) && (conB K "Party" "MAX_GUESTS" (.int 24) && (eqO (PySem.W.findIn K (.ref C) "__class__") (some (some (.builtin "object.__class__"))) &&
  (eqO (PySem.W.specialIn K (.builtin "object.__class__") "__get__") (some (some (.builtin "getset_descriptor.__get__"))) && (decide (PySem.W.takesIn K (.builtin "object.__class__") = some true) && (decide (PySem.W.mroIn K C (.type "object") = some true) &&
  (decide (PySem.W.kitOne K (.ref C) (.ref C) = some true) && (decide (PySem.W.kitOne K (.type "tuple") (.ref C) = some false) && (decide (PySem.W.subIn K (.type "tuple") (.ref C) = some false) && (PySem.W.selfFirst K C && (PySem.W.makesIn K C && (PySem.W.keepIn K (.ref C) &&
  (PySem.W.readsIn K C (.type "type") && (eqO (PySem.W.specialIn K (.ref C) "__getattribute__") (some (some (.builtin "type.__getattribute__"))) && cvalB K C "MAX_GUESTS" 24)))))))))))))))))
structure PartyF (K : Shh.Fr) (mg : Str → Option Value) (C : Addr) : Prop where
  pc : PartyC K mg C
  self : PySem.W.selfFirst K C = true
  makes : PySem.W.makesIn K C = true
  kp : PySem.W.keepIn K (.ref C) = true
  rd : ClX.CRead K C (.type "type")
  mx : ∃ u, ClX.CVal K C (.type "type") "MAX_GUESTS" (.int 24) u
theorem partyB_ok (gm : mg "Party" = some (.ref (ga K "Party"))) (c : partyB K (ga K "Party") = true) : PartyF K mg (ga K "Party") := by
  obtain ⟨c1, c⟩ := ba c
  obtain ⟨c2, c⟩ := ba c
  obtain ⟨c3, c⟩ := ba c
  obtain ⟨c4, c⟩ := ba c
  obtain ⟨c5, c⟩ := ba c
  obtain ⟨c6, c⟩ := ba c
  obtain ⟨c7, c⟩ := ba c
  obtain ⟨c8, c⟩ := ba c
  obtain ⟨c9, c⟩ := ba c
  obtain ⟨c10, c⟩ := ba c
  obtain ⟨c11, c⟩ := ba c
  obtain ⟨c12, c⟩ := ba c
  obtain ⟨c13, c⟩ := ba c
  obtain ⟨c14, c⟩ := ba c
  obtain ⟨c15, c⟩ := ba c
  obtain ⟨c16, c⟩ := ba c
  obtain ⟨c17, c⟩ := ba c
  obtain ⟨c18, c19⟩ := ba c
  have mx : ∃ t, Con K (ga K "Party") "MAX_GUESTS" (.int 24) (.int 24 t) := by
    obtain ⟨u, q⟩ := conB_ok c6 (by decide)
    obtain ⟨t, e⟩ : ∃ t, u = .int 24 t := by
      have r := q.rel
      cases u with
      | int j t =>
        obtain ⟨t', e⟩ := (show ∃ t', Value.int j t = .int 24 t' from r)
        exact ⟨t', e⟩
      | _ =>
        obtain ⟨t', e⟩ := r
        cases e
    rw [e] at q
    exact ⟨t, q⟩
  exact ⟨⟨gm, ⟨c1, c2, c3, eqO_ok c4⟩, eqO_ok c5, mx, eqO_ok c7, eqO_ok c8, of_decide_eq_true c9, of_decide_eq_true c10, of_decide_eq_true c11, of_decide_eq_true c12, of_decide_eq_true c13⟩, c14, c15, c16, ⟨c17, eqO_ok c18⟩, cvalB_ok c19⟩
/-! ### InvalidStay, UnknownGuest -/
abbrev aInv (K : Shh.Fr) : Addr := ga K "InvalidStay"
abbrev aUnk (K : Shh.Fr) : Addr := ga K "UnknownGuest"
abbrev dnErr (x : Str) (qual : Str) (st : Stmt) : Dn := ⟨fun K => eInit K x, "__init__", qual, st, fun K => [(("__class__" : Str), cellA K (eInit K x))]⟩
theorem errC_inv {P : Program} (E : ErrF "/claim/cut.py" K "InvalidStay" "index") (D : FunF K "__init__" "InvalidStay.__init__" sInvInit [(("__class__" : Str), cellA K (eInit K "InvalidStay"))] (eInit K "InvalidStay")) (hf : P.main.file = "/claim/cut.py") (sup : mg "super" = none)
    (h2 : (P.main.scope.names.lookup ("super" : Str)).isSome = false) (gm : mg "InvalidStay" = some (.ref (aInv K))) : ErrC P K mg "InvalidStay" "index" nfInv (aInv K) :=
  ⟨⟨_, _, _, err_txt E D hf sup ⟨_, rfl, rfl⟩ h2 (by decide +kernel) (by decide +kernel) (by decide +kernel), E.ini, E.ity⟩, E.sup, E.xf, E.no, gm, E.exm⟩
theorem errC_unk {P : Program} (E : ErrF "/claim/cut.py" K "UnknownGuest" "name") (D : FunF K "__init__" "UnknownGuest.__init__" sUnkInit [(("__class__" : Str), cellA K (eInit K "UnknownGuest"))] (eInit K "UnknownGuest")) (hf : P.main.file = "/claim/cut.py") (sup : mg "super" = none)
    (h2 : (P.main.scope.names.lookup ("super" : Str)).isSome = false) (gm : mg "UnknownGuest" = some (.ref (aUnk K))) : ErrC P K mg "UnknownGuest" "name" nfUnk (aUnk K) :=
  ⟨⟨_, _, _, err_txt E D hf sup ⟨_, rfl, rfl⟩ h2 (by decide +kernel) (by decide +kernel) (by decide +kernel), E.ini, E.ity⟩, E.sup, E.xf, E.no, gm, E.exm⟩
end
end Sh1
set_option Elab.async false
set_option linter.all false
set_option maxRecDepth 100000
set_option maxHeartbeats 2000000
/-! Facts of the head for laws without the ten errors. -/
namespace Shd
open PySem L2 Sho NdefX He Shh Shg
section
variable {K : Shh.Fr} {h : Heap} {mg : Str → Option Value}
abbrev bltNames : List Str := ["len", "all", "isinstance", "bool", "tuple", "list", "range", "enumerate", "int", "super", "sorted", "dict", "str", "min", "max", "ValueError", "set", "sum", "any"]
theorem blt_ok (X : K.In h) (G : h.Ns mainGlobals mg) (c : freeB K bltNames = true) : Shg.Blt mg := by
  have k : ∀ x, x ∈ bltNames → mg x = none := fun x hx => freeB_ok X G c hx
  exact ⟨k _ (by simp), k _ (by simp), k _ (by simp), k _ (by simp), k _ (by simp), k _ (by simp), k _ (by simp), k _ (by simp), k _ (by simp), k _ (by simp), k _ (by simp), k _ (by simp), k _ (by simp), k _ (by simp), k _ (by simp), k _ (by simp), k _ (by simp), k _ (by simp), k _ (by simp)⟩
end
theorem _root_.Shh.FunF.funL9 {K : Shh.Fr} {x qual : Str} {st : Stmt} {f : Addr} (F : FunF K x qual st [] f) : ∃ fd, Shg.FunL K x qual st f (codeA K f) fd ∧
    (∀ ps : List Str, (∀ (kV doc pm : Value) (an : Option Addr) (cdv ct : Value) (us : List Value), us.length = ps.length → bindArgs (PySem.W.fnOf x qual (defArgs st) (defBody st) (defScope st) .none kV doc pm an cdv ct) ⟨us, []⟩ = pure (ps.zip us)) → Binds K fd ps []) ∧
    ∀ ps : List Str, (∀ (kV doc pm : Value) (an : Option Addr) (cdv ct : Value) (us : List Value), us.length = ps.length → bindArgs (PySem.W.fnOf x qual (defArgs st) (defBody st) (defScope st) .none kV doc pm an cdv ct) ⟨us, []⟩ = pure (ps.zip us)) → ∀ (s : Shared) (us : List Value), us.length = ps.length → BindsTo s fd ⟨us, []⟩ (ps.zip us) := by
  obtain ⟨oc, od, doc, pm, an, ct, osl, lk, hcd⟩ := F.ex
  exact ⟨_, ⟨oc, od, .none, doc, pm, an, ct, osl, rfl, lk, hcd⟩, fun ps h => .all (h .none doc pm an _ ct), fun ps h s us hl => .of_eq (h .none doc pm an _ ct us hl)⟩
abbrev dn (x : Str) (st : Stmt) : Dn := ⟨fun K => ga K x, x, x, st, fun _ => []⟩
def tabA (K : Shh.Fr) (x : Str) : Addr := tabOf K (codeA K (ga K x))
end Shd
set_option Elab.async false
set_option linter.all false
set_option maxRecDepth 100000
set_option maxHeartbeats 4000000
set_option autoImplicit false
/-! Ways to go: dicts from piles of names to numbers of ways. -/
namespace Go
open PySem L2 Sho NdefX Shg
theorem put_mem {κ : Type} [DecidableEq κ] {kvs : List (κ × V)} {k : κ} {v : V} {p : κ × V} (h : p ∈ putK kvs k v) : p = (k, v) ∨ (p ∈ kvs ∧ p.1 ≠ k) := by
  unfold putK at h
  split at h
  · obtain ⟨q, hq, e⟩ := List.mem_map.mp h
    by_cases c : q.1 = k
    · rw [if_pos c] at e
      exact .inl (by rw [← e, c])
    · rw [if_neg c] at e
      exact .inr ⟨by rw [← e]; exact hq, by rw [← e]; exact c⟩
  · rename_i c
    rcases List.mem_append.mp h with h | h
    · by_cases e : p.1 = k
      · exact absurd (List.any_eq_true.mpr ⟨p, h, decide_eq_true e⟩) c
      · exact .inr ⟨h, e⟩
    · exact .inl (List.mem_singleton.mp h)
theorem put_keys {κ : Type} [DecidableEq κ] (kvs : List (κ × V)) (k : κ) (v : V) : (putK kvs k v).map (·.1) = if k ∈ kvs.map (·.1) then kvs.map (·.1) else kvs.map (·.1) ++ [k] := by
  have e : (kvs.any fun kv => decide (kv.1 = k)) = decide (k ∈ kvs.map (·.1)) := by
    rw [Bool.eq_iff_iff, List.any_eq_true, decide_eq_true_eq, List.mem_map]
    exact ⟨fun ⟨q, hq, e⟩ => ⟨q, hq, of_decide_eq_true e⟩, fun ⟨q, hq, e⟩ => ⟨q, hq, decide_eq_true e⟩⟩
  unfold putK
  rw [e]
  by_cases c : k ∈ kvs.map (·.1)
  · rw [if_pos (decide_eq_true c), if_pos c, List.map_map]
    refine List.map_congr_left fun q _ => ?_
    show (if q.1 = k then (q.1, v) else q).1 = q.1
    split <;> rfl
  · rw [if_neg (by rw [decide_eq_false c]; decide), if_neg c, List.map_append]
    rfl
theorem put_nodup {κ : Type} [DecidableEq κ] {kvs : List (κ × V)} (k : κ) (v : V) (h : (kvs.map (·.1)).Nodup) : ((putK kvs k v).map (·.1)).Nodup := by
  rw [put_keys]
  split
  · exact h
  · rename_i c
    exact List.nodup_append.mpr ⟨h, List.nodup_cons.mpr ⟨List.not_mem_nil, .nil⟩, fun a ha b hb e => by
      rw [List.mem_singleton.mp hb] at e
      exact c (by rw [← e]; exact ha)⟩
theorem put_ne {κ : Type} [DecidableEq κ] (kvs : List (κ × V)) (k : κ) (v : V) : putK kvs k v ≠ [] := fun z => by
  have := put_keys kvs k v
  rw [z] at this
  split at this
  · rename_i c
    rw [List.map_nil] at this
    rw [← this] at c
    cases c
  · simp at this
/-! ### how many there can be -/
def subs {α : Type} : List α → List (List α)
  | [] => [[]]
  | a :: r => subs r ++ (subs r).map (a :: ·)
theorem subs_len {α : Type} : ∀ l : List α, (subs l).length = 2 ^ l.length
  | [] => rfl
  | a :: r => by
    unfold subs
    rw [List.length_append, List.length_map, subs_len r, List.length_cons, Nat.pow_succ]
    omega
theorem mem_subs {α : Type} {s l : List α} (h : s.Sublist l) : s ∈ subs l := by
  induction h with
  | slnil => exact List.mem_singleton.mpr rfl
  | cons a _ ih => exact List.mem_append.mpr (.inl ih)
  | cons_cons a _ ih => exact List.mem_append.mpr (.inr (List.mem_map.mpr ⟨_, ih, rfl⟩))
theorem nodup_le {α : Type} [DecidableEq α] : ∀ {xs ys : List α}, xs.Nodup → (∀ x ∈ xs, x ∈ ys) → xs.length ≤ ys.length
  | [], _, _, _ => Nat.zero_le _
  | x :: xs, ys, nd, h => by
    rw [List.nodup_cons] at nd
    have hx := h x List.mem_cons_self
    have ih := nodup_le (xs := xs) (ys := ys.erase x) nd.2 fun y hy => (List.mem_erase_of_ne fun z => nd.1 (by rw [← z]; exact hy)).mpr (h y (List.mem_cons_of_mem _ hy))
    rw [List.length_erase_of_mem hx] at ih
    have : 0 < ys.length := List.length_pos_of_mem hx
    rw [List.length_cons]
    omega
abbrev keyN (ns : List Str) : List L2.Key := ns.map .inr
/-- one entry: a pile of n guests of B, how many ways, one of them -/
def Entry (H : Hp) (n M : Nat) (B : List Str) (p : List L2.Key × V) : Prop := ∃ (ns : List Str) (t wv : Addr) (c : Int) (ws : List Str), p = (keyN ns, .ref t) ∧ ns.length = n ∧ ns.Sublist B ∧ H t = some (.tup [.int c, .ref wv]) ∧ 1 ≤ c ∧ H wv = some (.tup (ws.map V.str)) ∧ ws.length ≤ M
structure Ways (H : Hp) (n M : Nat) (B : List Str) (kvs : List (List L2.Key × V)) : Prop where
  some : kvs ≠ []
  nd : (kvs.map (·.1)).Nodup
  all : ∀ p ∈ kvs, Entry H n M B p
theorem ways_few {H : Hp} {n M : Nat} {B : List Str} {kvs : List (List L2.Key × V)} (nd : (kvs.map (·.1)).Nodup) (all : ∀ p ∈ kvs, Entry H n M B p) (hB : B.length ≤ 10) : kvs.length ≤ 1024 := by
  have h := nodup_le (xs := kvs.map (·.1)) (ys := (subs B).map keyN) nd fun x hx => by
    obtain ⟨p, hp, rfl⟩ := List.mem_map.mp hx
    obtain ⟨ns, t, wv, c, ws, rfl, _, sl, _⟩ := all p hp
    exact List.mem_map.mpr ⟨ns, mem_subs sl, rfl⟩
  rw [List.length_map, List.length_map, subs_len] at h
  exact Nat.le_trans h (Nat.le_trans (Nat.pow_le_pow_right (by decide) hB) (by decide))
theorem Entry.keep {H H' : Hp} {n M : Nat} {B : List Str} {p : List L2.Key × V} (h : Entry H n M B p) (k : ∀ b vs, H b = some (.tup vs) → H' b = some (.tup vs)) : Entry H' n M B p := by
  obtain ⟨ns, t, wv, c, ws, e, l, sl, h1, hc, h2, hl⟩ := h
  exact ⟨ns, t, wv, c, ws, e, l, sl, k _ _ h1, hc, k _ _ h2, hl⟩
/-- one more way: a pile whose guest at a place has gone -/
theorem less_one {ns B : List Str} {j : Nat} (h : ns.Sublist B) (hj : j < ns.length) : (ns.take j ++ ns.drop (j + 1)).Sublist B ∧ (ns.take j ++ ns.drop (j + 1)).length + 1 = ns.length := by
  refine ⟨?_, ?_⟩
  · rw [← List.eraseIdx_eq_take_drop_succ]
    exact (List.eraseIdx_sublist ns j).trans h
  · rw [List.length_append, List.length_take, List.length_drop]
    omega
end Go
set_option Elab.async false
set_option linter.all false
set_option maxRecDepth 100000
set_option maxHeartbeats 4000000
set_option autoImplicit false
/-! d.items() of a dict with tuple keys, in a `for` and in a comprehension. -/
namespace Sho
open PySem PySem.Spec PyProof.Rows L2
section
variable {X : Cx} {pins : List (Addr × Obj)} {σ : L2.St} {H : Hp} {s : Shared} {d : Addr} {o : Obj}
theorem frzT2 {kvs : List (List L2.Key × V)} (I : Inv X pins σ H s) (h : H d = some (.frz o (.dT kvs))) :
    (d == sysModules) = false ∧ s.heap.get? d = some o ∧ o.ExactDict ∧ ∃ (es : Array DictEntry) (ep : Nat), o.data = .dict es ep ∧ es.size = kvs.length ∧
      ∀ (i : Nat) (k : List L2.Key) (v : V), kvs[i]? = some (k, v) → ∃ (en : DictEntry) (q : Addr), es[i]? = some en ∧ en.key = .ref q ∧ RelV v en.val ∧ H q = some (.tup (k.map kV)) := by
  obtain ⟨hd, z, hs, xs, pr, o', es, ep, ho, hx, hdt, he, _⟩ := I.hok d _ h
  rw [hd] at ho
  cases ho
  refine ⟨hs, hd, hx, es, ep, hdt, ?_, fun i k v e => ?_⟩
  · have l1 : es.size = xs.length := size_of_entries he
    have l2 : kvs.length = xs.length := Paired.length pr
    omega
  · obtain ⟨b, hb, e1, e2, e3⟩ := paired_get pr e
    have q := entry_at he i
    rw [hb] at q
    exact ⟨_, b.2.1, q, rfl, e3, e2⟩
end
/-- the pairs, each a new tuple of the key's own tuple and the value -/
def Itit (d : Addr) (o : Obj) (kvs : List (List L2.Key × V)) : It :=
  ⟨fun i H => H d = some (.frz o (.dT kvs)) ∧ i < kvs.length, fun i H x H' => ∃ (T q : Addr) (k : List L2.Key) (v : V), kvs[i]? = some (k, v) ∧ x = .ref T ∧ H T = none ∧ H q = some (.tup (k.map kV)) ∧ H' = upd H T (.tup [.ref q, v]), fun i H => H d = some (.frz o (.dT kvs)) ∧ kvs.length ≤ i⟩
section
variable {P : Program} {w : World} {K : PySem.W.Frag} {d : Addr} {o : Obj} {es : Array DictEntry} {ep : Nat}
theorem turn_itemsT {kvs : List (List L2.Key × V)} {elts : List Expr} {kk : Nat} {tpos : Pos} (it : Addr) (hod : o.data = .dict es ep) :
    Turn P w K (.Tuple elts kk tpos) (Itit d o kvs) [it] it (fun i h => ∃ ok ov, IsItemIter h it d i kvs.length ep ok ov) where
  mem := by simp
  obj := fun i h st b hb => by
    have e : b = it := by simpa using hb
    subst e
    obtain ⟨ok, ov, e⟩ := st
    exact ⟨_, e, fun v z => nomatch z⟩
  keep := fun i h h' st k => let ⟨ok, ov, e⟩ := st; ⟨ok, ov, k it (by simp) _ e⟩
  item := by
    intro X hP hw hK hc i pins s σ H E I hf st hg
    subst hP hw hK
    obtain ⟨hd, hi⟩ := hg
    obtain ⟨hs, hgd, hx, es', ep', hdt, hsz, ent⟩ := frzT2 I hd
    obtain ⟨rfl, rfl⟩ := dict_ep hod hdt
    obtain ⟨⟨k, v⟩, hkv⟩ : ∃ p, kvs[i]? = some p := ⟨kvs[i], List.getElem?_eq_getElem hi⟩
    obtain ⟨en, q, hen, hkey, hval, hq⟩ := ent i k v hkv
    obtain ⟨ok, ov, he⟩ := st
    rw [← hsz] at he
    have hi' : i < es'.size := by omega
    have een : es'[i] = en := by
      rw [Array.getElem?_eq_getElem hi'] at hen
      exact Option.some.inj hen
    have hlt : it < s.heap.objs.size := Heap.lt_size he
    refine DT.nextI he ⟨o, hgd, hx, hdt⟩ hi' fun h' ho hT hz hk => ?_
    rw [een] at ho hT
    refine ⟨_, rfl, wpAny_letOwnedTupleGo_items (s := { s with heap := h' }) ho fun h'' he' sb => ?_⟩
    have hT2 : h''.get? s.heap.objs.size = some { cls := .type "tuple", data := .seq #[en.key, en.val] } := (sb.2 _ (Nat.ne_of_gt hlt)).trans hT
    have rk : RelV (V.ref q) en.key := hkey
    have new : ObjOk X.prog X.w (upd H s.heap.objs.size (.tup [.ref q, v])) h'' s.heap.objs.size (.tup [.ref q, v]) :=
      ⟨by show 2 ≤ sizeLine; decide, [en.key, en.val], .cons rk (.cons hval .nil), ⟨_, hT2, rfl, _, rfl⟩⟩
    have I1 : Inv X pins σ (upd H s.heap.objs.size (.tup [.ref q, v])) { s with heap := h'' } :=
      I.turnedNew (t' := s.toks) (ch := [it]) (fun b ob hb e => (sb.2 b (by simpa using hb)).trans (hk b ob (by simpa using hb) e)) hf (Nat.le_refl _) new
    refine ⟨.ref s.heap.objs.size, _, I1, rfl, ⟨_, q, k, v, hkv, rfl, I.hok.fresh (Nat.le_refl _), hq, rfl⟩, ⟨en.key, en.val, ?_⟩, fun b hb => ?_⟩
    · rw [← hsz]; exact he'
    · have e : b = it := by simpa using hb
      rw [e, upd_ne (Nat.ne_of_lt hlt)]
      exact (hf it (by simp)).1
  done := by
    intro X hP hw hK hc i pins s σ H E I hf st hg
    subst hP hw hK
    obtain ⟨hd, hi⟩ := hg
    obtain ⟨f0, f1, f2, f3, f4, f5⟩ := hf it (by simp)
    obtain ⟨hs, hgd, hx, es', ep', hdt, hsz, ent⟩ := frzT2 I hd
    obtain ⟨rfl, rfl⟩ := dict_ep hod hdt
    obtain ⟨ok, ov, he⟩ := st
    rw [← hsz] at he
    exact DT.endI (I.ok.hd hc) he ⟨o, hgd, hx, hdt⟩ (by omega) fun h' eb => ⟨rfl, I.turned (t' := s.toks) (fun b ob hb e => eb b ob hb e) f0 f1 f3 f4 f5⟩
  self := fun A i s Q E st h => let ⟨_, _, e⟩ := st; PySem.W.kcp_self e h
end
def iItemsT (td : TE) : TI := fun σ H R => td σ H fun x H1 => ∃ d o kvs, x = .ref d ∧ H1 d = some (.frz o (.dT kvs)) ∧ R (Itit d o kvs) H1
section
variable {X : Cx} {e : Expr} {td : TE} {apos cpos : Pos}
theorem pi_itemsT {elts : List Expr} {kk : Nat} {tpos : Pos} (he : PE X e td) (hbase : attributeBase e "items" X.env (eval e X.env) = eval e X.env := by rfl) (hline : (apos.endLine == cpos.line) = true := by rfl) :
    PI X (.Tuple elts kk tpos) (.Call (.Attribute e "items" apos) [] [] cpos) (iItemsT td) := by
  refine ⟨fun pins s σ H R I h => ?_⟩
  refine wpAny_Call_method (T := "dict") (id := "dict.items") hbase rfl hline PySem.F.plainAttrs_dict PySem.F.slot_dict_items PySem.F.type_dict_items (thn (he.run pins s σ H _ I h) fun u s1 ⟨x, H1, I1, rx, d, o, kvs, ex, hd, q⟩ => ?_)
  subst ex
  obtain rfl : u = Value.ref d := rx
  obtain ⟨hs, hgd, hx, es, ep, hdt, hsz, ent⟩ := frzT2 I1 hd
  have hm : DT.Raw s1.heap d es ep := ⟨o, hgd, hx, hdt⟩
  have I2 : Inv X pins σ H1 { s1 with heap := s1.heap.push { cls := .type "dict_items", data := .fields #[.ref d] } } := I1.kept (t' := s1.toks) fun b ob q => Heap.get?_push_of_some _ q
  refine ⟨hm.typeIs, ?_, ?_⟩
  · rintro a ⟨⟩
    exact ⟨o, hgd, hx.2.1⟩
  · have fin : wpAny (model X.prog X.w) X.A (pyIter (.ref s1.heap.objs.size)) (PIE X pins σ (.Tuple elts kk tpos) R) X.xe { s1 with heap := s1.heap.push { cls := .type "dict_items", data := .fields #[.ref d] } } := by
      refine DT.iterI (d := d) ⟨_, Heap.get?_push_size _ rfl, rfl, rfl⟩ (hm.push _) ?_
      refine pi_one (tk := s1.toks) I2 _ (turn_itemsT _ hdt) ⟨.none, .none, ?_⟩ q
      rw [← hsz]
      exact Heap.get?_push_size _ rfl
    show wpAny _ _ (callWith cpos (.builtin "dict.items") [.ref d] [] []) _ X.xe s1
    exact method_meetsIn PySem.F.slot_dict_items PySem.F.entry_dict_items rfl (PySem.evalArgs_none ⟨rfl, hm.typeIs, PySem.F.args_dict_items_1 _, _, DT.meetsItems (es := es) (ep := ep) hs, hm, fin⟩)
end
end Sho
set_option Elab.async false
set_option linter.all false
set_option maxRecDepth 100000
set_option maxHeartbeats 4000000
set_option autoImplicit false
/-! {k: v for target in iter if ..} whose keys are tuples. -/
namespace Sho
open PySem PySem.Spec PyProof.Rows L2
/-- one entry more, the key a tuple -/
theorem d_dictSetT {X : Cx} {pins : List (Addr × Obj)} {σ : L2.St} {H : Hp} {s : Shared} {E : Value → Shared → Prop} {D b : Addr} {kvs : List (List L2.Key × V)} {k : List L2.Key} {v : V} {u r : Value} {Q : Unit → Shared → Prop} (hu : X.A.units < cLine) (I : Inv X pins σ H s) (hD : H D = some (.dT kvs)) (hb : H b = some (.tup (k.map kV))) (hz : kvs.length < sizeLine)
    (ry : RelV (.ref b) u) (rv : RelV v r) (h : ∀ s', Inv X pins σ (upd H D (.dT (putK kvs k v))) s' → Q () s') : wpAny (model X.prog X.w) X.A (dictSet D u r) Q E s := by
  cases (show u = Value.ref b from ry)
  obtain ⟨z, hd, xs, rel, dd⟩ := dt_of I.hok hD
  have hx : xs.length ≤ sizeLine := by rw [← Paired.length rel]; exact z
  have hl : (putK kvs k v).length ≤ sizeLine := by have := length_putK kvs k v; omega
  refine wpAny_dictSet_heap (hsz := hx) (show (tupleKind (mixKind X.prog X.w)).room X.A from hu) (key_of I.hok hb) dd fun h' dd' hs => h _ ?_
  obtain ⟨q, es, ep, hq, h2, h3, h4, _, h5⟩ := dd'
  refine d_write I (by rw [hD]; exact True.intro) hs ⟨q, hq⟩ ⟨hl, hd, _, (rel.put k hb rv).keeps fun c ys ec => ?_, q, es, ep, hq, h2, h3, h4, h5⟩
  rw [upd_ne (ne_of ec hD (fun z => nomatch z))]
  exact ec
/-- the reading: D is the new dict -/
def tDcT (wi : TI) (g : TG) (tt : TT) (tk tv : TE) (vs : List Nat) : TE := fun σ H Q => wi σ H fun J H1 => ∀ D, H1 D = none → ∃ W : Nat → Nat → Hp → Prop, (∃ m, W 0 m (upd H1 D (.dT []))) ∧ ∀ i m H, W i m H →
  (J.stop i H ∧ Q (.ref D) H) ∨ (J.go i H ∧ ∃ Nx : Hp → Prop, (∀ H', Nx H' → ∃ m', m' < m ∧ W (i + 1) m' H') ∧ ∀ x H', J.yld i H x H' → g x (wipe σ vs) H' fun σ2 H2 => wipe σ2 vs = wipe σ vs ∧ tt σ2 H2 fun b H3 =>
    if b = true then tk σ2 H3 fun y H4 => tv σ2 H4 fun z H5 => ∃ kvs k q, y = V.ref q ∧ H5 q = some (.tup (k.map kV)) ∧ H5 D = some (.dT kvs) ∧ kvs.length < sizeLine ∧ Nx (upd H5 D (.dT (putK kvs k z))) else Nx H3)
section
variable {X : Cx}
theorem dcT_core {pins : List (Addr × Obj)} {s : Shared} {σ : L2.St} {H : Hp} {Q : VK} {kx vx tg iter : Expr} {ifs : List Expr} {scope : Scope} {own : List (Str × Nat)} {pos pos' : Pos} {wi : TI} {g : TG} {tt : TT} {tk tv : TE} {use : Option (Value → Sem Unit)} {Qf : Value → Shared → Prop}
    (hu : X.A.units < cLine) (hc : X.calm = true) (hN : X.N.Nodup) (I : Inv X pins σ H s) (hi : PI X tg iter wi) (ok : BlkOk X.N X.env.scope scope own)
    (hg : ∀ (s : Shared) (H : Hp) (C : Addr) (cl : List (Str × Addr)) (fp : List Addr), PG (X.blk s H scope (compEnvC scope cl C X.env) fp) tg g) (ht : ∀ (s : Shared) (H : Hp) (C : Addr) (cl : List (Str × Addr)) (fp : List Addr), PTs (X.blk s H scope (compEnvC scope cl C X.env) fp) ifs tt)
    (hk : ∀ (s : Shared) (H : Hp) (C : Addr) (cl : List (Str × Addr)) (fp : List Addr), PE (X.blk s H scope (compEnvC scope cl C X.env) fp) kx tk)
    (he : ∀ (s : Shared) (H : Hp) (C : Addr) (cl : List (Str × Addr)) (fp : List Addr), PE (X.blk s H scope (compEnvC scope cl C X.env) fp) vx tv) (hs : ∀ x, foldedSetIterable iter X.env x = pure x) (h : tDcT wi g tt tk tv (own.map (·.2)) σ H Q)
    (out : ∀ D C s' m H', Inv X pins σ H' s' → Q (.ref D) H' → s'.heap.Ns C m → FpOk X pins H' C → compPost (model X.prog X.w) X.A X.xe use Qf (.ref D) C (.ok .next) s') :
    wpAny (model X.prog X.w) X.A (comprehension (.DictComp kx vx [⟨tg, iter, ifs, 0⟩] scope pos) scope X.env pos' newDict false (eval iter X.env) use) Qf X.xe s := by
  have free : ∀ y ∈ scope.names, y.2 = .free → ∃ c, X.env.cells.lookup y.1 = some c := fun y hy e => (ok.free y hy e).elim (fun k => I.ok.has _ (.inl k)) fun k => I.ok.has _ (.inr k)
  refine wpAny_comprehension_free (use := use) rfl hs (closure_ok free) ok.kind (fun y hy e => by rw [ok.uniq y hy, e]) (thn (hi.run pins s σ H _ I h) fun xv s1 hx => thn hx fun itv s2 h2 => ?_)
  obtain ⟨it, fp, tn, J, H2, rfl, I2, T, st2, f2, q⟩ := h2
  refine wpAny_newObj_type (newEnv_comp ?_)
  have hD0 : H2 s2.heap.objs.size = none := I2.hok.fresh (Nat.le_refl _)
  generalize hD : s2.heap.objs.size = D at hD0
  obtain ⟨W, ⟨m0, w0⟩, turn⟩ := q D hD0
  generalize es3 : ({ s2 with heap := s2.heap.push { cls := .type "dict", data := .dict #[] } } : Shared) = s3
  have h3 : s3.heap = s2.heap.push { cls := .type "dict", data := .dict #[] } := by rw [← es3]
  have I3 : Inv X pins σ (upd H2 D (.dT [])) s3 := by
    rw [← es3]
    refine I2.laid (t' := s2.toks) (fun b o e => Heap.get?_push_of_some _ e) (Nat.le_of_eq hD) ?_
    rw [← hD]
    exact dt_empty s2.heap I2.big
  have low : ∀ b ∈ fp, b < s2.heap.objs.size := fun b hb => let ⟨_, e, _⟩ := T.obj _ _ st2 b hb; Heap.lt_size e
  have f3 : ∀ b ∈ fp, FpOk X pins (upd H2 D (.dT [])) b ∧ b < s3.heap.objs.size := fun b hb => by
    have l := low b hb
    exact ⟨⟨by rw [upd_ne (by rw [← hD]; exact Nat.ne_of_lt l)]; exact (f2 b hb).1, (f2 b hb).2⟩, by rw [h3, Heap.size_push]; exact Nat.lt_succ_of_lt l⟩
  have st3 : tn 0 s3.heap := T.keep _ _ _ st2 fun b _ o e => by rw [h3]; exact Heap.get?_push_of_some _ e
  have I4 := block_start I3 ok hN f3
  have n0 : ∀ b ∈ fp, (upd H2 D (.dT [])) b = none := fun b hb => (f3 b hb).1.1
  generalize eH3 : upd H2 D (.dT []) = H3 at I3 I4 w0 n0 f3
  generalize ecl : cellsFrom (s3.heap.objs.size + 1) scope.names (cloFrom X.env.cells scope.names []) = cl at I4
  have pg := hg s3 H3 s3.heap.objs.size cl fp
  have pt := ht s3 H3 s3.heap.objs.size cl fp
  have pk := hk s3 H3 s3.heap.objs.size cl fp
  have pe := he s3 H3 s3.heap.objs.size cl fp
  show codeAny _ _ (.compStart (.DictComp kx vx [⟨tg, iter, ifs, 0⟩] scope pos) 0 (.ref it) (.ref D) (compEnvC scope cl s3.heap.objs.size X.env)) (compPost (model X.prog X.w) X.A X.xe use Qf (.ref D) s3.heap.objs.size) { s3 with heap := pushCells (s3.heap.push { cls := .type "dict", data := .dict #[] }) scope.names }
  generalize ece : compEnvC scope cl s3.heap.objs.size X.env = ce at I4 pg pt pk pe ⊢
  have cL : ce.locals = s3.heap.objs.size := by subst ece; rfl
  generalize es4 : ({ s3 with heap := pushCells (s3.heap.push { cls := .type "dict", data := .dict #[] }) scope.names } : Shared) = s4 at I4 ⊢
  have st4 : tn 0 s4.heap := T.keep _ _ _ st3 fun b _ o e => by rw [← es4]; exact pushCells_keeps _ _ _ _ (Heap.get?_push_of_some _ e)
  have mine : ∀ {σ' : L2.St} {H' : Hp} {s' : Shared}, Inv (X.blk s3 H3 scope ce fp) [] σ' H' s' → (∀ b ∈ fp, H' b = none) → ∀ b ∈ fp, FpOk (X.blk s3 H3 scope ce fp) [] H' b := fun {σ' H' s'} J' hn b hb =>
    ⟨hn b hb, (J'.ok.exf b hb).1, J'.ok.exfs b hb, .inl hb, fun x c e => (J'.ok.exf b hb).2 x c e, fun p hp => absurd (show p ∈ ([] : List (Addr × Obj)) ++ [] from hp) (by simp)⟩
  have loop : codeAny (model X.prog X.w) X.A (.compLoop (.DictComp kx vx [⟨tg, iter, ifs, 0⟩] scope pos) 0 (.ref it) (.ref D) ce) (compPost (model X.prog X.w) X.A X.xe use Qf (.ref D) s3.heap.objs.size) s4 := by
    refine compLoop_anyD (fun n s' => ∃ i H', Inv (X.blk s3 H3 scope ce fp) [] (wipe σ (own.map (·.2))) H' s' ∧ tn i s'.heap ∧ (∀ b ∈ fp, H' b = none) ∧ W i n H') ?_ m0 ⟨0, H3, I4, st4, n0, w0⟩
    rintro n s5 ⟨i, H5, I5, st5, n5, w5⟩
    rcases turn i n H5 w5 with ⟨stop, qq⟩ | ⟨go, Nx, hNx, step⟩
    · refine thnF (T.done (X.blk s3 H3 scope ce fp) rfl rfl rfl hc i [] s5 _ H5 (fun _ _ => False) I5 (mine I5 n5) st5 stop) fun r s6 ⟨hr, I6⟩ => ?_
      subst hr
      have I7 : Inv X pins σ H5 s6 := I3.call' (ch := fp) I6.os I6.base I6.hok I6.bare fun b hb => ⟨(f3 b hb).1.2.2.2.1, (f3 b hb).1.2.1, (f3 b hb).1.2.2.2.2.1, (f3 b hb).1.2.2.2.2.2⟩
      have nC : H5 s3.heap.objs.size = none := by rw [← cL]; exact I6.free
      obtain ⟨m, hn, _⟩ := I6.loc
      have hn : s6.heap.Ns ce.locals m := hn
      rw [cL] at hn
      exact out D s3.heap.objs.size s6 m H5 I7 qq hn (I3.fpOk (Nat.le_refl _) nC)
    · refine thnF (T.item (X.blk s3 H3 scope ce fp) rfl rfl rfl hc i [] s5 _ H5 (fun _ _ => False) I5 (mine I5 n5) st5 go) fun r s6 ⟨u, hr, h6⟩ => ?_
      subst hr
      refine thnF h6 fun _ s7 ⟨x, H7, I7, r7, y7, st7, n7⟩ => ?_
      refine thnF (pg.run _ s7 _ H7 x u _ (I7.pinned (mine I7 n7) (T.obj _ _ st7)) r7 (step x H7 y7)) fun _ s8 ⟨σ8, H8, I8, hw, q8⟩ => ?_
      refine thnF (pt.run _ s8 σ8 H8 _ I8 q8) fun b s9 ⟨H9, I9, q9⟩ => ?_
      have fin : ∀ {s' : Shared} {H' : Hp}, Inv (X.blk s3 H3 scope ce fp) ([] ++ pinsAt fp s7.heap) σ8 H' s' → Nx H' → ∃ m, m < n ∧ ∃ i H', Inv (X.blk s3 H3 scope ce fp) [] (wipe σ (own.map (·.2))) H' s' ∧ tn i s'.heap ∧ (∀ b ∈ fp, H' b = none) ∧ W i m H' := fun {s' H'} J' nx => by
        obtain ⟨m', hm, w'⟩ := hNx H' nx
        have kept : ∀ b ∈ fp, ∀ o, s7.heap.get? b = some o → s'.heap.get? b = some o ∧ H' b = none := fun b hb o e =>
          have z := J'.pin (b, o) (List.mem_append_right _ (List.mem_append_right _ (mem_pinsAt hb e)))
          ⟨z.1, z.2.1⟩
        refine ⟨m', hm, i + 1, H', (J'.unpinned (pins := [])).weak (by rw [← hw, wipe_length]) (fun j v e => (wipe_some (hw ▸ e : (wipe σ8 (own.map (·.2)))[j]? = some (some v))).1), T.keep _ _ _ st7 fun b hb o e => (kept b hb o e).1, fun b hb => ?_, w'⟩
        obtain ⟨o, e, _⟩ := T.obj _ _ st7 b hb
        exact (kept b hb o e).2
      cases b with
      | false =>
        simp only [Bool.false_eq_true, if_false] at q9 ⊢
        exact fin I9 q9
      | true =>
        simp only [if_true] at q9 ⊢
        refine thnF (pk.run _ s9 σ8 H9 _ I9 q9) fun z s10 ⟨yk, H10, I10, r10, q10⟩ => ?_
        refine thnF (pe.run _ s10 σ8 H10 _ I10 q10) fun z2 s11 ⟨yv, H11, I11, r11, kvs, k, qa, ek, eq, hD11, hz11, nx⟩ => ?_
        subst ek
        exact d_dictSetT (X := X.blk s3 H3 scope ce fp) hu I11 hD11 eq hz11 r10 r11 fun s12 I12 => fin I12 nx
  exact codeAny_compStart_dict loop (T.self X.A 0 _ _ _ st4 loop)
theorem pe_dcT {kx vx tg iter : Expr} {ifs : List Expr} {scope : Scope} {own : List (Str × Nat)} {pos : Pos} {wi : TI} {g : TG} {tt : TT} {tk tv : TE} (hu : X.A.units < cLine) (hc : X.calm = true) (hN : X.N.Nodup) (hi : PI X tg iter wi) (ok : BlkOk X.N X.env.scope scope own)
    (hg : ∀ (s : Shared) (H : Hp) (C : Addr) (cl : List (Str × Addr)) (fp : List Addr), PG (X.blk s H scope (compEnvC scope cl C X.env) fp) tg g) (ht : ∀ (s : Shared) (H : Hp) (C : Addr) (cl : List (Str × Addr)) (fp : List Addr), PTs (X.blk s H scope (compEnvC scope cl C X.env) fp) ifs tt)
    (hk : ∀ (s : Shared) (H : Hp) (C : Addr) (cl : List (Str × Addr)) (fp : List Addr), PE (X.blk s H scope (compEnvC scope cl C X.env) fp) kx tk)
    (he : ∀ (s : Shared) (H : Hp) (C : Addr) (cl : List (Str × Addr)) (fp : List Addr), PE (X.blk s H scope (compEnvC scope cl C X.env) fp) vx tv) (hs : ∀ x, foldedSetIterable iter X.env x = pure x := by intro _; rfl) :
    PE X (.DictComp kx vx [⟨tg, iter, ifs, 0⟩] scope pos) (tDcT wi g tt tk tv (own.map (·.2))) := by
  refine ⟨fun pins s σ H Q I h => ?_⟩
  rw [arm_eval_DictComp]
  refine dcT_core hu hc hN I hi ok hg ht hk he hs h fun D C s' m H' J q hn fc => ⟨m, hn, fun h'' sb => ?_⟩
  obtain ⟨g0, g1, g2, g3, g4, g5⟩ := fc
  exact ⟨.ref D, H', J.turned (t' := s'.toks) (fun b o hb e => (sb.2 b hb).trans e) g0 g1 g3 g4 g5, rfl, q⟩
/-- name = {..} on one line, the name a local -/
theorem ps_setDcT {i : Nat} {y : Str} {py spos : Pos} {kx vx tg iter : Expr} {ifs : List Expr} {scope : Scope} {own : List (Str × Nat)} {pos : Pos} {wi : TI} {g : TG} {tt : TT} {tk tv : TE} (hu : X.A.units < cLine) (hc : X.calm = true) (hN : X.N.Nodup) (hy : X.N[i]? = some y) (hyl : X.env.scope.names.lookup y = some .local)
    (hsw : swapsWith (.DictComp kx vx [⟨tg, iter, ifs, 0⟩] scope pos) (some (.Name y py)) spos.line X.env = pure true) (hi : PI X tg iter wi) (ok : BlkOk X.N X.env.scope scope own)
    (hg : ∀ (s : Shared) (H : Hp) (C : Addr) (cl : List (Str × Addr)) (fp : List Addr), PG (X.blk s H scope (compEnvC scope cl C X.env) fp) tg g) (ht : ∀ (s : Shared) (H : Hp) (C : Addr) (cl : List (Str × Addr)) (fp : List Addr), PTs (X.blk s H scope (compEnvC scope cl C X.env) fp) ifs tt)
    (hk : ∀ (s : Shared) (H : Hp) (C : Addr) (cl : List (Str × Addr)) (fp : List Addr), PE (X.blk s H scope (compEnvC scope cl C X.env) fp) kx tk)
    (he : ∀ (s : Shared) (H : Hp) (C : Addr) (cl : List (Str × Addr)) (fp : List Addr), PE (X.blk s H scope (compEnvC scope cl C X.env) fp) vx tv) (hs : ∀ x, foldedSetIterable iter X.env x = pure x := by intro _; rfl) :
    PS X (.Assign [.Name y py] (.DictComp kx vx [⟨tg, iter, ifs, 0⟩] scope pos) spos) (tAsg (tDcT wi g tt tk tv (own.map (·.2))) (gName i)) := by
  refine ⟨fun pins s σ H D I h => ?_⟩
  rw [exec_Assign_Name_used _ _ _ _ hsw]
  refine wpAny_bind (wpAny_standAt (wpAny_bind ?_))
  have h : tDcT wi g tt tk tv (own.map (·.2)) σ H (fun x H1 => gName i x σ H1 D.nx) := h
  show wpAny _ X.A (do let _ ← comprehension (.DictComp kx vx [⟨tg, iter, ifs, 0⟩] scope pos) scope X.env (firstIterPos [⟨tg, iter, ifs, 0⟩] pos) newDict false (eval iter X.env) (some (assign (.Name y py) X.env))) _ _ s
  refine wpAny_bind (thn (dcT_core (Qf := fun _ s' => SP X pins D .next s') hu hc hN I hi ok hg ht hk he hs h fun L C s' m H' J q hn fc => ?_) fun _ s' hq => wpAny_pure (wpAny_pure hq))
  show wpAny _ _ (assign (.Name y py) X.env (.ref L)) _ _ _
  refine wpAny_assign_Name (store_ok2 (v := V.ref L) J hN hy (.inl hyl) rfl (fun s2 J2 ⟨a, sb, ha⟩ => ?_) (.inr hyl))
  obtain ⟨g0, g1, g2, g3, g4, g5⟩ := fc
  have nCa : C ≠ a := ha.elim (fun z => by rw [z]; exact g1) fun z e => g4 y a z e.symm
  exact ⟨m, hn.sameBut sb nCa, fun h3 sb3 => ⟨_, H', J2.turned (t' := s2.toks) (fun b o hb e => (sb3.2 b hb).trans e) g0 g1 g3 g4 g5, q⟩⟩
theorem swD_true {kx vx : Expr} {gs : List Comprehension} {scope : Scope} {pos py : Pos} {y : Str} {l : Nat} {env : Env} (hk : env.scope.kind = .function) (hy : env.scope.names.lookup y = some .local) (hl : (py.line == pos.line) = true)
    (ha : (scope.names.any fun (n, k) => n == y && (k == .local || k == .cell)) = false) : swapsWith (.DictComp kx vx gs scope pos) (some (.Name y py)) l env = pure true := by
  have hb : env.blockKind = .function := by unfold Env.blockKind; rw [hk]; rfl
  have ky : env.kindOf y = some .local := hy
  unfold swapsWith
  simp only [hb, ky, ha, Expr.pos, hl]
  rfl
end
end Sho
set_option Elab.async false
set_option linter.all false
set_option maxRecDepth 100000
set_option maxHeartbeats 4000000
set_option autoImplicit false
/-! {k: v}, k a tuple. -/
namespace Sho
open PySem PySem.Spec PyProof.Rows L2
def tDisp1T (tk tv : TE) : TE := fun σ H Q => ∀ p, H p = none → tk σ (upd H p (.dT [])) fun y H1 => tv σ H1 fun z H2 => ∃ (k : List L2.Key) (q : Addr), y = .ref q ∧ H2 q = some (.tup (k.map kV)) ∧ H2 p = some (.dT []) ∧ Q (.ref p) (upd H2 p (.dT [(k, z)]))
theorem pe_disp1T {X : Cx} {k v : Expr} {pos : Pos} {tk tv : TE} (hu : X.A.units < cLine) (hk : PE X k tk) (hv : PE X v tv) : PE X (.Dict [some k] [v] pos) (tDisp1T tk tv) := by
  refine ⟨fun pins s σ H Q I h => ?_⟩
  have hn := I.hok.fresh (Nat.le_refl s.heap.objs.size)
  have I1 := I.laid (a := s.heap.objs.size) (o := .dT []) (h' := s.heap.push { cls := .type "dict", data := .dict #[] }) (t' := s.toks) (fun _ _ q => Heap.get?_push_of_some _ q) (Nat.le_refl _) (dt_empty s.heap I.big)
  have len := pairTrees_length [some k] [v] X.env pos rfl rfl
  have ne : pairTrees [some k] [v] X.env pos ≠ [] := fun z => by rw [z] at len; cases len
  rw [arm_eval_Dict, zip_pairTrees [some k] [v] X.env pos rfl rfl, dictDisplay_pairs _ ne (by rw [len]; show 1 < 17; decide)]
  refine wpAny_bind (wpAny_standAt (wpAny_bind (wpAny_subDictH (knd := tupleKind (mixKind X.prog X.w)) (Q := fun d s' => wpAny (model X.prog X.w) X.A (pure (Value.ref d)) (EP X pins σ Q) X.xe s') hu (by rw [len]; show 1 ≤ 15; decide) ?_)))
  refine pairTrees_cons_walk (thn (hk.run pins _ σ _ _ I1 (h _ hn)) fun u s1 ⟨x, H1, I2, rx, q1⟩ => thn (hv.run pins s1 σ H1 _ I2 q1) fun w2 s2 ⟨y, H2, I3, ry, kk, q, ex, eq, ep, q3⟩ => pairTrees_nil_walk ?_)
  subst ex
  obtain ⟨z, hd, xs, rel, dd⟩ := dt_of I3.hok ep
  cases rel
  refine ⟨[(kk, q, w2)], ⟨rx, rfl, key_of I3.hok eq, trivial⟩, dd, fun h' tk dd' hs => wpAny_pure ⟨.ref _, _, ?_, rfl, q3⟩⟩
  obtain ⟨o, es, epp, hq, h2, h3, h4, _, h5⟩ := dd'
  refine d_write I3 (by rw [ep]; exact True.intro) hs ⟨o, hq⟩ ⟨by show 1 ≤ sizeLine; decide, hd, [(kk, q, w2)], ?_, o, es, epp, hq, h2, h3, h4, h5⟩
  exact .cons ⟨rfl, (upd_ne (ne_of eq ep (fun z => nomatch z))).trans eq, ry⟩ .nil
end Sho
set_option Elab.async false
set_option linter.all false
set_option maxRecDepth 100000
set_option maxHeartbeats 2000000
/-! t[:j:-1] of a tuple; xs[i:] = ys. -/
namespace Sho
open PySem PySem.Spec PyProof.Rows L2 HT
theorem adjust_down {j n : Nat} (h : j < n) : Builtin.Slice.sliceAdjust none (some (j : Int)) (-1) (n : Int) = ((n : Int) - 1, (j : Int)) := by
  unfold Builtin.Slice.sliceAdjust
  have e1 : ¬ ((j : Int) < 0) := by omega
  have e2 : min (j : Int) ((n : Int) - 1) = j := by omega
  simp only [show ((-1 : Int) < 0) by decide, if_true, e1, if_false, e2]
theorem places_down {j n : Nat} (h : j < n) : Builtin.Slice.slicePlaces ((n : Int) - 1) (j : Int) (-1) = n - 1 - j := by
  unfold Builtin.Slice.slicePlaces
  rw [if_neg (by decide : ¬ ((-1 : Int) > 0))]
  have e : (((n : Int) - 1 - j - 1) / (- -1)) = (n : Int) - 1 - j - 1 := by rw [show (- -1 : Int) = 1 by decide, Int.ediv_one]
  rw [e]
  split <;> omega
theorem pick_down (xs : Array Value) {j : Nat} (h : j < xs.size) : ((List.range (xs.size - 1 - j)).filterMap fun (m : Nat) => xs[((xs.size : Int) - 1 + (m : Int) * (-1)).toNat]?) = (xs.toList.drop (j + 1)).reverse := by
  have e1 : ((List.range (xs.size - 1 - j)).filterMap fun (m : Nat) => xs[((xs.size : Int) - 1 + (m : Int) * (-1)).toNat]?) = ((List.range (xs.size - 1 - j)).map fun k => xs.size - 1 - j - 1 - k).filterMap fun m => xs[(j + 1) + m]? := by
    rw [List.filterMap_map]
    have key : ∀ l : List Nat, (∀ m ∈ l, m < xs.size - 1 - j) → l.filterMap (fun (m : Nat) => xs[((xs.size : Int) - 1 + (m : Int) * (-1)).toNat]?) = l.filterMap ((fun m => xs[(j + 1) + m]?) ∘ fun k => xs.size - 1 - j - 1 - k) := fun l => by
      induction l with
      | nil => exact fun _ => rfl
      | cons m l ih =>
        intro hl
        have hm := hl m List.mem_cons_self
        rw [List.filterMap_cons, List.filterMap_cons, ih fun k hk => hl k (List.mem_cons_of_mem _ hk)]
        have e : ((xs.size : Int) - 1 + (m : Int) * (-1)).toNat = (j + 1) + (xs.size - 1 - j - 1 - m) := by omega
        rw [e]
        rfl
    exact key _ fun m hm => List.mem_range.mp hm
  have e2 := pick_run xs (j + 1) (xs.size - 1 - j)
  rw [List.filterMap_map] at e2
  rw [e1, PySem.W.krv_range, List.filterMap_reverse]
  have e3 : ((fun x => xs[x]?) ∘ fun x => (j + 1) + x) = fun m => xs[(j + 1) + m]? := rfl
  rw [e3] at e2
  rw [e2, List.take_of_length_le (by rw [List.length_drop, Array.length_toList]; omega)]
section
variable {prog : Program} {w : World} {A : Around} {E : Value → Shared → Prop} {s : Shared}
theorem applied_down {sl : Addr} {vu vs : Value} {j n : Nat} {Q : Int × Int × Nat → Shared → Prop} (hs : s.heap.IsSliceOf sl .none vu vs) (pu : IsPart vu (some (j : Int))) (ps : IsPart vs (some (-1))) (hj : j < n)
    (h : Q ((n : Int) - 1, -1, n - 1 - j) s) : wpAny (model prog w) A (Builtin.Slice.sliceApplied (.ref sl) (pure (n : Int))) Q E s := by
  obtain ⟨os, hos, _, hds⟩ := id hs
  unfold Builtin.Slice.sliceApplied Builtin.Slice.sliceFields
  refine wpAny_bind (wpAny_bind (wpAny_field hos hds (x := .none) rfl (wpAny_bind (wpAny_field hos hds (x := vu) rfl (wpAny_bind (wpAny_field hos hds (x := vs) rfl (wpAny_pure ?_)))))))
  refine wpAny_bind (slicePart_ ps ?_)
  show wpAny _ _ (if ((-1 : Int) == 0) = true then _ else _) _ _ s
  rw [if_neg (show ¬ (((-1 : Int) == 0) = true) by decide)]
  refine wpAny_bind (slicePart_none (wpAny_bind (slicePart_ pu (wpAny_bind (wpAny_pure ?_)))))
  show wpAny _ _ (match Builtin.Slice.sliceAdjust none (some (j : Int)) (-1) (n : Int) with | (lo, hi) => pure (lo, (-1 : Int), Builtin.Slice.slicePlaces lo hi (-1))) _ _ s
  rw [adjust_down hj]
  show wpAny _ _ (pure ((n : Int) - 1, (-1 : Int), Builtin.Slice.slicePlaces ((n : Int) - 1) (j : Int) (-1))) _ _ s
  rw [places_down hj]
  exact wpAny_pure h
theorem getItem_tuple_down {t sl : Addr} {items : Array Value} {vu vs : Value} {j : Nat} {Q : Value → Shared → Prop} (ht : IsTup s.heap t items) (hs : s.heap.IsSliceOf sl .none vu vs) (pu : IsPart vu (some (j : Int))) (ps : IsPart vs (some (-1))) (hj : j < items.size) (hz : items.size ≤ sizeLine)
    (h : Q (.ref s.heap.objs.size) { s with heap := s.heap.push { cls := .type "tuple", data := .seq (items.toList.drop (j + 1)).reverse.toArray } }) : wpAny (model prog w) A (getItem (.ref t) (.ref sl)) Q E s := by
  have hok : sizeOk (.seq (items.toList.drop (j + 1)).reverse.toArray) := by
    show (items.toList.drop (j + 1)).reverse.toArray.size ≤ sizeLine
    rw [List.size_toArray, List.length_reverse, List.length_drop, Array.length_toList]
    omega
  obtain ⟨os, hos, hcs, _⟩ := id hs
  have hT : s.TypeIs (.ref sl) "slice" := ⟨os, hos, hcs⟩
  unfold getItem
  try with_reducible refine wpAny_holding ?_
  first | (refine wpAny_bind (wpAny_pure ?_)) | skip
  refine wpAny_bind (wpAny_sequenceKey ht.typeIs (show _ by decide) ?_)
  refine wpAny_bind (wpAny_callSpecial?_slot (name := Str.ofString "__getitem__") ht.typeIs PyProof.Rows.slot_tuple_getitem (wpAny_call_entry PyProof.Rows.slot_tuple_getitem ht.typeIs entry_tuple_getitem ?_ (args_tuple_getitem _ _)))
  show wpAny _ _ (Builtin.Tuple.tupleItemsOf (.ref t) >>= _) _ _ s
  refine wpAny_bind (tupleItemsOf_ ht (wpAny_bind (wpAny_typeOf hT ?_)))
  rw [if_pos (by decide)]
  refine wpAny_bind (applied_down hs pu ps hj ?_)
  show wpAny _ _ (if (((items.size : Int) - 1 == 0) && (-1 : Int) == 1 && (items.size - 1 - j) == items.size) = true then _ else _) _ _ s
  rw [if_neg (by rw [show ((-1 : Int) == 1) = false by decide, Bool.and_false, Bool.false_and]; exact Bool.false_ne_true)]
  have e := pick_down items hj
  rw [e]
  first
    | exact wpAny_bind (m := Builtin.Tuple.tupleExact _) (wpAny_newObj_type (wpAny_pure ⟨_, rfl, wpAny_pure h⟩) hok)
    | exact wpAny_bind (m := Builtin.Tuple.tupleExact _) (wpAny_newObj_type (wpAny_bind (wpAny_pure (wpAny_pure ⟨_, rfl, wpAny_pure h⟩))) hok)
    | exact wpAny_bind (wpAny_bind (m := Builtin.Tuple.tupleExact _) (wpAny_newObj_type (wpAny_pure (wpAny_pure ⟨_, rfl, wpAny_pure h⟩)) hok))
    | exact wpAny_bind (wpAny_bind (m := Builtin.Tuple.tupleExact _) (wpAny_newObj_type (wpAny_pure ⟨_, rfl, wpAny_pure h⟩) hok))
end
/-- te: the tuple; th: the place at which it ends; ts: the step, which must be -1 -/
def tDown (K : PySem.W.Frag) (te : TE) (th ts : TO) : TE := fun σ H Q => te σ H fun x H1 => th σ H1 fun o1 H2 => ts σ H2 fun o H3 => o = some (-1) ∧ ∃ a xs j, x = .ref a ∧ o1 = some ((j : Nat) : Int) ∧ SqT K H3 a xs ∧ j < xs.length ∧ ∀ p, H3 p = none → Q (.ref p) (upd H3 p (.tup (xs.drop (j + 1)).reverse))
theorem pe_down {X : Cx} {e hi st : Expr} {te : TE} {th ts : TO} {pp pos : Pos} (he : PE X e te) (hh : PO X (some hi) th) (hst : PO X (some st) ts) : PE X (.Subscript e (.Slice none (some hi) (some st) pp) pos) (tDown X.K te th ts) := by
  refine ⟨fun pins s σ H Q I h => Subscript_ (thn (he.run pins s σ H _ I h) fun v sa ⟨x, Ha, Ia, ra, qa⟩ => ?_)⟩
  refine wpAny_Slice (thn (po_none.run pins sa σ Ha (fun o G => o = none ∧ G = Ha) Ia ⟨rfl, rfl⟩) fun va sb ⟨oa, Hb, Ib, pa, za, zb⟩ => ?_)
  obtain rfl := za
  obtain rfl := zb
  refine thn (hh.run pins sb σ Hb _ Ib qa) fun vb sc ⟨ob, Hc, Ic, pb, qc⟩ => thn (hst.run pins sc σ Hc _ Ic qc) fun vc sd ⟨oc, Hd, Id, pc, zo, a, xs, j, zx, zj, hx, hj, q⟩ => ?_
  subst zo zx zj
  cases ra
  cases pa
  have Ie : Inv X pins σ Hd { sd with heap := sd.heap.push { cls := .type "slice", data := .fields #[.none, vb, vc] } } := Id.kept (t' := sd.toks) fun _ _ z => Heap.get?_push_of_some _ z
  obtain ⟨its, rv, pl, hz⟩ := Ie.tuple hx
  have len := rv.length
  show wpAny (model X.prog X.w) X.A (subscriptTail e (.Slice none (some hi) (some st) pp) (.ref a) (.ref sd.heap.objs.size)) (EP X pins σ Q) X.xe _
  refine tail_any (ops := [.ref a, .ref sd.heap.objs.size]) pl.typeIs (PyProof.Rows.slot_tuple_getitem.lookup) ?_ (by with_unfolding_all rfl)
  refine getItem_tuple_down pl (Heap.IsSliceOf.new _ .none vb vc) pb pc (by rw [List.size_toArray, ← len]; exact hj) (by rw [List.size_toArray, ← len]; exact hz) ?_
  refine ⟨.ref _, _, Ie.laid (t' := sd.toks) (o := .tup (xs.drop (j + 1)).reverse) (fun _ _ z => Heap.get?_push_of_some _ z) (Nat.le_refl _) ⟨by rw [List.length_reverse, List.length_drop]; omega, _, (rv.drop (j + 1)).reverse, ⟨_, Heap.get?_push_size _ rfl, rfl, _, rfl⟩⟩, rfl, q _ (Ie.hok.fresh (Nat.le_refl _))⟩
/-! ### xs[i:] = ys -/
theorem bounds_tail {a n : Nat} (h : a ≤ n) : sliceBounds (some (a : Int)) none none n = ((a : Int), (n : Int), 1) := by
  simp only [sliceBounds, Option.getD_none]
  have h1 : ¬ ((a : Int) < 0) := by omega
  simp only [h1, if_false, show (1 : Int) > 0 by decide, if_true]
  congr 1
  omega
theorem splice_tail (xs ys : List Value) (a : Nat) : xs.toArray.extract 0 a ++ ys.toArray ++ xs.toArray.extract xs.length xs.toArray.size = (xs.take a ++ ys).toArray := by
  apply Array.toList_inj.mp
  simp
section
variable {prog : Program} {w : World} {A : Around} {E : Value → Shared → Prop} {s : Shared}
theorem setItem_tail {l b sl : Addr} {items new : Array Value} {n n2 : Nat} {vl : Value} {a : Nat} {Q : Unit → Shared → Prop} (e : s.heap.get? l = some { cls := .type "list", data := .seq items n }) (e2 : s.heap.get? b = some { cls := .type "list", data := .seq new n2 }) (hne : l ≠ b)
    (hs : s.heap.IsSliceOf sl vl .none .none) (pl : IsPart vl (some (a : Int))) (ha : a ≤ items.size) (hsz : items.size + new.size ≤ sizeLine)
    (h : Q () { s with heap := s.heap.update l (Obj.mapSeq fun xs => xs.extract 0 a ++ new ++ xs.extract items.size xs.size) }) : wpAny (model prog w) A (setItem (.ref l) (.ref sl) (.ref b)) Q E s := by
  have hl : s.heap.IsList l items := PySem.IsL.isList e
  have hb : s.heap.IsList b new := PySem.IsL.isList e2
  obtain ⟨os, hos, hcs, hds⟩ := id hs
  have hT : s.TypeIs (.ref sl) "slice" := ⟨os, hos, hcs⟩
  have hsame : Builtin.List.listSameRef (.ref l) (.ref b) = false := by unfold Builtin.List.listSameRef; exact beq_eq_false_iff_ne.mpr hne
  have hmax : (max (a : Int) (items.size : Int)).toNat = items.size := by omega
  have hz' : ((fun xs : Array Value => xs.extract 0 a ++ new ++ xs.extract items.size xs.size) items).size ≤ sizeLine + 1 := by simp only [Array.size_append, Array.size_extract]; omega
  unfold setItem
  try with_reducible refine wpAny_holding ?_
  first | (refine wpAny_bind (wpAny_pure ?_)) | skip
  refine wpAny_bind (wpAny_sequenceKey hl.typeIs (show _ by decide) (wpAny_bind (wpAny_callSpecial?_slot (name := Str.ofString "__setitem__") hl.typeIs slot_list_setitem (wpAny_call_entry slot_list_setitem hl.typeIs entry_list_setitem ?_ (args_list_setitem _ _ _)))))
  show wpAny _ _ (Builtin.List.listSubscript? (.ref sl) >>= _) _ _ s
  refine wpAny_bind ?_
  unfold Builtin.List.listSubscript?
  refine wpAny_bind (wpAny_specialOf hT slice_no_index ?_)
  simp only [Option.isNone_none, if_true]
  refine wpAny_pure ?_
  show wpAny _ _ (typeOf (.ref sl) >>= _) _ _ s
  refine wpAny_bind (wpAny_typeOf hT ?_)
  first | (rw [if_neg (by decide)]) | (refine PySem.W.KFB.if_not (by decide) ?_)
  rw [listSliceParts_eq]
  refine wpAny_bind (wpAny_bind (wpAny_field hos hds (x := .none) rfl (wpAny_bind (wpAny_listPart (k := none) .none ?_))))
  rw [if_neg (show ¬ ((rawPart none == rawInt 0) = true) from Bool.false_ne_true)]
  refine wpAny_bind (wpAny_field hos hds (x := vl) rfl (wpAny_bind (wpAny_listPart pl (wpAny_bind (wpAny_field hos hds (x := .none) rfl (wpAny_bind (wpAny_listPart (k := none) .none (wpAny_pure ?_))))))))
  first | (simp only [hsame, Bool.false_eq_true, if_false]) | (refine PySem.W.KFB.if_not hsame ?_) | (dsimp only; rw [if_neg (by rw [hsame]; exact Bool.false_ne_true)])
  refine wpAny_bind (m := Builtin.List.listAllItems (.ref b) "must assign iterable to extended slice") (?_ : wpAny _ _ _ _ _ _)
  unfold Builtin.List.listAllItems
  refine wpAny_bind (wpAny_typeOf hb.typeIs (?_ : wpAny _ _ _ _ _ _))
  first | (refine PySem.W.KFB.if_so (by decide) ?_) | (rw [if_pos (by decide)]) | (simp only [beq_self_eq_true, Bool.true_or, if_true])
  unfold Builtin.List.listItems
  refine wpAny_bind (wpAny_seqItems e2 rfl (wpAny_pure (wpAny_bind (wpAny_bind (wpAny_seqItems e rfl (wpAny_pure ?_))))))
  refine wpAny_bind (wpAny_of_eq ((sliceIndices_raw (some (a : Int)) none none items.size (by simp)).trans (congrArg (pure : Int × Int × Int → Sem (Int × Int × Int)) (bounds_tail ha))) ?_)
  show wpAny _ _ (if ((1 : Int) == 1) = true then _ else _) _ _ s
  rw [if_pos (show ((1 : Int) == 1) = true by decide)]
  refine wpAny_bind (wpAny_rule ?_)
  first | (simp only [notLongL hsz, Bool.false_eq_true, if_false]) | (refine PySem.W.KFB.if_not (notLongL hsz) ?_)
  first | (refine wpAny_bind (wpAny_pure ?_)) | skip
  show wpAny _ _ (updateSeq l (fun xs => xs.extract 0 ((a : Int)).toNat ++ new ++ xs.extract (max (a : Int) (items.size : Int)).toNat xs.size) >>= _) _ _ s
  rw [hmax, Int.toNat_natCast]
  refine wpAny_bind (wpAny_updateSeq (hz := Nat.le_trans (Nat.le_add_right _ _) hsz) (_hz' := hz') e rfl (wpAny_bind (wpAny_letGo ?_)))
  first | exact wpAny_bind (wpAny_pure (wpAny_pure ⟨.none, rfl, wpAny_pure h⟩)) | exact wpAny_pure ⟨.none, rfl, wpAny_pure h⟩
end
/-- xs[i:] = v -/
def gTail (to : TE) (ti : TO) : TG := fun v σ H Q => to σ H fun x H1 => ti σ H1 fun o H2 => ∃ l b xs ys a, x = .ref l ∧ v = .ref b ∧ o = some ((a : Nat) : Int) ∧ H2 l = some (.lst xs) ∧ H2 b = some (.lst ys) ∧ l ≠ b ∧ a ≤ xs.length ∧ xs.length + ys.length ≤ sizeLine ∧
  Q σ (upd H2 l (.lst (xs.take a ++ ys)))
theorem pg_tail {X : Cx} {o i : Expr} {to : TE} {ti : TO} {p2 pos : Pos} (ho : PE X o to) (hi : PO X (some i) ti)
    (ha : ∀ v, assign (.Subscript o (.Slice (some i) none none p2) pos) X.env v = (do
      let ov ← holding [v] (eval o X.env)
      let iv ← holding [v, ov] (eval (.Slice (some i) none none p2) X.env)
      standAt pos
      holding [v, ov, iv] (setItem ov iv v)
      release [iv, v, ov] []) := by intro _; rfl) : PG X (.Subscript o (.Slice (some i) none none p2) pos) (gTail to ti) := by
  refine ⟨fun pins s σ H v u Q I r h => ?_⟩
  rw [ha]
  refine wpAny_bind (wpAny_holding (thn (ho.run pins s σ H _ I h) fun ov s1 ⟨x, H1, I1, r1, q1⟩ => wpAny_bind (wpAny_holding ?_)))
  refine wpAny_Slice (thn (hi.run pins s1 σ H1 _ I1 q1) fun va s2 ⟨oa, H2, I2, pa, l, b, xs, ys, a, ex, ev, eo, hl, hb, ne, hle, hz, q⟩ => ?_)
  subst ex ev eo
  cases r1
  cases r
  rw [evalPart_none]
  refine wpAny_pure (wpAny_pure ?_)
  have I3 : Inv X pins σ H2 { s2 with heap := s2.heap.push { cls := .type "slice", data := .fields #[va, .none, .none] } } := I2.kept (t' := s2.toks) fun _ _ z => Heap.get?_push_of_some _ z
  obtain ⟨z, its, n, rv, _, e⟩ := I3.lstM hl
  obtain ⟨z2, its2, n2, rv2, _, e2⟩ := I3.lstM hb
  have l1 := rv.length
  have l2 := rv2.length
  refine wpAny_bind (wpAny_standAt (wpAny_bind (wpAny_holding ?_)))
  refine setItem_tail (a := a) e e2 ne (Heap.IsSliceOf.new _ va .none .none) pa (by rw [List.size_toArray, ← l1]; exact hle) (by rw [List.size_toArray, List.size_toArray, ← l1, ← l2]; exact hz) ?_
  refine wpAny_release ⟨σ, _, ?_, q⟩
  refine I3.lset (its' := its.take a ++ its2) (t' := s2.toks) hl e ?_ ((rv.take a).append rv2) ?_
  · have := splice_tail its its2 a
    rw [List.size_toArray]
    exact this
  · rw [List.length_append, List.length_take]
    omega
end Sho
set_option Elab.async false
set_option linter.all false
set_option maxRecDepth 100000
set_option maxHeartbeats 8000000
set_option autoImplicit false
/-! _after_going. -/
namespace Go
open PySem L2 Sho NdefX Shg Sh1
abbrev NAG : List Str := ["piles", "seen", "after", "pile", "ways", "way", "place", "name", "facts", "rest", "kind", "fact"]
theorem cat_tups {K : PySem.W.Frag} {H : Hp} {a b : Addr} {xs ys : List V} {Q : VK} (ha : H a = some (.tup xs)) (hb : H b = some (.tup ys)) (hz : xs.length + ys.length ≤ sizeLine) (k : ∀ p H', Same H H' → H' p = some (.tup (xs ++ ys)) → Q (.ref p) H') : rCatA K (.ref a) (.ref b) H Q := by
  refine ⟨a, b, xs, ys, rfl, rfl, SqT.of ha, SqT.of hb, hz, fun e => ?_, fun _ e => ?_, fun _ _ p hp => k p _ (same_upd hp) upd_same⟩
  · subst e
    exact k b H (Same.refl H) hb
  · subst e
    exact k a H (Same.refl H) (by rw [List.append_nil]; exact ha)
theorem cut_tup {K : PySem.W.Frag} {H : Hp} {a : Addr} {xs : List V} {lo hi : Option Int} {Q : VK} (ha : H a = some (.tup xs)) (k : ∀ p H', Same H H' → H' p = some (.tup (cutV xs lo hi)) → Q (.ref p) H') : rSlA K (.ref a) lo hi H Q := by
  refine ⟨a, xs, rfl, SqT.of ha, fun e => ?_, fun _ p hp => k p _ (same_upd hp) upd_same⟩
  refine k a H (Same.refl H) ?_
  have : cutV xs lo hi = xs := by
    unfold cutV
    rw [e.1, e.2, List.drop_zero, Nat.sub_zero, List.take_length]
  rw [this]
  exact ha
theorem np_of {σ : L2.St} {H : Hp} {Q : Option Int → Hp → Prop} (h : Q none H) : tNoPart σ H Q := h
theorem cut_to (ws : List V) {k : Nat} (h : k ≤ ws.length) : cutV ws none (some (k : Int)) = ws.take k := by
  unfold cutV
  rw [HT.sIx_none, HT.sIx_nat, List.drop_zero, Nat.sub_zero, Nat.min_eq_left h]
theorem cut_from (ws : List V) {k : Nat} (h : k ≤ ws.length) : cutV ws (some (k : Int)) none = ws.drop k := by
  unfold cutV
  rw [HT.sIx_none, HT.sIx_nat, Nat.min_eq_left h, List.take_of_length_le (by rw [List.length_drop]; omega)]
theorem walk_itemsT {d : Addr} {o : Obj} {kvs : List (List L2.Key × V)} : Walk (Itit d o kvs) kvs.length (fun H => H d = some (.frz o (.dT kvs))) (fun i H x H' => ∃ (T q : Addr) (k : List L2.Key) (v : V), kvs[i]? = some (k, v) ∧ x = .ref T ∧ H T = none ∧ H q = some (.tup (k.map kV)) ∧ H' = upd H T (.tup [.ref q, v])) :=
  ⟨fun _ _ hi q => ⟨q, hi⟩, fun _ q => ⟨q, Nat.le_refl _⟩, fun _ _ _ _ _ _ y => y⟩
theorem key_strs (ns : List Str) : (keyN ns).map kV = ns.map V.str := by
  rw [List.map_map]
  rfl
section
variable {P : Program} {w : World} {K : PySem.W.Frag} {mg : Str → Option Value} {base : Heap}
theorem scAfter : FnScope NAG ["piles", "seen"] (defScope sAfterGoing) := ⟨rfl, rfl, rfl, by decide +kernel, rfl, by decide +kernel, by decide +kernel⟩
/-- seen is empty; every pile of n + 1 guests loses one -/
def spAfterG : Sp := fun vs H Q _ => ∃ (Bs : List Str) (D Sd : Addr) (n M : Nat) (kvs : List (List L2.Key × V)), vs = [.ref D, .ref Sd] ∧ H D = some (.dT kvs) ∧ H Sd = some (.dT []) ∧ D ≠ Sd ∧ Ways H (n + 1) M Bs kvs ∧ Bs.length ≤ 10 ∧ M ≤ 1000 ∧
  ∀ (D2 : Addr) (H' : Hp) (kvs2 : List (List L2.Key × V)), H D2 = none → (∀ b o, H b = some o → H' b = some o) → H' D2 = some (.dT kvs2) → Ways H' n (M + 1) Bs kvs2 → Q (.ref D2) H'
theorem ok_afterG {f : Addr} {fd : FuncData} (F : Fun K "_after_going" "_after_going" sAfterGoing f fd) (B : Shg.Blt mg) : FnOk P w K mg base CX0 1 f fd ["piles", "seen"] spAfterG := by
  refine F.ok scAfter (fun vs H Q E h => ?_) (fun cdv A outer s H vs Q E hr h => ?_)
  · obtain ⟨Bs, D, Sd, n, M, kvs, rfl, _⟩ := h
    rfl
  · obtain ⟨Bs, D, Sd, n, M, kvs, rfl, hD, hS, nDS, W, hB, hM, kk⟩ := h
    have nd := scAfter.nd
    refine ⟨_, (pss_cons (ps_set (i := 2) nd rfl (Or.inl rfl) pe_dnewT)
      (pss_cons (ps_lock (ps_for PassesOwn.never rfl (pi_itemsT (pv 0)) (pg_tup rfl (pgs_cons (pg_name (i := 3) nd rfl (Or.inl rfl)) (pgs_cons (pg_tup rfl (pgs_cons (pg_name (i := 4) nd rfl (Or.inl rfl)) (pgs_cons (pg_name (i := 5) nd rfl (Or.inl rfl)) pgs_nil))) pgs_nil))) (pss_one (ps_for PassesOwn.never rfl (pi_enumT (by rfl) B.enum (pa_cons (pv 3) pa_nil)) (pg_tup rfl (pgs_cons (pg_name (i := 6) nd rfl (Or.inl rfl)) (pgs_cons (pg_name (i := 7) nd rfl (Or.inl rfl)) pgs_nil))) (pss_cons (ps_set (i := 8) nd rfl (Or.inr rfl) (pe_disp (pps_cons (pe_str (x := "guest")) (pv 7) (pps_cons (pe_str (x := "lift")) (pe_op op_sub (pe_op op_sub (pe_callB call_len_seq (by rfl) B.len PySem.boot_len (pa_cons (pv 3) pa_nil)) (pv 6)) pe_int) pps_nil)) (by rfl) (by rfl) (fun z => by cases z) (by decide)))
      (pss_one (ps_if (pt_val (pe_callB (cr_all rfl) (by rfl) B.all (by decide +kernel) (pa_cons (pe_lock (pe_lc (own := [("kind", 10), ("fact", 11)]) (g := gTup K 2 (gCons (gName 10) (gCons (gName 11) gNil))) (tt := tYes) (te := tOp rEq (tDGet (tVar 8) (tVar 10)) (tVar 11)) rfl nd (pi_keys (pv 1)) (blkOk_by (own := [("kind", 10), ("fact", 11)]) (N := NAG) (sc := defScope sAfterGoing) (by decide +kernel))
        (fun _ _ _ _ _ => (pg_tup rfl (pgs_cons (pg_name (i := 10) nd rfl (Or.inl rfl)) (pgs_cons (pg_name (i := 11) nd rfl (Or.inl rfl)) pgs_nil)))) (fun _ _ _ _ _ => pts_nil) (fun _ _ _ _ _ => (pe_cmpR op_eq (pe_dget (hu_of hr) (pv 8) (pv 10) (fun _ _ => rfl)) (pv 11) (nomark _))))) pa_nil))) (pss_cons (ps_set (i := 9) nd rfl (Or.inl rfl) (pe_op op_catA (pe_slice sl_tupA (pv 3) po_none (po_some (pv 6))) (pe_slice sl_tupA (pv 3) (po_some (pe_op op_add (pv 6) pe_int)) po_none)))
      (pss_one (ps_dput (hu_of hr) (pv 2) (pv 9) (pe_tup (pa_cons (pe_op op_add (pe_ix ix_tup (pe_dget2 (hu_of hr) (pv 2) (pv 9) (pe_tup (pa_cons pe_int (pa_cons (pe_tup pa_nil) pa_nil))) ⟨rfl, rfl, rfl, rfl⟩) pe_int (fun _ _ => rfl)) (pv 4)) (pa_cons (pe_tup (StX.pa_star (pv 5) (pa_cons (pv 7) pa_nil))) pa_nil))) rfl))) pss_nil)))))))
      (pss_one (ps_ret (pv 2))))), ?_⟩
    refine fun D2 hD2 => name_of ?_
    have nD : D ≠ D2 := ne_of_none hD hD2
    refine ⟨D, .dT kvs, (by rw [upd_ne nD]; exact hD), trivial, fun od => ?_⟩
    have k0 : ∀ b o, b ≠ D → H b = some o → (upd (upd H D2 (.dT [])) D (.frz od (.dT kvs))) b = some o := fun b o n e => by rw [upd_ne n, upd_ne (ne_of_none e hD2)]; exact e
    refine ⟨_, rfl, D, od, kvs, rfl, upd_same, for_it walk_itemsT (fun i σ H1 => ∃ (o3 o4 o5 o6 o7 o8 o9 o10 o11 : Option V) (kvs2 : List (List L2.Key × V)), σ = [some (.ref D), some (.ref Sd), some (.ref D2), o3, o4, o5, o6, o7, o8, o9, o10, o11] ∧ H1 D = some (.frz od (.dT kvs)) ∧ (∀ b o, b ≠ D → H b = some o → H1 b = some o) ∧ H1 D2 = some (.dT kvs2) ∧ (kvs2.map (·.1)).Nodup ∧ (∀ p ∈ kvs2, Entry H1 n (M + 1) Bs p) ∧ (0 < i → kvs2 ≠ []))
      ⟨none, none, none, none, none, none, none, none, none, [], rfl, upd_same, k0, by rw [upd_ne (Ne.symm nD)]; exact upd_same, .nil, (fun p hp => nomatch hp), fun z => absurd z (by decide)⟩ (fun i σ H1 _ p => by obtain ⟨_, _, _, _, _, _, _, _, _, _, _, e, _⟩ := p; exact e) ?_ ?_⟩
    · rintro i y σ H1 H1' hi ⟨o3, o4, o5, o6, o7, o8, o9, o10, o11, kvs2, rfl, eD, keep, eD2, nd2, all2, ne2⟩ ⟨T, q, k, v, hkv, rfl, hT, hq, rfl⟩
      obtain ⟨ns, t, wv, c, ws, ekv, ln, sl, ht, hc, hwv, hws⟩ := W.all _ (List.mem_of_getElem? hkv)
      cases ekv
      rw [key_strs] at hq
      have tD : ∀ b vs, H b = some (.tup vs) → b ≠ D := fun b vs e z => by rw [z, hD] at e; cases e
      have ht1 := keep t _ (tD _ _ ht) ht
      have hwv1 := keep wv _ (tD _ _ hwv) hwv
      have sT : Same H1 (upd H1 T (.tup [.ref q, .ref t])) := same_upd hT
      have st0 : ∃ kvs3 : List (List L2.Key × V), (upd H1 T (.tup [.ref q, .ref t])) D = some (.frz od (.dT kvs)) ∧ (∀ b o, b ≠ D → H b = some o → (upd H1 T (.tup [.ref q, .ref t])) b = some o) ∧ (upd H1 T (.tup [.ref q, .ref t])) D2 = some (.dT kvs3) ∧ (kvs3.map (·.1)).Nodup ∧ (∀ p ∈ kvs3, Entry (upd H1 T (.tup [.ref q, .ref t])) n (M + 1) Bs p) := ⟨kvs2, sT _ _ eD, fun b o n e => sT _ _ (keep b o n e), sT _ _ eD2, nd2, fun p hp => (all2 p hp).keep fun b vs e => sT _ _ e⟩
      have eT : (upd H1 T (.tup [.ref q, .ref t])) T = some (.tup [.ref q, .ref t]) := upd_same
      have ht2 := sT _ _ ht1
      have hwv2 := sT _ _ hwv1
      have hq2 := sT _ _ hq
      generalize upd H1 T (.tup [.ref q, .ref t]) = H3 at *
      refine ⟨T, _, rfl, SqT.of eT, rfl, _, _, rfl, _, _, rfl, t, _, rfl, SqT.of ht2, rfl, _, _, rfl, _, _, rfl, rfl, rfl, ?_⟩
      obtain ⟨kvs3, st1, st2, st3, st4, st5⟩ := st0
      refine ⟨_, rfl, q, _, rfl, SqT.of hq2, for_it walk_enumT (fun j σ H2 => ∃ (o6 o7 o8 o9 o10 o11 : Option V) (kvs4 : List (List L2.Key × V)), σ = [some (.ref D), some (.ref Sd), some (.ref D2), some (.ref q), some (.int c), some (.ref wv), o6, o7, o8, o9, o10, o11] ∧ H2 D = some (.frz od (.dT kvs)) ∧ (∀ b o, b ≠ D → H b = some o → H2 b = some o) ∧ H2 D2 = some (.dT kvs4) ∧ (kvs4.map (·.1)).Nodup ∧ (∀ p ∈ kvs4, Entry H2 n (M + 1) Bs p) ∧ (0 < j → kvs4 ≠ []) ∧ H2 q = some (.tup (ns.map V.str)) ∧ H2 wv = some (.tup (ws.map V.str)))
        ⟨o6, o7, o8, o9, o10, o11, kvs3, rfl, st1, st2, st3, st4, st5, (fun z => absurd z (by decide)), hq2, hwv2⟩ (fun j σ H2 _ p => by obtain ⟨_, _, _, _, _, _, _, _, _, _, _, _, _, _, e, _⟩ := p; exact SqT.of e) ?_ ?_⟩
      · rintro j y σ H4' H4 hj ⟨p6, p7, p8, p9, p10, p11, kvs4, rfl, u1, u2, u3, u4, u5, u6, u7, u8⟩ ⟨T2, y1, y2, rfl, hT2, rfl, e1, e3⟩
        cases e1
        have e3 : (ns.map V.str)[j]? = some y2 := e3
        rw [List.getElem?_map] at e3
        obtain ⟨z, hz, rfl⟩ : ∃ z, ns[j]? = some z ∧ y2 = .str z := by
          cases e : ns[j]? with
          | none => rw [e] at e3; cases e3
          | some z => rw [e] at e3; cases e3; exact ⟨z, rfl, rfl⟩
        have hjn : j < ns.length := (List.getElem?_eq_some_iff.mp hz).1
        refine ⟨T2, _, rfl, SqT.of upd_same, rfl, _, _, rfl, _, _, rfl, rfl, ?_⟩
        have s5 := same_upd (o := .tup [.int (j : Nat), .str z]) hT2
        generalize upd H4' T2 (.tup [.int (j : Nat), .str z]) = H5 at *
        -- facts
        refine fun Fd hFd => ⟨_, rfl, _, rfl, q, _, rfl, .inr (SqT.of ((same_upd hFd) _ _ (s5 _ _ u7))), _, rfl, _, _, rfl, rfl, _, _, rfl, rfl, upd_same, [(.inr "guest", .str z), (.inr "lift", .int (((ns.map V.str).length : Nat) - (j : Nat) - 1))], rfl, by show 2 ≤ 15; decide, name_of ?_⟩
        have s6 : Same H5 (upd (upd H5 Fd (.dK [])) Fd (.dK (mergeK [] [(.inr "guest", .str z), (.inr "lift", .int (((ns.map V.str).length : Nat) - (j : Nat) - 1))]))) := fun b o e => by rw [upd_ne (ne_of_none e hFd), upd_ne (ne_of_none e hFd)]; exact e
        have s56 := s5.trans s6
        generalize upd (upd H5 Fd (.dK [])) Fd (.dK (mergeK [] [(.inr "guest", .str z), (.inr "lift", .int (((ns.map V.str).length : Nat) - (j : Nat) - 1))])) = H6 at *
        have hS6 : H6 Sd = some (.dT []) := s56 _ _ (u2 Sd _ (Ne.symm nDS) hS)
        -- nothing was seen
        refine ⟨Sd, .dT [], hS6, trivial, fun od2 => ⟨_, rfl, Sd, od2, rfl, .inr ⟨[], upd_same, fun Dl hDl => ?_⟩⟩⟩
        refine lc_map (walk_keysT (kvs := [])) (fun _ => none) hDl (Nat.zero_le _) (fun H s => s _ _ upd_same) (fun i x H1 H' hi => absurd hi (Nat.not_lt_zero _)) (fun i hi => absurd hi (Nat.not_lt_zero _)) fun H7 s7 e7 => ?_
        have lk : H7 Sd = some (.frz od2 (.dT [])) := s7 _ _ upd_same
        have nDlS : Dl ≠ Sd := fun z => by rw [z, upd_same] at hDl; cases hDl
        have s67 : Same H6 (upd H7 Sd (.dT [])) := fun b o e => by
          by_cases hb : b = Sd
          · rw [hb, hS6] at e
            cases e
            rw [hb]
            exact upd_same
          · rw [upd_ne hb]
            exact s7 _ _ (by rw [upd_ne hb]; exact e)
        refine ⟨lk, Dl, [], rfl, SqL.of (by rw [upd_ne nDlS]; exact e7), _, rfl, iteT ?_⟩
        have s47 := s56.trans s67
        generalize upd H7 Sd (.dT []) = H8 at *
        have q8 := s47 _ _ u7
        -- the rest
        refine ⟨_, rfl, _, rfl, _, rfl, cut_tup q8 fun p1 H9 s9 e9 => ⟨_, rfl, _, rfl, _, _, rfl, rfl, _, rfl, np_of (cut_tup (s9 _ _ q8) fun p2 HA sA eA => ?_)⟩⟩
        have lnv : (ns.map V.str).length = ns.length := List.length_map ..
        have lB : ns.length ≤ 10 := Nat.le_trans sl.length_le hB
        rw [cut_to (ns.map V.str) (by omega)] at e9
        rw [show ((j : Int) + 1) = ((j + 1 : Nat) : Int) by omega, cut_from (ns.map V.str) (by omega)] at eA
        refine cat_tups (sA _ _ e9) eA (by rw [List.length_take, List.length_drop]; exact Nat.le_trans (by omega : _ ≤ 20) (by decide)) fun p3 HB sB eB => name_of ?_
        obtain ⟨rl, rlen⟩ := less_one sl hjn
        have eB2 : HB p3 = some (.tup ((keyN (ns.take j ++ ns.drop (j + 1))).map kV)) := by rw [eB, key_strs, List.map_append, List.map_take, List.map_drop]
        generalize ns.take j ++ ns.drop (j + 1) = rs at rl rlen eB2
        have s4B := s47.trans ((s9.trans sA).trans sB)
        have few := ways_few u4 u5 hB
        -- so many ways before
        refine ⟨_, rfl, D2, rfl, .inr ⟨kvs4, .inl (s4B _ _ u3)⟩, _, rfl, Nat.zero_le _, fun e0 he0 => ⟨by show 2 ≤ sizeLine; decide, fun e1 he1 => ?_⟩⟩
        have t0 := same_upd (o := .tup []) he0
        have t1 := same_upd (o := .tup [.int 0, .ref e0]) he1
        have ee1 : (upd (upd HB e0 (.tup [])) e1 (.tup [.int 0, .ref e0])) e1 = some (.tup [.int 0, .ref e0]) := upd_same
        have s4C := s4B.trans (t0.trans t1)
        have eC := (t0.trans t1) _ _ eB2
        generalize upd (upd HB e0 (.tup [])) e1 (.tup [.int 0, .ref e0]) = HC at *
        refine ⟨_, DGet.t (s4C _ _ u3) eC, ?_⟩
        obtain ⟨tt, rest, c', ett, htt, hc0⟩ : ∃ tt rest c', (valV kvs4 (keyN rs)).getD (.ref e1) = .ref tt ∧ HC tt = some (.tup (.int c' :: rest)) ∧ 0 ≤ c' := by
          cases ev : valV kvs4 (keyN rs) with
          | none => exact ⟨e1, _, 0, rfl, ee1, Int.le_refl 0⟩
          | some v =>
            unfold valV at ev
            obtain ⟨pr, hpr, rfl⟩ := Option.map_eq_some_iff.mp ev
            obtain ⟨ns2, t2, w2, c2, ws2, rfl, _, _, g1, g2, g3⟩ := u5 pr (List.mem_of_find?_eq_some hpr)
            exact ⟨t2, _, c2, rfl, s4C _ _ g1, by omega⟩
        rw [ett]
        refine ⟨tt, _, 0, .int c', rfl, rfl, SqT.of htt, atI_nat (j := 0) rfl, _, rfl, _, _, rfl, rfl, _, rfl, wv, _, rfl, .inl (SqT.of (s4C _ _ u8)), _, rfl, ?_, fun w2 hw2 => ⟨by show 2 ≤ sizeLine; decide, fun t2 ht2 => ?_⟩⟩
        · rw [List.length_append, List.length_map]
          exact Nat.le_trans (by show ws.length + 1 ≤ 1001; omega) (by decide)
        have v1 := same_upd (o := .tup (ws.map V.str ++ [.str z])) hw2
        have v2 := same_upd (o := .tup [.int (c' + c), .ref w2]) ht2
        have ew := v2 _ _ (show (upd HC w2 (.tup (ws.map V.str ++ [.str z]))) w2 = some (.tup ((ws ++ [z]).map V.str)) by rw [upd_same, List.map_append]; rfl)
        have et : (upd (upd HC w2 (.tup (ws.map V.str ++ [.str z]))) t2 (.tup [.int (c' + c), .ref w2])) t2 = some (.tup [.int (c' + c), .ref w2]) := upd_same
        have s4E := s4C.trans (v1.trans v2)
        have eE := (v1.trans v2) _ _ eC
        generalize upd (upd HC w2 (.tup (ws.map V.str ++ [.str z]))) t2 (.tup [.int (c' + c), .ref w2]) = HE at *
        have u3E := s4E _ _ u3
        refine ⟨_, rfl, _, rfl, D2, _, rfl, DPut.t u3E eE (Nat.lt_of_le_of_lt few (by decide)), ?_⟩
        have kt : ∀ b vs, HE b = some (.tup vs) → (upd HE D2 (.dT (putK kvs4 (keyN rs) (.ref t2)))) b = some (.tup vs) := fun b vs e => by rw [upd_ne fun z => by rw [z, u3E] at e; cases e]; exact e
        refine ⟨_, _, _, _, _, _, putK kvs4 (keyN rs) (.ref t2), rfl, by rw [upd_ne nD]; exact s4E _ _ u1, fun b o nb e => by rw [upd_ne fun z => by rw [z, hD2] at e; cases e]; exact s4E _ _ (u2 b o nb e), upd_same, put_nodup _ _ u4, fun p hp => ?_, fun _ => put_ne _ _ _, kt _ _ (s4E _ _ u7), kt _ _ (s4E _ _ u8)⟩
        rcases put_mem hp with rfl | ⟨hp, _⟩
        · exact ⟨rs, t2, w2, c' + c, ws ++ [z], rfl, by omega, rl, kt _ _ et, by omega, kt _ _ ew, by rw [List.length_append]; exact Nat.succ_le_succ hws⟩
        · exact ((u5 p hp).keep fun b vs e => s4E _ _ e).keep kt
      · rintro σ H2 ⟨p6, p7, p8, p9, p10, p11, kvs4, rfl, u1, u2, u3, u4, u5, u6, u7, u8⟩
        exact ⟨_, _, _, _, _, _, _, _, _, kvs4, rfl, u1, u2, u3, u4, u5, fun _ => u6 (by rw [List.length_map, ln]; exact Nat.succ_pos _)⟩
    · rintro σ H1 ⟨o3, o4, o5, o6, o7, o8, o9, o10, o11, kvs2, rfl, eD, keep, eD2, nd2, all2, ne2⟩
      refine ⟨eD, _, rfl, ?_⟩
      have hne := ne2 (List.length_pos_iff.mpr W.some)
      refine kk D2 _ kvs2 hD2 (fun b o e => ?_) (by rw [upd_ne (Ne.symm nD)]; exact eD2) ⟨hne, nd2, fun p hp => (all2 p hp).keep fun b vs e => ?_⟩
      · by_cases z : b = D
        · rw [z, hD] at e
          cases e
          rw [z]
          exact upd_same
        · rw [upd_ne z]
          exact keep b o z e
      · rw [upd_ne fun z => by rw [z, eD] at e; cases e]
        exact e
end
end Go
set_option Elab.async false
set_option linter.all false
set_option maxRecDepth 100000
set_option maxHeartbeats 400000
set_option autoImplicit false
/-! Ways to go, counted: the program's dicts as lists; numbers only. -/
namespace Jo
open PySem
/-- what was seen of a going -/
inductive Fc where
  | guest (z : Str)
  | lift (n : Int)
  deriving DecidableEq
/-- a pile, in how many ways it comes about, one of them -/
abbrev Ent := List Str × Nat × List Str
abbrev Step := List Str × List Fc
def okF (ns : List Str) (j : Nat) : Fc → Bool
  | .guest z => decide (ns[j]? = some z)
  | .lift n => decide ((ns.length : Int) - (j : Int) - 1 = n)
def okAt (fs : List Fc) (ns : List Str) (j : Nat) : Bool := fs.all (okF ns j)
def putE (D : List Ent) (r : List Str) (c : Nat) (w : List Str) : List Ent :=
  if (D.any fun e => decide (e.1 = r)) = true then D.map (fun e => if e.1 = r then (r, e.2.1 + c, w) else e) else D ++ [(r, c, w)]
/-- the guest at a place goes -/
def goE (fs : List Fc) (e : Ent) (D : List Ent) (j : Nat) : List Ent := if okAt fs e.1 j = true then putE D (e.1.eraseIdx j) e.2.1 (e.2.2 ++ [e.1.getD j ""]) else D
def innerE (fs : List Fc) (D : List Ent) (e : Ent) : List Ent := (List.range e.1.length).foldl (goE fs e) D
def afterE (fs : List Fc) (D : List Ent) : List Ent := D.foldl (innerE fs) []
def stepE (s : Step) (D : List Ent) : List Ent := afterE s.2 (D.map fun e => (e.1 ++ s.1, e.2))
def runE : List Step → List Ent → List Ent
  | [], D => D
  | s :: st, D => runE st (stepE s D)
abbrev D0 : List Ent := [([], 1, [])]
/-- the ways on from a pile -/
def comp : List Step → List Str → Nat
  | [], _ => 1
  | s :: st, ns => ((List.range (ns ++ s.1).length).map fun j => if okAt s.2 (ns ++ s.1) j = true then comp st ((ns ++ s.1).eraseIdx j) else 0).sum
/-! ### sums -/
def wsum (f : List Str → Nat) (D : List Ent) : Nat := (D.map fun e => e.2.1 * f e.1).sum
def NdE (D : List Ent) : Prop := (D.map fun e => e.1).Nodup
theorem any_pile {D : List Ent} {r : List Str} : (D.any fun e => decide (e.1 = r)) = true ↔ r ∈ D.map fun e => e.1 := by
  rw [List.any_eq_true, List.mem_map]
  exact ⟨fun ⟨e, h, k⟩ => ⟨e, h, of_decide_eq_true k⟩, fun ⟨e, h, k⟩ => ⟨e, h, decide_eq_true k⟩⟩
theorem put_piles (D : List Ent) (r : List Str) (c : Nat) (w : List Str) : (putE D r c w).map (fun e => e.1) = if r ∈ D.map (fun e => e.1) then D.map (fun e => e.1) else D.map (fun e => e.1) ++ [r] := by
  unfold putE
  by_cases h : r ∈ D.map fun e => e.1
  · rw [if_pos (any_pile.mpr h), if_pos h, List.map_map]
    refine List.map_congr_left fun e _ => ?_
    show (if e.1 = r then (r, e.2.1 + c, w) else e).1 = e.1
    by_cases k : e.1 = r
    · rw [if_pos k, k]
    · rw [if_neg k]
  · rw [if_neg fun k => h (any_pile.mp k), if_neg h, List.map_append]
    rfl
theorem NdE.put {D : List Ent} (h : NdE D) (r : List Str) (c : Nat) (w : List Str) : NdE (putE D r c w) := by
  unfold NdE
  rw [put_piles]
  split
  · exact h
  · rename_i k
    exact List.nodup_append.mpr ⟨h, List.nodup_cons.mpr ⟨List.not_mem_nil, .nil⟩, fun a ha b hb e => by
      rw [List.mem_singleton.mp hb] at e
      exact k (by rw [← e]; exact ha)⟩
theorem put_mem {D : List Ent} {r : List Str} {c : Nat} {w : List Str} {e : Ent} (h : e ∈ putE D r c w) : (e.1 = r ∧ e.2.2 = w) ∨ e ∈ D := by
  unfold putE at h
  split at h
  · obtain ⟨q, hq, rfl⟩ := List.mem_map.mp h
    by_cases k : q.1 = r
    · rw [if_pos k]
      exact .inl ⟨rfl, rfl⟩
    · rw [if_neg k]
      exact .inr hq
  · rcases List.mem_append.mp h with h | h
    · exact .inr h
    · rw [List.mem_singleton.mp h]
      exact .inl ⟨rfl, rfl⟩
theorem wsum_put (f : List Str → Nat) {D : List Ent} (nd : NdE D) (r : List Str) (c : Nat) (w : List Str) : wsum f (putE D r c w) = wsum f D + c * f r := by
  unfold putE
  by_cases h : r ∈ D.map fun e => e.1
  · rw [if_pos (any_pile.mpr h)]
    induction D with
    | nil => cases h
    | cons a D ih =>
      unfold NdE at nd
      rw [List.map_cons, List.nodup_cons] at nd
      unfold wsum at ih ⊢
      rw [List.map_cons, List.map_cons, List.sum_cons, List.map_cons, List.sum_cons]
      by_cases k : a.1 = r
      · rw [if_pos k]
        have e : D.map (fun e : Ent => if e.1 = r then ((r, e.2.1 + c, w) : Ent) else e) = D := by
          conv => rhs; rw [← List.map_id D]
          refine List.map_congr_left fun e he => ?_
          rw [if_neg fun z => nd.1 (by rw [k, ← z]; exact List.mem_map.mpr ⟨e, he, rfl⟩)]
          rfl
        rw [e, k]
        show (a.2.1 + c) * f r + _ = _
        rw [Nat.add_mul]
        omega
      · rw [if_neg k]
        have h' : r ∈ D.map fun e => e.1 := by
          rw [List.map_cons] at h
          exact (List.mem_cons.mp h).resolve_left fun z => k z.symm
        rw [ih nd.2 h']
        omega
  · rw [if_neg fun k => h (any_pile.mp k)]
    unfold wsum
    rw [List.map_append, List.sum_append]
    simp
theorem wsum_go (f : List Str → Nat) (fs : List Fc) (e : Ent) : ∀ (l : List Nat) (D : List Ent), NdE D → NdE (l.foldl (goE fs e) D) ∧ wsum f (l.foldl (goE fs e) D) = wsum f D + (l.map fun j => if okAt fs e.1 j = true then e.2.1 * f (e.1.eraseIdx j) else 0).sum
  | [], D, nd => ⟨nd, rfl⟩
  | j :: l, D, nd => by
    rw [List.foldl_cons, List.map_cons, List.sum_cons]
    unfold goE
    by_cases h : okAt fs e.1 j = true
    · rw [if_pos h, if_pos h]
      obtain ⟨a, b⟩ := wsum_go f fs e l (putE D (e.1.eraseIdx j) e.2.1 (e.2.2 ++ [e.1.getD j ""])) (nd.put _ _ _)
      refine ⟨a, ?_⟩
      have b : wsum f (l.foldl (goE fs e) (putE D (e.1.eraseIdx j) e.2.1 (e.2.2 ++ [e.1.getD j ""]))) = _ := b
      rw [wsum_put f nd] at b
      exact b.trans (by omega)
    · rw [if_neg h, if_neg h]
      obtain ⟨a, b⟩ := wsum_go f fs e l D nd
      exact ⟨a, b.trans (by omega)⟩
theorem sum_mul (c : Nat) (g : Nat → Bool) (h : Nat → Nat) : ∀ l : List Nat, (l.map fun j => if g j = true then c * h j else 0).sum = c * (l.map fun j => if g j = true then h j else 0).sum
  | [] => rfl
  | j :: l => by
    rw [List.map_cons, List.map_cons, List.sum_cons, List.sum_cons, sum_mul c g h l, Nat.mul_add]
    by_cases k : g j = true
    · rw [if_pos k, if_pos k]
    · rw [if_neg k, if_neg k, Nat.mul_zero]
def lead (fs : List Fc) (f : List Str → Nat) (ns : List Str) : Nat := ((List.range ns.length).map fun j => if okAt fs ns j = true then f (ns.eraseIdx j) else 0).sum
theorem wsum_after (f : List Str → Nat) (fs : List Fc) : ∀ (D acc : List Ent), NdE acc → NdE (D.foldl (innerE fs) acc) ∧ wsum f (D.foldl (innerE fs) acc) = wsum f acc + wsum (lead fs f) D
  | [], acc, nd => ⟨nd, rfl⟩
  | e :: D, acc, nd => by
    rw [List.foldl_cons]
    obtain ⟨a, b⟩ := wsum_go f fs e (List.range e.1.length) acc nd
    obtain ⟨a2, b2⟩ := wsum_after f fs D (innerE fs acc e) a
    refine ⟨a2, b2.trans ?_⟩
    have b : wsum f (innerE fs acc e) = _ := b
    rw [b, sum_mul]
    show _ = wsum f acc + (e.2.1 * lead fs f e.1 + wsum (lead fs f) D)
    unfold lead
    omega
theorem nd_app {cc : List Str} {D : List Ent} (nd : NdE D) : NdE (D.map fun e => (e.1 ++ cc, e.2)) := by
  unfold NdE List.Nodup at *
  rw [List.map_map, List.pairwise_map]
  rw [List.pairwise_map] at nd
  exact nd.imp fun h e => h (List.append_cancel_right e)
theorem wsum_step (f : List Str → Nat) (s : Step) {D : List Ent} (nd : NdE D) : NdE (stepE s D) ∧ wsum f (stepE s D) = wsum (fun ns => lead s.2 f (ns ++ s.1)) D := by
  obtain ⟨a, b⟩ := wsum_after f s.2 (D.map fun e => (e.1 ++ s.1, e.2)) [] List.nodup_nil
  refine ⟨a, b.trans ?_⟩
  unfold wsum
  rw [List.map_map]
  simp [Function.comp_def]
/-- how many ways there are in all -/
theorem run_count : ∀ (st : List Step) (D : List Ent), NdE D → NdE (runE st D) ∧ wsum (fun _ => 1) (runE st D) = wsum (comp st) D
  | [], D, nd => ⟨nd, rfl⟩
  | s :: st, D, nd => by
    obtain ⟨a, b⟩ := wsum_step (comp st) s nd
    obtain ⟨a2, b2⟩ := run_count st (stepE s D) a
    exact ⟨a2, b2.trans b⟩
/-! ### the ways themselves -/
def Lead : List Step → List Str → List Str → List Str → Prop
  | [], a, [], b => a = b
  | s :: st, a, z :: w, b => ∃ j, (a ++ s.1)[j]? = some z ∧ okAt s.2 (a ++ s.1) j = true ∧ Lead st ((a ++ s.1).eraseIdx j) w b
  | _, _, _, _ => False
theorem Lead.snoc {s : Step} {z : Str} {j : Nat} {b : List Str} (hz : (b ++ s.1)[j]? = some z) (ok : okAt s.2 (b ++ s.1) j = true) : ∀ {st : List Step} {a w : List Str}, Lead st a w b → Lead (st ++ [s]) a (w ++ [z]) ((b ++ s.1).eraseIdx j)
  | [], a, [], h => by
    cases h
    exact ⟨j, hz, ok, rfl⟩
  | [], a, _ :: _, h => h.elim
  | _ :: _, a, [], h => h.elim
  | t :: st, a, y :: w, h => by
    obtain ⟨i, h1, h2, h3⟩ := h
    exact ⟨i, h1, h2, Lead.snoc hz ok h3⟩
def AllLead (pre : List Step) (D : List Ent) : Prop := ∀ e ∈ D, Lead pre [] e.2.2 e.1
theorem after_lead {pre : List Step} {s : Step} : ∀ (D acc : List Ent), AllLead pre D → AllLead (pre ++ [s]) acc → AllLead (pre ++ [s]) ((D.map fun e => (e.1 ++ s.1, e.2)).foldl (innerE s.2) acc)
  | [], acc, _, h => h
  | e :: D, acc, hD, h => by
    rw [List.map_cons, List.foldl_cons]
    refine after_lead D _ (fun x hx => hD x (List.mem_cons_of_mem _ hx)) ?_
    have he := hD e List.mem_cons_self
    have inn : ∀ (l : List Nat) (acc : List Ent), (∀ j ∈ l, j < (e.1 ++ s.1).length) → AllLead (pre ++ [s]) acc → AllLead (pre ++ [s]) (l.foldl (goE s.2 (e.1 ++ s.1, e.2)) acc) := by
      intro l
      induction l with
      | nil => exact fun _ _ h => h
      | cons j l ih =>
        intro acc hl h
        rw [List.foldl_cons]
        refine ih _ (fun i hi => hl i (List.mem_cons_of_mem _ hi)) ?_
        unfold goE
        split
        · rename_i ok
          intro x hx
          rcases put_mem hx with ⟨h1, h2⟩ | hx
          · rw [h1, h2]
            have hj := hl j List.mem_cons_self
            refine Lead.snoc ?_ ok he
            show (e.1 ++ s.1)[j]? = some ((e.1 ++ s.1).getD j "")
            rw [List.getElem?_eq_getElem hj, List.getD_eq_getElem?_getD, List.getElem?_eq_getElem hj]
            rfl
          · exact h x hx
        · exact h
    exact inn _ acc (fun j hj => List.mem_range.mp hj) h
theorem run_lead : ∀ (st pre : List Step) (D : List Ent), AllLead pre D → AllLead (pre ++ st) (runE st D)
  | [], pre, D, h => by rw [List.append_nil]; exact h
  | s :: st, pre, D, h => by
    have := run_lead st (pre ++ [s]) (stepE s D) (after_lead D [] h fun e he => nomatch he)
    rw [List.append_assoc] at this
    exact this
theorem sum_ge (g : Nat → Nat) : ∀ {l : List Nat} {i : Nat}, i ∈ l → g i ≤ (l.map g).sum
  | a :: l, i, h => by
    rw [List.map_cons, List.sum_cons]
    rcases List.mem_cons.mp h with rfl | h
    · omega
    · have := sum_ge g h
      omega
theorem sum_ge2 (g : Nat → Nat) : ∀ {l : List Nat} {i j : Nat}, l.Nodup → i ∈ l → j ∈ l → i ≠ j → g i + g j ≤ (l.map g).sum
  | a :: l, i, j, nd, hi, hj, n => by
    rw [List.nodup_cons] at nd
    rw [List.map_cons, List.sum_cons]
    rcases List.mem_cons.mp hi with e1 | hi
    · rcases List.mem_cons.mp hj with e2 | hj
      · exact absurd (e1.trans e2.symm) n
      · have := sum_ge g hj
        rw [e1]
        omega
    · rcases List.mem_cons.mp hj with e2 | hj
      · have := sum_ge g hi
        rw [e2]
        omega
      · have := sum_ge2 g nd.2 hi hj n
        omega
theorem at_lt {a : List Str} {j : Nat} {z : Str} (h : a[j]? = some z) : j < a.length := (List.getElem?_eq_some_iff.mp h).1
theorem comp_ge {st : List Step} : ∀ {a w b : List Str}, Lead st a w b → 1 ≤ comp st a := by
  induction st with
  | nil => exact fun _ => Nat.le_refl _
  | cons s st ih =>
    intro a w b h
    cases w with
    | nil => exact h.elim
    | cons z w =>
      obtain ⟨j, h1, h2, h3⟩ := h
      have := sum_ge (fun j => if okAt s.2 (a ++ s.1) j = true then comp st ((a ++ s.1).eraseIdx j) else 0) (List.mem_range.mpr (at_lt h1))
      have k := ih h3
      simp only [h2, if_true] at this
      exact Nat.le_trans k this
theorem comp_one {st : List Step} : ∀ {a w b w2 b2 : List Str}, comp st a = 1 → Lead st a w b → Lead st a w2 b2 → w = w2 := by
  induction st with
  | nil =>
    intro a w b w2 b2 _ h1 h2
    cases w with
    | nil =>
      cases w2 with
      | nil => rfl
      | cons _ _ => exact h2.elim
    | cons _ _ => exact h1.elim
  | cons s st ih =>
    intro a w b w2 b2 hc h1 h2
    cases w with
    | nil => exact h1.elim
    | cons z w =>
      cases w2 with
      | nil => exact h2.elim
      | cons y w2 =>
        obtain ⟨j, p1, p2, p3⟩ := h1
        obtain ⟨i, q1, q2, q3⟩ := h2
        have c1 := comp_ge p3
        have c2 := comp_ge q3
        have hc : ((List.range (a ++ s.1).length).map fun j => if okAt s.2 (a ++ s.1) j = true then comp st ((a ++ s.1).eraseIdx j) else 0).sum = 1 := hc
        by_cases e : j = i
        · subst e
          have := sum_ge (fun j => if okAt s.2 (a ++ s.1) j = true then comp st ((a ++ s.1).eraseIdx j) else 0) (List.mem_range.mpr (at_lt p1))
          simp only [p2, if_true] at this
          rw [hc] at this
          rw [p1] at q1
          rw [Option.some.inj q1, ih (Nat.le_antisymm this c1) p3 q3]
        · have := sum_ge2 (fun j => if okAt s.2 (a ++ s.1) j = true then comp st ((a ++ s.1).eraseIdx j) else 0) List.nodup_range (List.mem_range.mpr (at_lt p1)) (List.mem_range.mpr (at_lt q1)) e
          simp only [p2, q2, if_true] at this
          rw [hc] at this
          omega
end Jo
set_option Elab.async false
set_option linter.all false
set_option maxRecDepth 100000
set_option maxHeartbeats 2000000
namespace Sh1
open PySem L2 Sho NdefX
/-! ### draws: the state is the list at l -/
structure DrawSt (K : PySem.W.Frag) (H : Hp) (l a : Addr) (ns : List Int) : Prop where
  ex : ∃ pos seed rest : Int, H l = some (.lst [.ref a, .int pos, .int seed, .int rest]) ∧ 0 ≤ pos ∧ (0 ≤ seed ∧ seed < 2147483647) ∧ 0 ≤ rest
  sc : SqL K H a (ns.map V.int)
  len : ns.length ≤ 63
/-- all but the object at l stays -/
def But (l : Addr) (H H' : Hp) : Prop := ∀ b o, H b = some o → b ≠ l → H' b = some o
theorem But.trans {l : Addr} {H H1 H2 : Hp} (a : But l H H1) (b : But l H1 H2) : But l H H2 := fun c o e n => b c o (a c o e n) n
theorem But.of {l : Addr} {H H' : Hp} (s : Same H H') : But l H H' := fun b o e _ => s b o e
theorem sql_but {K : PySem.W.Frag} {H H' : Hp} {l a : Addr} {ns : List Int} {r : List V} (hl : H l = some (.lst (.ref a :: r))) (h : SqL K H a (ns.map V.int)) (s : But l H H') : SqL K H' a (ns.map V.int) := by
  have ne : ∀ u, H a = some u → (∀ ys, u = .lst (V.ref a :: ys) → False) → a ≠ l := fun u e k z => by
    rw [z, hl] at e
    exact k r (by rw [← Option.some.inj e, z])
  rcases h with (h | ⟨o, h⟩) | h
  · refine .inl (.inl (s _ _ h (ne _ h fun ys e => ?_)))
    injection e with e
    cases ns with
    | nil => cases e
    | cons n ns => cases e
  · exact .inl (.inr ⟨o, s _ _ h (ne _ h fun ys e => by cases e)⟩)
  · exact .inr h
section
variable {P : Program} {w : World} {K : PySem.W.Frag} {mg : Str → Option Value} {base : Heap}
def spStart (K : PySem.W.Frag) : Sp := fun vs H Q _ => ∃ (a : Addr) (ns : List Int), vs = [.ref a] ∧ SqL K H a (ns.map V.int) ∧ ns.length ≤ 63 ∧ ∀ H' l, Same H H' → H l = none → DrawSt K H' l a ns → Q (.ref l) H'
theorem scStart : FnScope ["_law_script", "_law_mixed", "_law_cell"] ["_law_script"] (defScope sStart) := ⟨rfl, rfl, rfl, by decide +kernel, rfl, by decide +kernel, by decide +kernel⟩
theorem ok_start {f : Addr} {fd : FuncData} (F : Fun K "_law_start" "_law_start" sStart f fd) : FnOk P w K mg base CX0 1 f fd ["_law_script"] (spStart K) := by
  refine F.ok scStart (fun vs H Q E h => ?_) (fun cdv A outer s H vs Q E hr h => ?_)
  · obtain ⟨a, ns, rfl, _⟩ := h
    rfl
  · obtain ⟨a, ns, rfl, ha, hlen, k⟩ := h
    have nd := scStart.nd
    refine ⟨_, pss_cons (ps_set (i := 1) nd rfl (Or.inl rfl) pe_int) (pss_cons (ps_for PassesOwn.never rfl (pi_list (pv 0)) (pg_name (i := 2) nd rfl (Or.inl rfl))
        (pss_one (ps_set (i := 1) nd rfl (Or.inl rfl) (pe_op op_mod (pe_op op_add (pe_op op_add (pe_op op_mul (pv 1) pe_int) (pv 2)) pe_int) pe_int))))
      (pss_one (ps_ret (pe_lst (pa_cons (pv 0) (pa_cons pe_int (pa_cons (pv 1) (pa_cons pe_int pa_nil)))))))), ?_⟩
    refine ⟨_, rfl, a, rfl, ⟨_, ha⟩, for_it walk_list (fun i σ H2 => ∃ (m : Int) (o : Option V), σ = [some (.ref a), some (.int m), o] ∧ H2 = H ∧ 0 ≤ m ∧ m < 2147483647) ⟨1, none, rfl, rfl, by decide, by decide⟩
      (fun i σ H2 _ ⟨_, _, _, e, _⟩ => by rw [e]; exact ha) ?_ ?_⟩
    · rintro i y σ H2 H3 hi ⟨m, o, rfl, rfl, m0, m1⟩ ⟨rfl, e2⟩
      obtain ⟨c, rfl⟩ : ∃ c, y = V.int c := by
        rw [List.getElem?_map] at e2
        cases e : ns[i]? with
        | none =>
          rw [e] at e2
          cases e2
        | some c =>
          rw [e] at e2
          exact ⟨c, (Option.some.inj e2).symm⟩
      refine ⟨_, rfl, _, _, rfl, rfl, .inr ⟨by decide, by decide⟩, _, rfl, _, _, rfl, rfl, _, _, rfl, rfl, _, _, rfl, rfl, (by show (0 : Int) < 2147483647; decide), ?_⟩
      exact ⟨_, _, rfl, rfl, Int.emod_nonneg _ (by decide), Int.emod_lt_of_pos _ (by decide)⟩
    · rintro σ H2 ⟨m, o, rfl, rfl, m0, m1⟩
      refine ⟨_, rfl, _, rfl, by show 4 ≤ sizeLine; decide, fun l hl => ?_⟩
      have s1 : Same H2 (upd H2 l (.lst [.ref a, .int 0, .int m, .int 0])) := fun b o e => by rw [upd_ne (ne_of_none e hl)]; exact e
      exact k _ l s1 hl ⟨⟨0, m, 0, upd_same, by decide, ⟨m0, m1⟩, by decide⟩, s1.seq ha, hlen⟩
def spDrawn (K : PySem.W.Frag) : Sp := fun vs H Q _ => ∃ (l a : Addr) (ns : List Int) (n : Int), vs = [.ref l, .int n] ∧ DrawSt K H l a ns ∧ 0 < n ∧ n < 1073741824 ∧ ∀ (r : Int) H', 0 ≤ r → r < n → But l H H' → DrawSt K H' l a ns → Q (.int r) H'
theorem scDrawn : FnScope ["_law_state", "_law_count", "_law_result", "_law_cell"] ["_law_state", "_law_count"] (defScope sDrawn) := ⟨rfl, rfl, rfl, by decide +kernel, rfl, by decide +kernel, by decide +kernel⟩
theorem ok_drawn {f : Addr} {fd : FuncData} (F : Fun K "_law_drawn" "_law_drawn" sDrawn f fd) (B : Blt mg) : FnOk P w K mg base CX0 1 f fd ["_law_state", "_law_count"] (spDrawn K) := by
  refine F.ok scDrawn (fun vs H Q E h => ?_) (fun cdv A outer s H vs Q E hr h => ?_)
  · obtain ⟨l, a, ns, n, rfl, _⟩ := h
    rfl
  · obtain ⟨l, a, ns, n, rfl, ⟨⟨pos, seed, rest, hl, p0, ⟨s0, s1⟩, r0⟩, hsc, hlen⟩, n0, n1, k⟩ := h
    have nd := scDrawn.nd
    refine ⟨_, pss_cons (ps_if (pt_cmpR op_gt (pe_ix ix_list (pv 0) pe_int (fun _ _ => rfl)) pe_int (nomark _))
        (pss_cons (ps_set (i := 2) nd rfl (Or.inl rfl) (pe_op op_mod (pe_ix ix_list (pv 0) pe_int (fun _ _ => rfl)) (pv 1)))
          (pss_cons (ps_asg (pe_op op_fdiv (pe_ix ix_list (pv 0) pe_int (fun _ _ => rfl)) (pv 1)) (pg_sub (pv 0) pe_int set_list))
          (pss_one (ps_ret (pv 2))))) pss_nil)
      (pss_cons (ps_asg (pe_op op_add (pe_ix ix_list (pv 0) pe_int (fun _ _ => rfl)) pe_int) (pg_sub (pv 0) pe_int set_list))
      (pss_cons (ps_if (pt_cmpR op_le (pe_ix ix_list (pv 0) pe_int (fun _ _ => rfl)) (pe_callB call_len_seq (by rfl) B.len PySem.boot_len (pa_cons (pe_ix ix_list (pv 0) pe_int (fun _ _ => rfl)) pa_nil)) (nomark _))
        (pss_cons (ps_set (i := 3) nd rfl (Or.inl rfl) (pe_ix ix_list (pe_ix ix_list (pv 0) pe_int (fun _ _ => rfl)) (pe_op op_sub (pe_ix ix_list (pv 0) pe_int (fun _ _ => rfl)) pe_int) (fun _ _ => rfl)))
          (pss_cons (ps_asg (pe_ifExp (pt_cmpR op_ge (pv 3) (pe_op op_pow pe_int pe_int) (nomark _)) (pe_op op_fdiv (pv 3) (pv 1)) pe_int) (pg_sub (pv 0) pe_int set_list))
          (pss_one (ps_ret (pe_op op_mod (pv 3) (pv 1)))))) pss_nil)
      (pss_cons (ps_asg (pe_op op_mod (pe_op op_add (pe_op op_mul (pe_ix ix_list (pv 0) pe_int (fun _ _ => rfl)) pe_int) pe_int) pe_int) (pg_sub (pv 0) pe_int set_list))
      (pss_one (ps_ret (pe_op op_mod (pe_op op_fdiv (pe_ix ix_list (pv 0) pe_int (fun _ _ => rfl)) pe_int) (pv 1))))))), ?_⟩
    have upBut : ∀ {H1 : Hp} {o : HO}, But l H1 (upd H1 l o) := fun {H1 o} b u e nb => by rw [upd_ne nb]; exact e
    have fin : ∀ (r p' s' r' : Int) (H1 : Hp), 0 ≤ r → r < n → But l H H1 → H1 l = some (.lst [.ref a, .int p', .int s', .int r']) → 0 ≤ p' → 0 ≤ s' → s' < 2147483647 → 0 ≤ r' → Q (.int r) H1 := fun r p' s' r' H1 a1 a2 bu e b1 b2 b3 b4 =>
      k r H1 a1 a2 bu ⟨⟨p', s', r', e, b1, ⟨b2, b3⟩, b4⟩, sql_but hl hsc bu, hlen⟩
    refine ⟨_, rfl, l, _, 3, .int rest, rfl, rfl, SqL.of hl, atI_nat (j := 3) rfl, _, _, rfl, rfl, _, rfl, ?_⟩
    refine ite2 (fun h1 => ?_) (fun h1 => ?_)
    · refine ⟨_, rfl, l, _, 3, .int rest, rfl, rfl, SqL.of hl, atI_nat (j := 3) rfl, _, rfl, _, _, rfl, rfl, n0, _, rfl, l, _, 3, .int rest, rfl, rfl, SqL.of hl, atI_nat (j := 3) rfl, _, rfl, _, _, rfl, rfl, ⟨n0, n1⟩, _, rfl, l, _, 3, 3, rfl, rfl, hl, rfl, _, rfl, ?_⟩
      exact fin _ pos seed (rest / n) _ (Int.emod_nonneg _ (by omega)) (Int.emod_lt_of_pos _ n0) upBut upd_same p0 s0 s1 (Int.ediv_nonneg r0 (by omega))
    · refine ⟨_, rfl, l, _, 1, .int pos, rfl, rfl, SqL.of hl, atI_nat (j := 1) rfl, _, _, rfl, rfl, _, rfl, l, _, 1, 1, rfl, rfl, hl, rfl, ?_⟩
      generalize hH1 : upd H l (.lst ([V.ref a, .int pos, .int seed, .int rest].set 1 (.int (pos + 1)))) = H1
      have hl1 : H1 l = some (.lst [.ref a, .int (pos + 1), .int seed, .int rest]) := by rw [← hH1]; exact upd_same
      have b1 : But l H H1 := by rw [← hH1]; exact upBut
      have sc1 := sql_but hl hsc b1
      refine ⟨_, rfl, l, _, 1, .int (pos + 1), rfl, rfl, SqL.of hl1, atI_nat (j := 1) rfl, _, rfl, l, _, 0, .ref a, rfl, rfl, SqL.of hl1, atI_nat (j := 0) rfl, a, _, rfl, .inl sc1, _, _, rfl, rfl, _, rfl, ?_⟩
      refine ite2 (fun h2 => ?_) (fun h2 => ?_)
      · have h2' : pos + 1 ≤ ((ns.map V.int).length : Nat) := of_decide_eq_true h2
        rw [List.length_map] at h2'
        have lt : pos.toNat < ns.length := by omega
        obtain ⟨c, hc⟩ : ∃ c, ns[pos.toNat]? = some c := ⟨_, List.getElem?_eq_getElem lt⟩
        have hci : atI (ns.map V.int) (pos + 1 - 1) = some (.int c) := by
          have e : pos + 1 - 1 = ((pos.toNat : Nat) : Int) := by omega
          rw [e]
          refine atI_nat ?_
          rw [List.getElem?_map, hc]
          rfl
        refine ⟨_, rfl, l, _, 0, .ref a, rfl, rfl, SqL.of hl1, atI_nat (j := 0) rfl, _, rfl, l, _, 1, .int (pos + 1), rfl, rfl, SqL.of hl1, atI_nat (j := 1) rfl, _, _, rfl, rfl, a, _, _, .int c, rfl, rfl, sc1, hci, ?_⟩
        refine ⟨_, rfl, _, _, rfl, rfl, ⟨by decide, by decide, by decide⟩, _, _, rfl, rfl, _, rfl, ?_⟩
        have last : ∀ r' : Int, 0 ≤ r' → Q (.int (c % n)) (upd H1 l (.lst ([V.ref a, .int (pos + 1), .int seed, .int rest].set 3 (.int r')))) := fun r' hr' =>
          fin _ (pos + 1) seed r' _ (Int.emod_nonneg _ (by omega)) (Int.emod_lt_of_pos _ n0) (b1.trans upBut) upd_same (by omega) s0 s1 hr'
        refine ite2 (fun h3 => ?_) (fun h3 => ?_)
        · have c0 : 0 ≤ c := by
            have h3' := of_decide_eq_true h3
            have : (0 : Int) ≤ 10 ^ (Int.toNat 18) := by decide
            omega
          refine ⟨_, rfl, _, rfl, _, _, rfl, rfl, ⟨n0, n1⟩, _, rfl, l, _, 3, 3, rfl, rfl, hl1, rfl, _, rfl, _, rfl, _, _, rfl, rfl, n0, ?_⟩
          exact last _ (Int.ediv_nonneg c0 (by omega))
        · refine ⟨_, rfl, l, _, 3, 3, rfl, rfl, hl1, rfl, _, rfl, _, rfl, _, _, rfl, rfl, n0, ?_⟩
          exact last 0 (by decide)
      · refine ⟨_, rfl, l, _, 2, .int seed, rfl, rfl, SqL.of hl1, atI_nat (j := 2) rfl, _, _, rfl, rfl, .inr ⟨by decide, by decide⟩, _, _, rfl, rfl, _, _, rfl, rfl, (by show (0 : Int) < 2147483647; decide), _, rfl, l, _, 2, 2, rfl, rfl, hl1, rfl, ?_⟩
        refine ⟨_, rfl, l, _, 2, .int ((seed * 48271 + 11) % 2147483647), rfl, rfl, SqL.of upd_same, atI_nat (j := 2) rfl, _, _, rfl, rfl, ⟨by decide, by decide⟩, _, rfl, _, _, rfl, rfl, n0, ?_⟩
        exact fin _ (pos + 1) _ rest _ (Int.emod_nonneg _ (by omega)) (Int.emod_lt_of_pos _ n0) (b1.trans upBut) upd_same (by omega) (Int.emod_nonneg _ (by decide)) (Int.emod_lt_of_pos _ (by decide)) r0
end
end Sh1
set_option Elab.async false
set_option linter.all false
set_option maxRecDepth 100000
set_option maxHeartbeats 2000000
set_option autoImplicit false
/-! The state of the draws (K1j0) with the tables of code, through what changes beside it. -/
namespace Dw
open PySem L2 Sho NdefX Shg Sh1
structure St (K : PySem.W.Frag) (T : List (Addr × Str)) (l a : Addr) (ns : List Int) (H : Hp) : Prop where
  d : DrawSt K H l a ns
  t : LamX.Tabs T H
section
variable {K : PySem.W.Frag} {T : List (Addr × Str)} {l a : Addr} {ns : List Int} {H H' H0 H1 : Hp}
theorem ne_at {b c : Addr} {H : Hp} {o u : HO} (h1 : H b = some o) (h2 : H c = some u) (n : u ≠ o) : c ≠ b := fun z => by
  rw [z, h1] at h2
  exact n (Option.some.inj h2).symm
theorem tabs_b {l : Addr} {H H' : Hp} {zs : List V} {T : List (Addr × Str)} (hl : H l = some (.lst zs)) (e : But l H H') (t : LamX.Tabs T H) : LamX.Tabs T H' := fun p hp => by
  obtain ⟨qs, q1, q2, q3⟩ := t p hp
  refine ⟨qs, e _ _ q1 (ne_at hl q1 fun z => nomatch z), q2, fun p' cv h => ?_⟩
  obtain ⟨c, e1, e2⟩ := q3 p' cv h
  exact ⟨c, e1, e _ _ e2 (ne_at hl e2 fun z => nomatch z)⟩
theorem sql_e {a : Addr} {xs : List V} (e : LamX.ExtN H H') (h : SqL K H a xs) : SqL K H' a xs := by
  rcases h with (h | ⟨o, h⟩) | h
  · exact .inl (.inl (e _ _ h fun _ z => nomatch z))
  · exact .inl (.inr ⟨o, e _ _ h fun _ z => nomatch z⟩)
  · exact .inr h
theorem draw_ext (d : DrawSt K H l a ns) (e : LamX.ExtN H H') : DrawSt K H' l a ns := by
  obtain ⟨⟨p, s, r, h, k⟩, sc, len⟩ := d
  exact ⟨⟨p, s, r, e _ _ h (fun _ z => nomatch z), k⟩, sql_e e sc, len⟩
theorem draw_at (d : DrawSt K H l a ns) : ∃ zs, H l = some (.lst zs) := by
  obtain ⟨⟨_, _, _, h, _⟩, _, _⟩ := d
  exact ⟨_, h⟩
theorem St.at (s : St K T l a ns H) : ∃ zs, H l = some (.lst zs) := draw_at s.d
theorem St.grows (s : St K T l a ns H) (g : Grows T H H') : St K T l a ns H' := ⟨draw_ext s.d g.ext, g.tab s.t⟩
theorem St.same (s : St K T l a ns H) (e : Same H H') : St K T l a ns H' := ⟨draw_ext s.d (LamX.ExtN.of e), LamX.Tabs.ext s.t e⟩
theorem St.draw (s : St K T l a ns H) (b : But l H H') (d : DrawSt K H' l a ns) : St K T l a ns H' := by
  obtain ⟨zs, hl⟩ := s.at
  exact ⟨d, tabs_b hl b s.t⟩
theorem St.ne (s : St K T l a ns H) {p : Addr} (h : H p = none) : p ≠ l := by
  obtain ⟨zs, hl⟩ := s.at
  exact fun z => by rw [z, hl] at h; cases h
theorem but_upd0 {p : Addr} {o : HO} (b : But l H0 H1) (h : H0 p = none) : But l H0 (upd H1 p o) := fun c u e n => by
  rw [upd_ne (ne_of_none e h)]
  exact b c u e n
theorem but_same (b : But l H0 H1) (s : Same H1 H') : But l H0 H' := b.trans (But.of s)
theorem draw_upd {p : Addr} {o : HO} (s : St K T l a ns H0) (b : But l H0 H1) (d : DrawSt K H1 l a ns) (h : H0 p = none) : DrawSt K (upd H1 p o) l a ns := by
  obtain ⟨⟨p', s', r, e, k⟩, sc, len⟩ := id d
  obtain ⟨⟨_, _, _, e0, _⟩, sc0, _⟩ := s.d
  exact ⟨⟨p', s', r, by rw [upd_ne (Ne.symm (s.ne h))]; exact e, k⟩, sql_but e0 sc0 (but_upd0 b h), len⟩
theorem St.to {p : Addr} {o : HO} (s : St K T l a ns H0) (b : But l H0 H1) (d : DrawSt K H1 l a ns) (h : H0 p = none) : St K T l a ns (upd H1 p o) :=
  s.draw (but_upd0 b h) (draw_upd s b d h)
theorem at_mem {xs : List V} {r : Int} (h0 : 0 ≤ r) (h1 : r < xs.length) : ∃ z, z ∈ xs ∧ atI xs r = some z := by
  obtain ⟨k, rfl⟩ : ∃ k : Nat, r = k := ⟨r.toNat, by omega⟩
  have lt : k < xs.length := by omega
  exact ⟨xs[k], List.getElem_mem lt, atI_nat (List.getElem?_eq_getElem lt)⟩
theorem ifs_join {c : TT} {A B u : TS} {D : Ends} {σ : L2.St} {H : Hp} (P : L2.St → Hp → Prop) (h1 : ∀ N : L2.St → Hp → Prop, (∀ σ' H', P σ' H' → N σ' H') → c σ H fun b H1 => if b = true then A { D with nx := N } σ H1 else B { D with nx := N } σ H1) (h2 : ∀ σ' H', P σ' H' → u D σ' H') : tSeq (tIfS c A B) u D σ H := h1 _ h2
end
end Dw
namespace Shg
open PySem
theorem pair_take {α β : Type} {R : α → β → Prop} : ∀ {as : List α} {bs : List β} (k : Nat), PySem.Paired R as bs → PySem.Paired R (as.take k) (bs.take k)
  | _, _, k, .nil => by rw [List.take_nil, List.take_nil]; exact .nil
  | _, _, 0, .cons _ _ => .nil
  | _, _, k + 1, .cons h r => .cons h (pair_take k r)
theorem pair_drop {α β : Type} {R : α → β → Prop} : ∀ {as : List α} {bs : List β} (k : Nat), PySem.Paired R as bs → PySem.Paired R (as.drop k) (bs.drop k)
  | _, _, k, .nil => by rw [List.drop_nil, List.drop_nil]; exact .nil
  | _, _, 0, .cons h r => .cons h r
  | _, _, k + 1, .cons _ r => pair_drop k r
end Shg
set_option Elab.async false
set_option linter.all false
set_option maxRecDepth 100000
set_option maxHeartbeats 8000000
set_option autoImplicit false
/-! _after_going, whatever was seen: the dict follows the lists of J0. -/
namespace Jo
open PySem L2 Sho NdefX Shg Sh1 Go
def fk : Fc → List L2.Key
  | .guest z => [.inr "guest", .inr z]
  | .lift n => [.inr "lift", .inl n]
/-- an entry as it stands -/
def EntV (H : Hp) (p : List L2.Key × V) (e : Ent) : Prop := p.1 = keyN e.1 ∧ ∃ t wv : Addr, p.2 = .ref t ∧ H t = some (.tup [.int (e.2.1 : Nat), .ref wv]) ∧ H wv = some (.tup (e.2.2.map V.str))
abbrev RelD (H : Hp) (kvs : List (List L2.Key × V)) (D : List Ent) : Prop := PySem.Paired (EntV H) kvs D
theorem EntV.keep {H H' : Hp} (k : ∀ b vs, H b = some (.tup vs) → H' b = some (.tup vs)) {p : List L2.Key × V} {e : Ent} (h : EntV H p e) : EntV H' p e := by
  obtain ⟨h1, t, wv, h2, h3, h4⟩ := h
  exact ⟨h1, t, wv, h2, k _ _ h3, k _ _ h4⟩
theorem rel_keep {H H' : Hp} (k : ∀ b vs, H b = some (.tup vs) → H' b = some (.tup vs)) {kvs : List (List L2.Key × V)} {D : List Ent} (h : RelD H kvs D) : RelD H' kvs D := pair_mono (fun _ _ q => q.keep k) h
theorem keyN_inj : ∀ {a b : List Str}, keyN a = keyN b → a = b
  | [], [], _ => rfl
  | [], _ :: _, h => nomatch h
  | _ :: _, [], h => nomatch h
  | x :: a, y :: b, h => by
    injection h with h1 h2
    injection h1 with h1
    rw [h1, keyN_inj h2]
def cOf (D : List Ent) (r : List Str) : Nat := ((D.find? fun e => decide (e.1 = r)).map fun e => e.2.1).getD 0
/-- what the dict holds of a pile -/
theorem rel_val {H : Hp} (r : List Str) : ∀ {kvs : List (List L2.Key × V)} {D : List Ent}, RelD H kvs D → (valV kvs (keyN r) = none ∧ cOf D r = 0 ∧ (D.any fun e => decide (e.1 = r)) = false ∧ (kvs.any fun kv => decide (kv.1 = keyN r)) = false) ∨
    ((∃ (t wv : Addr) (e : Ent), valV kvs (keyN r) = some (.ref t) ∧ e ∈ D ∧ e.1 = r ∧ e.2.1 = cOf D r ∧ H t = some (.tup [.int (cOf D r : Nat), .ref wv]) ∧ H wv = some (.tup (e.2.2.map V.str))) ∧ (D.any fun e => decide (e.1 = r)) = true ∧ (kvs.any fun kv => decide (kv.1 = keyN r)) = true)
  | _, _, .nil => .inl ⟨rfl, rfl, rfl, rfl⟩
  | _, _, .cons (a := p) (b := e) h t => by
    obtain ⟨h1, a, wv, h2, h3, h4⟩ := h
    by_cases k : e.1 = r
    · right
      have kp : p.1 = keyN r := by rw [h1, k]
      refine ⟨⟨a, wv, e, ?_, List.mem_cons_self, k, ?_, ?_, h4⟩, ?_, ?_⟩
      · rw [valV_pos kp, h2]
      · unfold cOf
        rw [List.find?_cons, decide_eq_true k]
        rfl
      · unfold cOf
        rw [List.find?_cons, decide_eq_true k]
        exact h3
      · rw [List.any_cons, decide_eq_true k]
        rfl
      · rw [List.any_cons, decide_eq_true kp]
        rfl
    · have kp : ¬ p.1 = keyN r := fun z => k (keyN_inj (h1.symm.trans z))
      have c : ∀ l : List Ent, cOf (e :: l) r = cOf l r := fun l => by
        unfold cOf
        rw [List.find?_cons, decide_eq_false k]
      rcases rel_val r t with ⟨q1, q2, q3, q4⟩ | ⟨⟨a', wv', e', q1, q2, q3, q4, q5, q6⟩, q7, q8⟩
      · refine .inl ⟨by rw [valV_neg kp]; exact q1, (c _).trans q2, ?_, ?_⟩
        · rw [List.any_cons, decide_eq_false k, q3]
          rfl
        · rw [List.any_cons, decide_eq_false kp, q4]
          rfl
      · refine .inr ⟨⟨a', wv', e', by rw [valV_neg kp]; exact q1, List.mem_cons_of_mem _ q2, q3, q4.trans (c _).symm, by rw [c]; exact q5, q6⟩, ?_, ?_⟩
        · rw [List.any_cons, q7, Bool.or_true]
        · rw [List.any_cons, q8, Bool.or_true]
theorem cof_mem {D : List Ent} (nd : NdE D) {e : Ent} (h : e ∈ D) : cOf D e.1 = e.2.1 := by
  induction D with
  | nil => cases h
  | cons a D ih =>
    unfold NdE at nd
    rw [List.map_cons, List.nodup_cons] at nd
    unfold cOf at ih ⊢
    rcases List.mem_cons.mp h with e1 | h1
    · rw [List.find?_cons, e1, decide_eq_true rfl]
      rfl
    · have n : ¬ a.1 = e.1 := fun z => nd.1 (List.mem_map.mpr ⟨e, h1, z.symm⟩)
      rw [List.find?_cons, decide_eq_false n]
      exact ih nd.2 h1
theorem rel_put {H : Hp} {kvs : List (List L2.Key × V)} {D : List Ent} (h : RelD H kvs D) (nd : NdE D) {r w : List Str} {c : Nat} {t wv : Addr} (ht : H t = some (.tup [.int ((cOf D r + c : Nat) : Int), .ref wv])) (hw : H wv = some (.tup (w.map V.str))) :
    RelD H (putK kvs (keyN r) (.ref t)) (putE D r c w) := by
  unfold putK putE
  rcases rel_val r h with ⟨q1, q2, q3, q4⟩ | ⟨_, q3, q4⟩
  · rw [if_neg (by rw [q4]; decide), if_neg (by rw [q3]; decide)]
    refine pair_app h (.cons ⟨rfl, t, wv, rfl, ?_, hw⟩ .nil)
    rw [q2, Nat.zero_add] at ht
    exact ht
  · rw [if_pos q4, if_pos q3]
    have gen : ∀ {kvs : List (List L2.Key × V)} {D' : List Ent}, RelD H kvs D' → (∀ e ∈ D', e ∈ D) → RelD H (kvs.map fun kv => if kv.1 = keyN r then (kv.1, V.ref t) else kv) (D'.map fun e => if e.1 = r then (r, e.2.1 + c, w) else e) := by
      intro kvs D' h
      induction h with
      | nil => exact fun _ => .nil
      | @cons p e ps es k t' ih =>
        intro hs
        rw [List.map_cons, List.map_cons]
        refine .cons ?_ (ih fun x hx => hs x (List.mem_cons_of_mem _ hx))
        by_cases z : e.1 = r
        · have kp : p.1 = keyN r := by rw [k.1, z]
          rw [if_pos z, if_pos kp]
          refine ⟨kp, t, wv, rfl, ?_, hw⟩
          have := cof_mem nd (hs e List.mem_cons_self)
          rw [z] at this
          rw [this] at ht
          exact ht
        · rw [if_neg z, if_neg fun y => z (keyN_inj (k.1.symm.trans y))]
          exact k
    exact gen h fun _ x => x
/-! ### few enough -/
structure OkD (B : List Str) (M : Nat) (D : List Ent) : Prop where
  nd : NdE D
  sub : ∀ e ∈ D, e.1.Sublist B
  len : ∀ e ∈ D, e.2.2.length ≤ M
theorem OkD.go {B : List Str} {M : Nat} {fs : List Fc} {e : Ent} (hs : e.1.Sublist B) (hl : e.2.2.length ≤ M) : ∀ (l : List Nat) {D : List Ent}, OkD B (M + 1) D → OkD B (M + 1) (l.foldl (goE fs e) D)
  | [], D, h => h
  | j :: l, D, h => by
    rw [List.foldl_cons]
    refine OkD.go hs hl l ?_
    unfold goE
    split
    · refine ⟨h.nd.put _ _ _, fun x hx => ?_, fun x hx => ?_⟩
      · rcases put_mem hx with ⟨h1, _⟩ | hx
        · rw [h1]
          exact (List.eraseIdx_sublist ..).trans hs
        · exact h.sub x hx
      · rcases put_mem hx with ⟨_, h2⟩ | hx
        · rw [h2, List.length_append]
          exact Nat.succ_le_succ hl
        · exact h.len x hx
    · exact h
theorem OkD.after {B : List Str} {M : Nat} {fs : List Fc} : ∀ (D : List Ent) {acc : List Ent}, (∀ e ∈ D, e.1.Sublist B ∧ e.2.2.length ≤ M) → OkD B (M + 1) acc → OkD B (M + 1) (D.foldl (innerE fs) acc)
  | [], _, _, h => h
  | e :: D, acc, hD, h => OkD.after D (fun x hx => hD x (List.mem_cons_of_mem _ hx)) (OkD.go (hD e List.mem_cons_self).1 (hD e List.mem_cons_self).2 _ h)
theorem OkD.none (B : List Str) (M : Nat) : OkD B M [] := ⟨List.nodup_nil, (fun _ h => nomatch h), (fun _ h => nomatch h)⟩
theorem rel_few {H : Hp} {B : List Str} {M : Nat} {D : List Ent} {kvs : List (List L2.Key × V)} (r : RelD H kvs D) (ok : OkD B M D) (hB : B.length ≤ 10) : kvs.length ≤ 1024 := by
  rw [Shg.pair_len r]
  have h := nodup_le (xs := D.map fun e : Ent => e.1) (ys := subs B) ok.nd fun x hx => by
    obtain ⟨e, he, rfl⟩ := List.mem_map.mp hx
    exact mem_subs (ok.sub e he)
  rw [List.length_map, subs_len] at h
  exact Nat.le_trans h (Nat.le_trans (Nat.pow_le_pow_right (by decide) hB) (by decide))
theorem guest_lift : ¬ ((.inr "lift" : L2.Key) = .inr "guest") := by decide +kernel
theorem facts_guest (a b : V) : valV (mergeK [] ([(.inr "guest", a), (.inr "lift", b)] : List (L2.Key × V))) (.inr "guest" : L2.Key) = some a := by
  have n : ¬ ((.inr "guest" : L2.Key) = .inr "lift") := fun e => guest_lift e.symm
  show valV (putK (putK [] (.inr "guest" : L2.Key) a) (.inr "lift" : L2.Key) b) (.inr "guest" : L2.Key) = some a
  unfold putK
  simp [n, valV]
theorem facts_lift (a b : V) : valV (mergeK [] ([(.inr "guest", a), (.inr "lift", b)] : List (L2.Key × V))) (.inr "lift" : L2.Key) = some b := by
  have n : ¬ ((.inr "guest" : L2.Key) = .inr "lift") := fun e => guest_lift e.symm
  show valV (putK (putK [] (.inr "guest" : L2.Key) a) (.inr "lift" : L2.Key) b) (.inr "lift" : L2.Key) = some b
  unfold putK
  simp [n, valV]
section
variable {P : Program} {w : World} {K : PySem.W.Frag} {mg : Str → Option Value} {base : Heap}
def spAfterJ : Sp := fun vs H Q _ => ∃ (Bs : List Str) (D Sd : Addr) (M : Nat) (kvs : List (List L2.Key × V)) (Dm : List Ent) (fs : List Fc), vs = [.ref D, .ref Sd] ∧ H D = some (.dT kvs) ∧ H Sd = some (.dT (fs.map fun f => (fk f, .bl true))) ∧ D ≠ Sd ∧ RelD H kvs Dm ∧ OkD Bs M Dm ∧ Bs.length ≤ 10 ∧ M ≤ 1000 ∧ fs.length ≤ 10000 ∧
  ∀ (D2 : Addr) (H' : Hp) (kvs2 : List (List L2.Key × V)), H D2 = none → Same H H' → H' D2 = some (.dT kvs2) → RelD H' kvs2 (afterE fs Dm) → Q (.ref D2) H'
theorem ok_afterJ {f : Addr} {fd : FuncData} (F : Fun K "_after_going" "_after_going" sAfterGoing f fd) (B : Shg.Blt mg) : FnOk P w K mg base CX0 1 f fd ["piles", "seen"] spAfterJ := by
  refine F.ok scAfter (fun vs H Q E h => ?_) (fun cdv A outer s H vs Q E hr h => ?_)
  · obtain ⟨Bs, D, Sd, M, kvs, Dm, fs, rfl, _⟩ := h
    rfl
  obtain ⟨Bs, D, Sd, M, kvs, Dm, fs, rfl, hD, hS, nDS, W, okD, hB, hM, hfs, kk⟩ := h
  have nd := scAfter.nd
  have lW := Shg.pair_len W
  refine ⟨_, (pss_cons (ps_set (i := 2) nd rfl (Or.inl rfl) pe_dnewT)
      (pss_cons (ps_lock (ps_for PassesOwn.never rfl (pi_itemsT (pv 0)) (pg_tup rfl (pgs_cons (pg_name (i := 3) nd rfl (Or.inl rfl)) (pgs_cons (pg_tup rfl (pgs_cons (pg_name (i := 4) nd rfl (Or.inl rfl)) (pgs_cons (pg_name (i := 5) nd rfl (Or.inl rfl)) pgs_nil))) pgs_nil))) (pss_one (ps_for PassesOwn.never rfl (pi_enumT (by rfl) B.enum (pa_cons (pv 3) pa_nil)) (pg_tup rfl (pgs_cons (pg_name (i := 6) nd rfl (Or.inl rfl)) (pgs_cons (pg_name (i := 7) nd rfl (Or.inl rfl)) pgs_nil))) (pss_cons (ps_set (i := 8) nd rfl (Or.inr rfl) (pe_disp (pps_cons (pe_str (x := "guest")) (pv 7) (pps_cons (pe_str (x := "lift")) (pe_op op_sub (pe_op op_sub (pe_callB call_len_seq (by rfl) B.len PySem.boot_len (pa_cons (pv 3) pa_nil)) (pv 6)) pe_int) pps_nil)) (by rfl) (by rfl) (fun z => by cases z) (by decide)))
      (pss_one (ps_if (pt_val (pe_callB (cr_all rfl) (by rfl) B.all (by decide +kernel) (pa_cons (pe_lock (pe_lc (own := [("kind", 10), ("fact", 11)]) (g := gTup K 2 (gCons (gName 10) (gCons (gName 11) gNil))) (tt := tYes) (te := tOp rEq (tDGet (tVar 8) (tVar 10)) (tVar 11)) rfl nd (pi_keys (pv 1)) (blkOk_by (own := [("kind", 10), ("fact", 11)]) (N := NAG) (sc := defScope sAfterGoing) (by decide +kernel))
        (fun _ _ _ _ _ => (pg_tup rfl (pgs_cons (pg_name (i := 10) nd rfl (Or.inl rfl)) (pgs_cons (pg_name (i := 11) nd rfl (Or.inl rfl)) pgs_nil)))) (fun _ _ _ _ _ => pts_nil) (fun _ _ _ _ _ => (pe_cmpR op_eq (pe_dget (hu_of hr) (pv 8) (pv 10) (fun _ _ => rfl)) (pv 11) (nomark _))))) pa_nil))) (pss_cons (ps_set (i := 9) nd rfl (Or.inl rfl) (pe_op op_catA (pe_slice sl_tupA (pv 3) po_none (po_some (pv 6))) (pe_slice sl_tupA (pv 3) (po_some (pe_op op_add (pv 6) pe_int)) po_none)))
      (pss_one (ps_dput (hu_of hr) (pv 2) (pv 9) (pe_tup (pa_cons (pe_op op_add (pe_ix ix_tup (pe_dget2 (hu_of hr) (pv 2) (pv 9) (pe_tup (pa_cons pe_int (pa_cons (pe_tup pa_nil) pa_nil))) ⟨rfl, rfl, rfl, rfl⟩) pe_int (fun _ _ => rfl)) (pv 4)) (pa_cons (pe_tup (StX.pa_star (pv 5) (pa_cons (pv 7) pa_nil))) pa_nil))) rfl))) pss_nil)))))))
      (pss_one (ps_ret (pv 2))))), ?_⟩
  refine fun D2 hD2 => name_of ?_
  have nD : D ≠ D2 := ne_of_none hD hD2
  have hok : ∀ i, OkD Bs (M + 1) ((Dm.take i).foldl (innerE fs) []) := fun i => OkD.after _ (fun e he => ⟨okD.sub e (List.mem_of_mem_take he), okD.len e (List.mem_of_mem_take he)⟩) (OkD.none _ _)
  refine ⟨D, .dT kvs, (by rw [upd_ne nD]; exact hD), trivial, fun od => ?_⟩
  have k0 : ∀ b o, b ≠ D → H b = some o → (upd (upd H D2 (.dT [])) D (.frz od (.dT kvs))) b = some o := fun b o n e => by rw [upd_ne n, upd_ne (ne_of_none e hD2)]; exact e
  refine ⟨_, rfl, D, od, kvs, rfl, upd_same, for_it walk_itemsT (fun i σ H1 => ∃ (o3 o4 o5 o6 o7 o8 o9 o10 o11 : Option V) (kvs2 : List (List L2.Key × V)), σ = [some (.ref D), some (.ref Sd), some (.ref D2), o3, o4, o5, o6, o7, o8, o9, o10, o11] ∧ H1 D = some (.frz od (.dT kvs)) ∧ (∀ b o, b ≠ D → H b = some o → H1 b = some o) ∧ H1 D2 = some (.dT kvs2) ∧ RelD H1 kvs2 ((Dm.take i).foldl (innerE fs) []))
    ⟨none, none, none, none, none, none, none, none, none, [], rfl, upd_same, k0, by rw [upd_ne (Ne.symm nD)]; exact upd_same, .nil⟩ (fun i σ H1 _ p => by obtain ⟨_, _, _, _, _, _, _, _, _, _, _, e, _⟩ := p; exact e) ?_ ?_⟩
  · rintro i y σ H1 H1' hi ⟨o3, o4, o5, o6, o7, o8, o9, o10, o11, kvs2, rfl, eD, keep, eD2, rel2⟩ ⟨T, q, k, v, hkv, rfl, hT, hq, rfl⟩
    obtain ⟨⟨ns, c, ws⟩, hent, ekk, t, wv, ev, ht, hwv⟩ := Shg.pair_get W hkv
    have ekk : k = keyN ns := ekk
    have ev : v = .ref t := ev
    subst ekk ev
    have ht : H t = some (.tup [.int (c : Nat), .ref wv]) := ht
    have hwv : H wv = some (.tup (ws.map V.str)) := hwv
    have hem := List.mem_of_getElem? hent
    have sl : ns.Sublist Bs := okD.sub _ hem
    have hws : ws.length ≤ M := okD.len _ hem
    rw [key_strs] at hq
    have tD : ∀ b vs, H b = some (.tup vs) → b ≠ D := fun b vs e z => by rw [z, hD] at e; cases e
    have ht1 := keep t _ (tD _ _ ht) ht
    have hwv1 := keep wv _ (tD _ _ hwv) hwv
    have sT : Same H1 (upd H1 T (.tup [.ref q, .ref t])) := Shg.same_upd hT
    have eT : (upd H1 T (.tup [.ref q, .ref t])) T = some (.tup [.ref q, .ref t]) := upd_same
    have st1 := sT _ _ eD
    have st2 : ∀ b o, b ≠ D → H b = some o → (upd H1 T (.tup [.ref q, .ref t])) b = some o := fun b o n e => sT _ _ (keep b o n e)
    have st3 := sT _ _ eD2
    have st4 := rel_keep (fun b vs e => sT _ _ e) rel2
    have ht2 := sT _ _ ht1
    have hwv2 := sT _ _ hwv1
    have hq2 := sT _ _ hq
    generalize upd H1 T (.tup [.ref q, .ref t]) = H3 at *
    refine ⟨T, _, rfl, SqT.of eT, rfl, _, _, rfl, _, _, rfl, t, _, rfl, SqT.of ht2, rfl, _, _, rfl, _, _, rfl, rfl, rfl, ?_⟩
    have hokj : ∀ j, OkD Bs (M + 1) ((List.range j).foldl (goE fs (ns, c, ws)) ((Dm.take i).foldl (innerE fs) [])) := fun j => OkD.go sl hws _ (hok i)
    refine ⟨_, rfl, q, _, rfl, SqT.of hq2, for_it walk_enumT (fun j σ H2 => ∃ (o6 o7 o8 o9 o10 o11 : Option V) (kvs4 : List (List L2.Key × V)), σ = [some (.ref D), some (.ref Sd), some (.ref D2), some (.ref q), some (.int (c : Nat)), some (.ref wv), o6, o7, o8, o9, o10, o11] ∧ H2 D = some (.frz od (.dT kvs)) ∧ (∀ b o, b ≠ D → H b = some o → H2 b = some o) ∧ H2 D2 = some (.dT kvs4) ∧ RelD H2 kvs4 ((List.range j).foldl (goE fs (ns, c, ws)) ((Dm.take i).foldl (innerE fs) [])) ∧ H2 q = some (.tup (ns.map V.str)) ∧ H2 wv = some (.tup (ws.map V.str)))
      ⟨o6, o7, o8, o9, o10, o11, kvs2, rfl, st1, st2, st3, st4, hq2, hwv2⟩ (fun j σ H2 _ p => by obtain ⟨_, _, _, _, _, _, _, _, _, _, _, _, e, _⟩ := p; exact SqT.of e) ?_ ?_⟩
    · rintro j y σ H4' H4 hj ⟨p6, p7, p8, p9, p10, p11, kvs4, rfl, u1, u2, u3, u4, u7, u8⟩ ⟨T2, y1, y2, rfl, hT2, rfl, e1, e3⟩
      cases e1
      have e3 : (ns.map V.str)[j]? = some y2 := e3
      rw [List.getElem?_map] at e3
      obtain ⟨z, hz, rfl⟩ : ∃ z, ns[j]? = some z ∧ y2 = .str z := by
        cases e : ns[j]? with
        | none => rw [e] at e3; cases e3
        | some z => rw [e] at e3; cases e3; exact ⟨z, rfl, rfl⟩
      have hjn : j < ns.length := (List.getElem?_eq_some_iff.mp hz).1
      have stepj : (List.range (j + 1)).foldl (goE fs (ns, c, ws)) ((Dm.take i).foldl (innerE fs) []) = goE fs (ns, c, ws) ((List.range j).foldl (goE fs (ns, c, ws)) ((Dm.take i).foldl (innerE fs) [])) j := by
        rw [List.range_succ, List.foldl_append]
        rfl
      have okj := hokj j
      generalize (List.range j).foldl (goE fs (ns, c, ws)) ((Dm.take i).foldl (innerE fs) []) = Dj at *
      refine ⟨T2, _, rfl, SqT.of upd_same, rfl, _, _, rfl, _, _, rfl, rfl, ?_⟩
      have s5 := Shg.same_upd (o := .tup [.int (j : Nat), .str z]) hT2
      generalize upd H4' T2 (.tup [.int (j : Nat), .str z]) = H5 at *
      -- facts
      refine fun Fd hFd => ⟨_, rfl, _, rfl, q, _, rfl, .inr (SqT.of ((Shg.same_upd hFd) _ _ (s5 _ _ u7))), _, rfl, _, _, rfl, rfl, _, _, rfl, rfl, upd_same, [(.inr "guest", .str z), (.inr "lift", .int (((ns.map V.str).length : Nat) - (j : Nat) - 1))], rfl, by show 2 ≤ 15; decide, name_of ?_⟩
      have s6 : Same H5 (upd (upd H5 Fd (.dK [])) Fd (.dK (mergeK [] [(.inr "guest", .str z), (.inr "lift", .int (((ns.map V.str).length : Nat) - (j : Nat) - 1))]))) := fun b o e => by rw [upd_ne (ne_of_none e hFd), upd_ne (ne_of_none e hFd)]; exact e
      have eF : (upd (upd H5 Fd (.dK [])) Fd (.dK (mergeK [] [(.inr "guest", .str z), (.inr "lift", .int (((ns.map V.str).length : Nat) - (j : Nat) - 1))]))) Fd = some (.dK (mergeK [] [(.inr "guest", .str z), (.inr "lift", .int (((ns.map V.str).length : Nat) - (j : Nat) - 1))])) := upd_same
      have s56 := s5.trans s6
      generalize upd (upd H5 Fd (.dK [])) Fd (.dK (mergeK [] [(.inr "guest", .str z), (.inr "lift", .int (((ns.map V.str).length : Nat) - (j : Nat) - 1))])) = H6 at *
      have hS6 := s56 _ _ (u2 Sd _ (Ne.symm nDS) hS)
      have nFS : Fd ≠ Sd := Dw.ne_at hS6 eF fun z => nomatch z
      -- what was seen
      refine ⟨Sd, _, hS6, trivial, fun od2 => ⟨_, rfl, Sd, od2, rfl, .inr ⟨_, upd_same, fun Dl hDl => ?_⟩⟩⟩
      have eF' : ∀ o, upd H6 Sd o Fd = some (.dK (mergeK [] [(.inr "guest", .str z), (.inr "lift", .int (((ns.map V.str).length : Nat) - (j : Nat) - 1))])) := fun o => by rw [upd_ne nFS]; exact eF
      refine lc_map walk_keysT (fun i => (fs[i]?).map fun f => V.bl (okF ns j f)) hDl (by rw [List.length_map]; exact Nat.le_trans hfs (by decide)) (fun H s => s _ _ upd_same) (fun i' x Ha Hb hi' s' yy R k1 => ?_) (fun i' hi' => by rw [List.length_map] at hi'; exact ⟨_, by rw [List.getElem?_eq_getElem hi']; rfl⟩) fun H7 s7 e7 => ?_
      · obtain ⟨rfl, k, vv, qk, hk, rfl, hqk⟩ := yy
        rw [List.getElem?_map] at hk
        obtain ⟨f', hf', ekv⟩ := Option.map_eq_some_iff.mp hk
        injection ekv with ek ev
        subst ek
        have k2 := k1 (.bl (okF ns j f')) _ (Same.refl _) (by rw [hf']; rfl)
        have eFs := s' _ _ (eF' _)
        cases f' with
        | guest z0 =>
          have hqk : _ = some (HO.tup [.str "guest", .str z0]) := hqk
          refine ⟨qk, _, rfl, SqT.of hqk, rfl, _, _, rfl, _, _, rfl, rfl, rfl, ?_⟩
          have g := DGet.k (k := .inr "guest") eFs
          rw [facts_guest] at g
          refine ⟨_, rfl, _, rfl, Fd, _, rfl, g, _, rfl, rfl, ?_⟩
          have e : decide (V.str z = V.str z0) = okF ns j (.guest z0) := decide_eq_decide.mpr ⟨fun e => by injection e with e; rw [hz, e], fun e => by rw [hz] at e; rw [Option.some.inj e]⟩
          rw [e]
          exact k2
        | lift n0 =>
          have hqk : _ = some (HO.tup [.str "lift", .int n0]) := hqk
          refine ⟨qk, _, rfl, SqT.of hqk, rfl, _, _, rfl, _, _, rfl, rfl, rfl, ?_⟩
          have g := DGet.k (k := .inr "lift") eFs
          rw [facts_lift] at g
          refine ⟨_, rfl, _, rfl, Fd, _, rfl, g, _, rfl, rfl, ?_⟩
          have e : decide (V.int (((ns.map V.str).length : Nat) - (j : Nat) - 1) = V.int n0) = okF ns j (.lift n0) := decide_eq_decide.mpr (by
            rw [List.length_map]
            exact ⟨fun e => by injection e, fun e => by rw [e]⟩)
          rw [e]
          exact k2
      rw [List.length_map, gather_map fs fun f => V.bl (okF ns j f)] at e7
      have lk := s7 _ _ (upd_same (H := H6) (a := Sd) (o := .frz od2 (.dT (fs.map fun f => (fk f, .bl true)))))
      have nDlS : Dl ≠ Sd := fun z => by rw [z, upd_same] at hDl; cases hDl
      have s67 : Same H6 (upd H7 Sd (.dT (fs.map fun f => (fk f, .bl true)))) := fun b o e => by
        by_cases hb : b = Sd
        · rw [hb, hS6] at e
          cases e
          rw [hb]
          exact upd_same
        · rw [upd_ne hb]
          exact s7 _ _ (by rw [upd_ne hb]; exact e)
      have eall : (fs.map (okF ns j)).all id = okAt fs ns j := by
        rw [List.all_map]
        rfl
      refine ⟨lk, Dl, fs.map (okF ns j), rfl, ?_, ?_⟩
      · rw [List.map_map]
        exact SqL.of (by rw [upd_ne nDlS]; exact e7)
      rw [eall]
      have s47 := s56.trans s67
      generalize upd H7 Sd (.dT (fs.map fun f => (fk f, .bl true))) = H8 at s67 s47 ⊢
      rw [stepj]
      have sj : goE fs (ns, c, ws) Dj j = if okAt fs ns j = true then putE Dj (ns.eraseIdx j) c (ws ++ [z]) else Dj := by
        unfold goE
        show (if okAt fs ns j = true then putE Dj (ns.eraseIdx j) c (ws ++ [ns.getD j ""]) else Dj) = _
        rw [List.getD_eq_getElem?_getD, hz]
        rfl
      rw [sj]
      cases eok : okAt fs ns j with
      | false =>
        rw [if_neg Bool.false_ne_true]
        exact ⟨_, rfl, iteF (nx_of ⟨_, _, _, _, _, _, kvs4, rfl, s47 _ _ u1, fun b o n e => s47 _ _ (u2 b o n e), s47 _ _ u3, rel_keep (fun b vs e => s47 _ _ e) u4, s47 _ _ u7, s47 _ _ u8⟩)⟩
      | true =>
      rw [if_pos rfl]
      refine ⟨_, rfl, iteT ?_⟩
      have q8 := s47 _ _ u7
      -- the rest
      refine ⟨_, rfl, _, rfl, _, rfl, cut_tup q8 fun p1 H9 s9 e9 => ⟨_, rfl, _, rfl, _, _, rfl, rfl, _, rfl, np_of (cut_tup (s9 _ _ q8) fun p2 HA sA eA => ?_)⟩⟩
      have lB : ns.length ≤ 10 := Nat.le_trans sl.length_le hB
      have lnv : (ns.map V.str).length = ns.length := List.length_map ..
      rw [cut_to (ns.map V.str) (by omega)] at e9
      rw [show ((j : Int) + 1) = ((j + 1 : Nat) : Int) by omega, cut_from (ns.map V.str) (by omega)] at eA
      refine cat_tups (sA _ _ e9) eA (by rw [List.length_take, List.length_drop]; exact Nat.le_trans (by omega : _ ≤ 20) (by decide)) fun p3 HB sB eB => name_of ?_
      have eB2 : HB p3 = some (.tup ((keyN (ns.eraseIdx j)).map kV)) := by rw [eB, key_strs, List.eraseIdx_eq_take_drop_succ, List.map_append, List.map_take, List.map_drop]
      generalize ns.eraseIdx j = rs at eB2 ⊢
      have s4B := s47.trans ((s9.trans sA).trans sB)
      have few := rel_few u4 okj hB
      -- so many ways before
      refine ⟨_, rfl, D2, rfl, .inr ⟨kvs4, .inl (s4B _ _ u3)⟩, _, rfl, Nat.zero_le _, fun e0 he0 => ⟨by show 2 ≤ sizeLine; decide, fun e1 he1 => ?_⟩⟩
      have t0 := Shg.same_upd (o := .tup []) he0
      have t1 := Shg.same_upd (o := .tup [.int 0, .ref e0]) he1
      have ee1 : (upd (upd HB e0 (.tup [])) e1 (.tup [.int 0, .ref e0])) e1 = some (.tup [.int 0, .ref e0]) := upd_same
      have s4C := s4B.trans (t0.trans t1)
      have eC := (t0.trans t1) _ _ eB2
      generalize upd (upd HB e0 (.tup [])) e1 (.tup [.int 0, .ref e0]) = HC at *
      refine ⟨_, DGet.t (s4C _ _ u3) eC, ?_⟩
      obtain ⟨tt, rest, ett, htt⟩ : ∃ tt rest, (valV kvs4 (keyN rs)).getD (.ref e1) = .ref tt ∧ HC tt = some (.tup (.int (cOf Dj rs : Nat) :: rest)) := by
        rcases rel_val rs u4 with ⟨g1, g2, _, _⟩ | ⟨⟨t2, w2, e2, g1, _, _, _, g2, _⟩, _, _⟩
        · rw [g1, g2]
          exact ⟨e1, _, rfl, ee1⟩
        · rw [g1]
          exact ⟨t2, _, rfl, s4C _ _ g2⟩
      rw [ett]
      refine ⟨tt, _, 0, .int (cOf Dj rs : Nat), rfl, rfl, SqT.of htt, atI_nat (j := 0) rfl, _, rfl, _, _, rfl, rfl, _, rfl, wv, _, rfl, .inl (SqT.of (s4C _ _ u8)), _, rfl, ?_, fun w2 hw2 => ⟨by show 2 ≤ sizeLine; decide, fun t2 ht2 => ?_⟩⟩
      · rw [List.length_append, List.length_map]
        exact Nat.le_trans (by show ws.length + 1 ≤ 1001; omega) (by decide)
      have v1 := Shg.same_upd (o := .tup (ws.map V.str ++ [.str z])) hw2
      have v2 := Shg.same_upd (o := .tup [.int ((cOf Dj rs : Nat) + (c : Nat)), .ref w2]) ht2
      have ew := v2 _ _ (show (upd HC w2 (.tup (ws.map V.str ++ [.str z]))) w2 = some (.tup ((ws ++ [z]).map V.str)) by rw [upd_same, List.map_append]; rfl)
      have et : (upd (upd HC w2 (.tup (ws.map V.str ++ [.str z]))) t2 (.tup [.int ((cOf Dj rs : Nat) + (c : Nat)), .ref w2])) t2 = some (.tup [.int ((cOf Dj rs + c : Nat) : Int), .ref w2]) := upd_same
      have s4E := s4C.trans (v1.trans v2)
      have eE := (v1.trans v2) _ _ eC
      generalize upd (upd HC w2 (.tup (ws.map V.str ++ [.str z]))) t2 (.tup [.int ((cOf Dj rs : Nat) + (c : Nat)), .ref w2]) = HE at *
      have u3E := s4E _ _ u3
      refine ⟨_, rfl, _, rfl, D2, _, rfl, DPut.t u3E eE (Nat.lt_of_le_of_lt few (by decide)), ?_⟩
      have kt : ∀ b vs, HE b = some (.tup vs) → (upd HE D2 (.dT (putK kvs4 (keyN rs) (.ref t2)))) b = some (.tup vs) := fun b vs e => by rw [upd_ne fun z => by rw [z, u3E] at e; cases e]; exact e
      refine ⟨_, _, _, _, _, _, putK kvs4 (keyN rs) (.ref t2), rfl, by rw [upd_ne nD]; exact s4E _ _ u1, fun b o nb e => by rw [upd_ne fun z => by rw [z, hD2] at e; cases e]; exact s4E _ _ (u2 b o nb e), upd_same, ?_, kt _ _ (s4E _ _ u7), kt _ _ (s4E _ _ u8)⟩
      exact rel_keep kt (rel_put (rel_keep (fun b vs e => s4E _ _ e) u4) okj.nd et ew)
    · rintro σ H2 ⟨p6, p7, p8, p9, p10, p11, kvs4, rfl, u1, u2, u3, u4, u7, u8⟩
      refine ⟨_, _, _, _, _, _, _, _, _, kvs4, rfl, u1, u2, u3, ?_⟩
      rw [List.take_succ, hent, Option.toList_some, List.foldl_append]
      have : (ns.map V.str).length = ns.length := List.length_map ..
      rw [this] at u4
      exact u4
  · rintro σ H1 ⟨o3, o4, o5, o6, o7, o8, o9, o10, o11, kvs2, rfl, eD, keep, eD2, rel2⟩
    refine ⟨eD, _, rfl, ?_⟩
    rw [lW, List.take_length] at rel2
    refine kk D2 _ kvs2 hD2 (fun b o e => ?_) (by rw [upd_ne (Ne.symm nD)]; exact eD2) (rel_keep (fun b vs e => ?_) rel2)
    · by_cases z : b = D
      · rw [z, hD] at e
        cases e
        rw [z]
        exact upd_same
      · rw [upd_ne z]
        exact keep b o z e
    · rw [upd_ne fun z => by rw [z, eD] at e; cases e]
      exact e
end
end Jo
set_option Elab.async false
set_option linter.all false
set_option maxRecDepth 100000
set_option maxHeartbeats 4000000
/-! sorted(xs, key=lambda ..): a stable order by whole numbers. -/
namespace Sho
open PySem PySem.Spec PyProof.Rows L2 LamX NdefX

/-! ### the order -/
section
variable {α β : Type}
def insK (p : Int × α) : List (Int × α) → List (Int × α)
  | [] => [p]
  | q :: r => if p.1 ≤ q.1 then p :: q :: r else q :: insK p r
def sortK : List (Int × α) → List (Int × α)
  | [] => []
  | p :: r => insK p (sortK r)
/-- ys in the order of their numbers kz; who stands first stays first among equals -/
def sortV (kz : List Int) (ys : List α) : List α := (sortK (kz.zip ys)).map Prod.snd
theorem insK_perm (p : Int × α) : ∀ l, (insK p l).Perm (p :: l)
  | [] => .refl _
  | q :: r => by
    unfold insK
    split
    · exact .refl _
    · exact ((insK_perm p r).cons q).trans (.swap p q r)
theorem sortK_perm : ∀ l : List (Int × α), (sortK l).Perm l
  | [] => .refl _
  | p :: r => (insK_perm p (sortK r)).trans ((sortK_perm r).cons p)
theorem insK_pair (p : Int × α) : ∀ {l : List (Int × α)}, l.Pairwise (fun a b => a.1 ≤ b.1) → (insK p l).Pairwise (fun a b => a.1 ≤ b.1)
  | [], _ => List.pairwise_singleton _ _
  | q :: r, h => by
    have hh := List.pairwise_cons.mp h
    unfold insK
    split
    · rename_i le
      refine List.pairwise_cons.mpr ⟨fun b hb => ?_, h⟩
      rcases List.mem_cons.mp hb with rfl | hb
      · exact le
      · exact Int.le_trans le (hh.1 b hb)
    · rename_i le
      refine List.pairwise_cons.mpr ⟨fun b hb => ?_, insK_pair p hh.2⟩
      rcases List.mem_cons.mp ((insK_perm p r).mem_iff.mp hb) with rfl | hb
      · omega
      · exact hh.1 b hb
theorem sortK_pair : ∀ l : List (Int × α), (sortK l).Pairwise (fun a b => a.1 ≤ b.1)
  | [] => .nil
  | p :: r => insK_pair p (sortK_pair r)
theorem insK_filter (p : Int × α) (c : Int) : ∀ l : List (Int × α), (insK p l).filter (fun q => q.1 == c) = (p :: l).filter (fun q => q.1 == c)
  | [] => rfl
  | q :: r => by
    unfold insK
    split
    · rfl
    · rename_i le
      have ih := insK_filter p c r
      rw [List.filter_cons, ih, List.filter_cons (x := p), List.filter_cons (x := p), List.filter_cons (x := q)]
      by_cases h1 : (p.1 == c) = true
      · have h2 : (q.1 == c) = false := by
          have := beq_iff_eq.mp h1
          simp only [beq_eq_false_iff_ne, ne_eq]
          omega
        simp [h1, h2]
      · simp [h1]
theorem sortK_filter (c : Int) : ∀ l : List (Int × α), (sortK l).filter (fun q => q.1 == c) = l.filter (fun q => q.1 == c)
  | [] => rfl
  | p :: r => by
    show (insK p (sortK r)).filter _ = _
    rw [insK_filter, List.filter_cons, List.filter_cons, sortK_filter c r]
/-- a sorted list that keeps equals in order is the only one -/
theorem stable_one : ∀ {l m : List (Int × α)}, l.Pairwise (fun a b => a.1 ≤ b.1) → m.Pairwise (fun a b => a.1 ≤ b.1) → (∀ c, l.filter (fun q => q.1 == c) = m.filter (fun q => q.1 == c)) → l = m
  | [], [], _, _, _ => rfl
  | [], q :: m, _, _, h => by
    have := h q.1
    simp at this
  | p :: l, [], _, _, h => by
    have := h p.1
    simp at this
  | p :: l, q :: m, hl, hm, h => by
    have hl' := List.pairwise_cons.mp hl
    have hm' := List.pairwise_cons.mp hm
    have mem1 : p ∈ (q :: m) := by
      have e := h p.1
      have : p ∈ (p :: l).filter (fun z => z.1 == p.1) := List.mem_filter.mpr ⟨List.mem_cons_self, by simp⟩
      rw [e] at this
      exact (List.mem_filter.mp this).1
    have mem2 : q ∈ (p :: l) := by
      have e := h q.1
      have : q ∈ (q :: m).filter (fun z => z.1 == q.1) := List.mem_filter.mpr ⟨List.mem_cons_self, by simp⟩
      rw [← e] at this
      exact (List.mem_filter.mp this).1
    have e1 : q.1 ≤ p.1 := by
      rcases List.mem_cons.mp mem1 with z | z
      · rw [z]; exact Int.le_refl _
      · exact hm'.1 _ z
    have e2 : p.1 ≤ q.1 := by
      rcases List.mem_cons.mp mem2 with z | z
      · rw [z]; exact Int.le_refl _
      · exact hl'.1 _ z
    have ek : p.1 = q.1 := Int.le_antisymm e2 e1
    have hp : p = q := by
      have e := h p.1
      rw [List.filter_cons, List.filter_cons] at e
      simp only [beq_self_eq_true, ek, if_true] at e
      exact (List.cons.inj e).1
    subst hp
    rw [stable_one hl'.2 hm'.2 fun c => ?_]
    have e := h c
    rw [List.filter_cons, List.filter_cons] at e
    split at e
    · exact (List.cons.inj e).2
    · exact e
theorem sortK_one {l m : List (Int × α)} (hm : m.Pairwise (fun a b => a.1 ≤ b.1)) (h : ∀ c, m.filter (fun q => q.1 == c) = l.filter (fun q => q.1 == c)) : m = sortK l :=
  stable_one hm (sortK_pair l) fun c => (h c).trans (sortK_filter c l).symm
theorem sortV_length {kz : List Int} {ys : List α} (h : kz.length = ys.length) : (sortV kz ys).length = ys.length := by
  unfold sortV
  rw [List.length_map, (sortK_perm _).length_eq, List.length_zip, h, Nat.min_self]
end

/-! ### list.sort by a key, whatever stands around -/
section
variable {prog : Program} {w : World} {A : Around} {E : Value → Shared → Prop} {a : Addr} {vs : List Value} {kz : List Int}
/-- all objects of a heap but three -/
def rest3 (h : Heap) (L x y : Addr) : List (Addr × Obj) := (List.range h.objs.size).filterMap fun b => if b = L ∨ b = x ∨ b = y then none else (h.get? b).map fun o => (b, o)
theorem mem_rest3 {h : Heap} {L x y b : Addr} {o : Obj} (h1 : b ≠ L) (h2 : b ≠ x) (h3 : b ≠ y) (e : h.get? b = some o) : (b, o) ∈ rest3 h L x y :=
  List.mem_filterMap.mpr ⟨b, List.mem_range.mpr (Heap.lt_size e), by simp [h1, h2, h3, e]⟩
theorem of_rest3 {h : Heap} {L x y : Addr} {p : Addr × Obj} (hp : p ∈ rest3 h L x y) : p.1 ≠ L ∧ p.1 ≠ x ∧ p.1 ≠ y ∧ h.get? p.1 = some p.2 := by
  obtain ⟨b, _, e⟩ := List.mem_filterMap.mp hp
  split at e
  · cases e
  · rename_i hn
    cases q : h.get? b with
    | none =>
      rw [q] at e
      cases e
    | some o =>
      rw [q] at e
      cases e
      exact ⟨fun z => hn (.inl z), fun z => hn (.inr (.inl z)), fun z => hn (.inr (.inr z)), q⟩

/-- the end: from the list of the numbers -/
theorem sortkey_end {s : Shared} {kS L : Addr} {m : Str → Option Value} {keys : Array Value} {e e1 : Nat} {P : PySem.Fin → Shared → Prop} (hn : s.heap.Ns L m) (hkL : kS ≠ L) (haL : a ≠ L) (hka : kS ≠ a)
    (hkS : s.heap.get? kS = some (seqObj "list" keys e)) (ha : s.heap.get? a = some (seqObj "list" #[] e1)) (hk : IntsAre keys.toList kz) (hlen : kz.length = vs.length) (hZ : vs.length ≤ sizeLine)
    (h : ∀ h' tk out c, h'.Ns L m → (∀ b o, b ≠ L → b ≠ kS → b ≠ a → s.heap.get? b = some o → h'.get? b = some o) → h'.get? a = some (seqObj "list" out c) → KskOutSt false kz vs out.toList → P (.done (.ret .none)) { s with heap := h', toks := tk }) :
    wpAny (model prog w) A (ksk_end a false vs.toArray e1 (.ref kS) keys) P E s := by
  have F := Att.fr_all hn
  refine ksk_end_St (h₀ := Att.noObjs s.heap) (news := rest3 s.heap L kS a) (L := L) (m := m) (kz := kz) (vs := vs) (e := e) F (fun p hp => ?_) hka (fun p hp => (of_rest3 hp).2.1) (fun p hp => (of_rest3 hp).2.2.1) hk hlen hZ fun h' tk out c F' N' k' => ?_
  · rcases List.mem_append.mp hp with hp | hp
    · obtain ⟨p1, _, _, p4⟩ := of_rest3 hp
      exact ⟨p4, p1, Att.noObjs_get _ _⟩
    · rcases List.mem_cons.mp hp with rfl | hp
      · exact ⟨hkS, hkL, Att.noObjs_get _ _⟩
      · rw [List.mem_singleton.mp hp]
        exact ⟨ha, haL, Att.noObjs_get _ _⟩
  · refine h h' tk out c F'.ns (fun b o b1 b2 b3 eb => ?_) (N' _ List.mem_cons_self).1 k'
    exact (N' _ (List.mem_cons_of_mem _ (mem_rest3 b1 b2 b3 eb))).1

theorem sortkey_rest {f : Value} {s : Shared} {kS L : Addr} {m : Str → Option Value} {e1 : Nat} {P : PySem.Fin → Shared → Prop} (J : Shared → Prop) (hkL : kS ≠ L) (haL : a ≠ L) (hka : kS ≠ a) (hlen : kz.length = vs.length) (hZ : vs.length ≤ sizeLine) (h0 : J s)
    (hns : ∀ s', J s' → s'.heap.Ns L m)
    (hkS : s.heap.get? kS = some (seqObj "list" #[] 0)) (ha : s.heap.get? a = some (seqObj "list" #[] e1))
    (hup : ∀ s' g, J s' → J { s' with heap := s'.heap.update kS (Obj.mapSeq g) })
    (turn : ∀ (i : Nat) (v : Value) (k : Int), vs[i]? = some v → kz[i]? = some k → ∀ s', J s' →
      wpAny (model prog w) A (call f [v]) (fun u s2 => ∃ t, u = .int k t ∧ J s2 ∧ (∀ o, s'.heap.get? kS = some o → s2.heap.get? kS = some o) ∧ (∀ o, s'.heap.get? a = some o → s2.heap.get? a = some o)) (fun _ _ => False) s')
    (h : ∀ s' h' tk out c, J s' → h'.Ns L m → (∀ b o, b ≠ L → b ≠ kS → b ≠ a → s'.heap.get? b = some o → h'.get? b = some o) → h'.get? a = some (seqObj "list" out c) → KskOutSt false kz vs out.toList → P (.done (.ret .none)) { s' with heap := h', toks := tk }) :
    wpAny (model prog w) A (ksk_rest a f false vs.toArray e1 (.ref kS)) P E s := by
  have hZ2 := hZ
  rw [sizeLine_eq] at hZ2
  unfold ksk_rest
  refine wpAny_bind (wpAny_rule ?_)
  first
    | rw [List.forIn_toArray]
    | (rw [← Array.forIn_toList]; simp only [List.toList_toArray])
  refine wpAny_bind (ksk_fold (fun i s' => ∃ kA e, J s' ∧ s'.heap.get? kS = some (seqObj "list" kA e) ∧ s'.heap.get? a = some (seqObj "list" #[] e1) ∧ IntsAre kA.toList (kz.take i)) vs 0 s
    ⟨#[], 0, h0, hkS, ha, by simpa using IntsAre.nil⟩ ?step ?done)
  case step =>
    rintro j x s' hx ⟨kA, e, hJ, gk, ga, hk⟩
    simp only [Nat.zero_add] at hk ⊢
    have hj := (List.getElem?_eq_some_iff.mp hx).1
    obtain ⟨k, hkj⟩ : ∃ k, kz[j]? = some k := ⟨_, List.getElem?_eq_getElem (by omega)⟩
    have hz : kA.size ≤ vs.length := by
      have h1 := hk.length
      rw [Array.length_toList, List.length_take] at h1
      omega
    refine wpAny_bind (wpAny_attempt (wpAny_mono (turn j x k hx hkj s' hJ) (fun v s2 he => ?_) fun _ _ hF => hF.elim))
    obtain ⟨t2, rfl, J2, q1, q2⟩ := he
    try dsimp only
    have gk2 := q1 _ gk
    have ek : kz.take (j + 1) = kz.take j ++ [k] := by rw [List.take_add_one, hkj]; simp
    have ea : (kA.push (Value.int k t2)).toList = kA.toList ++ [Value.int k t2] := by simp
    refine wpAny_bind (listUpdate_at gk2 rfl ?_ (by rw [sizeLine_eq]; omega) (Nat.le_trans (Nat.le_of_eq (Array.size_push ..)) (by rw [sizeLine_eq]; omega)))
    refine wpAny_pure ⟨rfl, kA.push (.int k t2), _, hup s2 _ J2, get?_update_seq gk2 (·.push (.int k t2)), ?_, by rw [ea, ek]; exact ksk_snoc hk⟩
    exact ((Heap.SameBut.update s2.heap kS _).2 a hka.symm).trans (q2 _ ga)
  case done =>
    rintro s' ⟨kA, e, hJ, gk, ga, hk⟩
    have hk' : IntsAre kA.toList kz := by
      have e3 : kz.take (0 + vs.length) = kz := List.take_of_length_le (by omega)
      rw [e3] at hk
      exact hk
    try dsimp only
    refine wpAny_bind (listItems_at gk rfl ?_)
    exact sortkey_end (hns s' hJ) hkL haL hka gk ga hk' hlen hZ fun h' tk out c n1 n2 n3 n4 => h s' h' tk out c hJ n1 n2 n3 n4
end

/-! ### at the layer -/
theorem abs_of {x : V} {u : Value} (r : L2.RelV x u) : absV u = some x := RelV.abs r
def unV (u : Value) : V := (absV u).getD .non
theorem unV_of {x : V} {u : Value} (r : L2.RelV x u) : unV u = x := by
  unfold unV
  rw [abs_of r]
  rfl
theorem zip_unV : ∀ {ys : List V} {us : List Value} (kz : List Int), Vals ys us → (kz.zip us).map (fun p => (p.1, unV p.2)) = kz.zip ys
  | _, _, [], _ => rfl
  | _, _, _ :: _, .nil => by simp
  | _, _, k :: kz, .cons r rs => by
    simp only [List.zip_cons_cons, List.map_cons]
    rw [unV_of r, zip_unV kz rs]
theorem vals_mem : ∀ {ys : List V} {us : List Value} {u : Value}, Vals ys us → u ∈ us → L2.RelV (unV u) u
  | _, _, _, .cons r rs, h => by
    rcases List.mem_cons.mp h with rfl | h
    · rw [unV_of r]
      exact r
    · exact vals_mem rs h
theorem vals_un : ∀ {us : List Value}, (∀ u ∈ us, L2.RelV (unV u) u) → Vals (us.map unV) us
  | [], _ => .nil
  | u :: us, h => .cons (h u List.mem_cons_self) (vals_un fun v hv => h v (List.mem_cons_of_mem _ hv))
theorem out_sorted {ys : List V} {vs out : List Value} {kz : List Int} (r : Vals ys vs) (hl : kz.length = vs.length) (h : KskOutSt false kz vs out) : Vals (sortV kz ys) out := by
  obtain ⟨ps, h1, rfl, h2, h3⟩ := h
  have mem : ∀ u ∈ ps.map Prod.snd, L2.RelV (unV u) u := fun u hu => by
    obtain ⟨p, hp, rfl⟩ := List.mem_map.mp hu
    have q := h1.mem_iff.mp hp
    exact vals_mem r (List.of_mem_zip (a := p.1) (b := p.2) q).2
  have e1 : (ps.map fun p => (p.1, unV p.2)) = sortK (kz.zip ys) := by
    refine sortK_one ?_ fun c => ?_
    · refine List.pairwise_map.mpr (h2.imp fun {x y} z => ?_)
      simpa using z
    · rw [← zip_unV kz r, List.filter_map, List.filter_map]
      have e := h3 c
      exact congrArg (List.map fun p => (p.1, unV p.2)) e
  have e2 : sortV kz ys = (ps.map Prod.snd).map unV := by
    unfold sortV
    rw [← e1, List.map_map, List.map_map]
    rfl
  rw [e2]
  exact vals_un mem

/-- a list or a tuple, collected: the very heap behind it -/
theorem collect_any {prog : Program} {w : World} {A : Around} {E : Value → Shared → Prop} {s : Shared} {l : Addr} {vs : List Value} {o : Obj} {n : Nat} {T : String} {Q : List Value → Shared → Prop} (hT : T = "list" ∨ T = "tuple") (ho : s.heap.get? l = some o) (hc : o.cls = .type T) (hd : o.data = .seq vs.toArray n)
    (h : Q vs { s with heap := (s.heap.push (seqObj "list" #[] 0)).update s.heap.objs.size (Obj.mapSeq (· ++ vs.toArray)) }) (hsz : vs.length ≤ sizeLine) :
    wpAny (model prog w) A (collect (.ref l)) Q E s := by
  have new : (s.heap.push (seqObj "list" #[] 0)).get? s.heap.objs.size = some (seqObj "list" #[] 0) := Heap.get?_push_size _ rfl
  have size : vs.toArray.size ≤ sizeLine := by simpa using hsz
  have grown := Heap.get?_update_self (Obj.mapSeq (· ++ vs.toArray)) new rfl
  have fin : ∀ s', s' = { s with heap := (s.heap.push (seqObj "list" #[] 0)).update s.heap.objs.size (Obj.mapSeq (· ++ vs.toArray)) } → wpAny (model prog w) A (load s.heap.objs.size >>= fun o => match o.data with
      | .seq xs _ => pure xs.toList
      | _ => unsupported "internal:collect") Q E s' := by
    rintro _ rfl
    refine wpAny_bind (wpAny_load grown ?_)
    show wpAny _ _ (pure (#[] ++ vs.toArray).toList) _ _ _
    have e : ((#[] : Array Value) ++ vs.toArray).toList = vs := by simp
    rw [e]
    exact wpAny_pure h
  unfold collect
  refine wpAny_bind (wpAny_runValue (codeAny_builtin F.entry_proto_collect ?_))
  rw [Around.under_plainId F.plain_proto_collect _]
  refine wpAny_bind (m := newList []) (wpAny_newList (wpAny_pure ⟨plainId_quiet F.plain_list_iadd _, codeAny_builtin F.entry_list_iadd ?_⟩))
  rw [Around.under_plainId F.plain_list_iadd _]
  have run := wpAny_extend_seq (prog := prog) (w := w) (A := A) (s := { s with heap := s.heap.push (seqObj "list" #[] 0) }) (R := fun r s' => r = .ok (.ret (.ref s.heap.objs.size)) ∧ s' = { s with heap := (s.heap.push (seqObj "list" #[] 0)).update s.heap.objs.size (Obj.mapSeq (· ++ vs.toArray)) })
    s.heap.objs.size l (.ref s.heap.objs.size) 0 hT new (Heap.get?_push_of_some _ ho) hc hd ⟨rfl, rfl⟩ size
  refine wpAny_mono run (fun f s' q => ?_) fun _ _ q => nomatch q.1
  cases f with
  | done r =>
    obtain ⟨e, q⟩ := q
    cases e
    exact fin _ q
  | again c => exact ⟨q.1, codeAny_mono q.2 fun r s'' z => by
      obtain ⟨rfl, z⟩ := z
      exact fin _ z⟩
section
variable {X : Cx} {k : Nat}
/-- sorted(xs, key=f): f a lambda, hands back whole numbers and leaves all as it was -/
def rSortL (X : Cx) (k : Nat) : List V → List V → Hp → VK → Prop := fun xs zs H Q => ∃ (a f : Addr) (Z : LF) (ys : List V) (kz : List Int), xs = [V.ref a] ∧ zs = [V.ref f] ∧ (SqL X.K H a ys ∨ SqT X.K H a ys) ∧ LamAt H f Z ∧ kz.length = ys.length ∧
  (∀ (A : Around) (outer : List Env) (s : Shared) (i : Nat) (v : V) (n : Int) (u : Value), Room k A → Env0 X.prog X.w X.K X.mg X.base A outer s H → ys[i]? = some v → kz[i]? = some n → RelV v u →
    codeAny (model X.prog X.w) A (.call (.ref f) ⟨[u], []⟩) (CR CX0 outer X.prog X.w H s (fun r H' => r = .int n ∧ H' = H) E0) s) ∧
  ∀ p, H p = none → Q (.ref p) (upd H p (.lst (sortV kz ys)))
theorem cr_sortedLam (hr : Room (k + 3) X.A) : CallRK X (.builtin "sorted") [Str.ofString "key"] (rSortL X k) := by
  rintro pins s σ H xs zs us ws Q I rx rz ⟨l, f, Z, ys, kz, rfl, rfl, hl, hf, hlen, hkey, hq⟩
  obtain ⟨us1, rfl⟩ : ∃ u, us = [u] := by cases rx with | cons r t => cases t; exact ⟨_, rfl⟩
  obtain ⟨ws1, rfl⟩ : ∃ u, ws = [u] := by cases rz with | cons r t => cases t; exact ⟨_, rfl⟩
  obtain rfl : us1 = .ref l := by cases rx with | cons r t => exact r
  obtain rfl : ws1 = .ref f := by cases rz with | cons r t => exact r
  obtain ⟨vs, T, o1, n1, rv, hT, e1, e2, e3, hZ⟩ : ∃ (vs : List Value) (T : String) (o1 : Obj) (n1 : Nat), Vals ys vs ∧ (T = "list" ∨ T = "tuple") ∧ s.heap.get? l = some o1 ∧ o1.cls = .type T ∧ o1.data = .seq vs.toArray n1 ∧ ys.length ≤ sizeLine := by
    rcases hl with hl | hl
    · obtain ⟨vs, rv, pl, hZ⟩ := I.list hl
      obtain ⟨o, n, e1, e2, _, e3⟩ := pl
      exact ⟨vs, "list", o, n, rv, .inl rfl, e1, e2, e3, hZ⟩
    · obtain ⟨vs, rv, pl, hZ⟩ := I.tuple hl
      obtain ⟨o, e1, e2, n, e3⟩ := pl
      exact ⟨vs, "tuple", o, n, rv, .inr rfl, e1, e2, e3, hZ⟩
  have hlv : kz.length = vs.length := by rw [hlen, rv.length]
  have hZv : vs.length ≤ sizeLine := by rw [← rv.length]; exact hZ
  have hZ2 := hZv
  rw [sizeLine_eq] at hZ2
  show wpAny _ _ (call (.builtin "sorted") [.ref l] [(Str.ofString "key", .ref f)]) _ _ _
  refine call_function_entry_kw kind_sorted plain_sorted entry_sorted (ksk_s1 _ _) ?_
  unfold Builtin.«sorted»
  refine wpAny_bind (m := checkCount "sorted" 1 1 _) (wpAny_pure ?_)
  refine wpAny_bind (collect_any hT e1 e2 e3 ?_ hZv)
  refine wpAny_bind (wpAny_newList ?_ (by rw [sizeLine_eq]; omega))
  generalize hh1 : ((s.heap.push (seqObj "list" #[] 0)).update s.heap.objs.size (Obj.mapSeq (· ++ vs.toArray))) = h1
  have z1 : h1.objs.size = s.heap.objs.size + 1 := by rw [← hh1, Heap.size_update, size_push']
  have k1 : ∀ b o, s.heap.get? b = some o → h1.get? b = some o := fun b o q => by
    have lt := Heap.lt_size q
    rw [← hh1, Heap.get?_update_ne _ _ _ _ (Nat.ne_of_lt lt), Heap.get?_push_ne _ _ _ (Nat.ne_of_lt lt)]
    exact q
  show wpAny _ _ _ _ _ { s with heap := h1.push (seqObj "list" vs.toArray 0) }
  have k2 : ∀ b o, s.heap.get? b = some o → (h1.push (seqObj "list" vs.toArray 0)).get? b = some o := fun b o q => Heap.get?_push_of_some _ (k1 b o q)
  have g2 : (h1.push (seqObj "list" vs.toArray 0)).get? h1.objs.size = some (seqObj "list" vs.toArray 0) := Heap.get?_push_size _ rfl
  generalize ha0 : h1.objs.size = a0 at g2 ⊢
  generalize hh2 : h1.push (seqObj "list" vs.toArray 0) = h2 at g2 k2 ⊢
  have a0s : s.heap.objs.size ≤ a0 := by omega
  have z2 : h2.objs.size = a0 + 1 := by rw [← hh2, size_push', ha0]
  refine wpAny_bind (wpAny_holding (wpAny_call_entry_kw slot_list_sort ⟨_, g2, rfl⟩ entry_list_sort ?body (ksk_l1 _ _)))
  case body =>
    show wpAny _ X.A.in1.in1 (Builtin.«list.sort» ⟨[.ref a0], [(Str.ofString "key", .ref f)]⟩) _ _ _
    rw [ksk_t1]
    unfold ksk_tree
    have sb3 := Heap.SameBut.update h2 a0 (Obj.mapSeq fun _ => (#[] : Array Value))
    obtain ⟨e1, g3⟩ : ∃ e1, (h2.update a0 (Obj.mapSeq fun _ => (#[] : Array Value))).get? a0 = some (seqObj "list" #[] e1) := ⟨_, get?_update_seq g2 fun _ => #[]⟩
    have z3 : (h2.update a0 (Obj.mapSeq fun _ => (#[] : Array Value))).objs.size = a0 + 1 := by rw [Heap.size_update, z2]
    refine wpAny_bind (listItems_at g2 rfl ?_)
    refine wpAny_bind (listUpdate_at g2 rfl ?_ (by rw [List.size_toArray, sizeLine_eq]; omega) (Nat.zero_le _))
    refine wpAny_bind (seqEpoch_at g3 rfl ?_)
    have k3 : ∀ b o, s.heap.get? b = some o → (h2.update a0 (Obj.mapSeq fun _ => (#[] : Array Value))).get? b = some o := fun b o q =>
      (sb3.2 b (Nat.ne_of_lt (Nat.lt_of_lt_of_le (Heap.lt_size q) a0s))).trans (k2 b o q)
    generalize h2.update a0 (Obj.mapSeq fun _ => (#[] : Array Value)) = h3 at g3 k3 z3
    refine wpAny_bind (wpAny_newTuple ?_ (by show vs.length ≤ _; rw [sizeLine_eq]; omega))
    refine wpAny_bind (wpAny_newList ?_ (Nat.zero_le _))
    refine wpAny_holding ?_
    have z4 : (h3.push (seqObj "tuple" vs.toArray 0)).objs.size = a0 + 2 := by rw [size_push', z3]
    have k5 : ∀ b o, h3.get? b = some o → ((h3.push (seqObj "tuple" vs.toArray 0)).push (seqObj "list" #[] 0)).get? b = some o := fun b o q => Heap.get?_push_of_some _ (Heap.get?_push_of_some _ q)
    have gk : ((h3.push (seqObj "tuple" vs.toArray 0)).push (seqObj "list" #[] 0)).get? (h3.push (seqObj "tuple" vs.toArray 0)).objs.size = some (seqObj "list" #[] 0) := Heap.get?_push_size _ rfl
    have ga := k5 _ _ g3
    generalize hkS : (h3.push (seqObj "tuple" vs.toArray 0)).objs.size = kS at gk
    have hkS2 : kS = a0 + 2 := by rw [← hkS]; exact z4
    have h5k : ∀ b o, s.heap.get? b = some o → ((h3.push (seqObj "tuple" vs.toArray 0)).push (seqObj "list" #[] 0)).get? b = some o := fun b o q => k5 b o (k3 b o q)
    show wpAny _ _ (ksk_rest a0 (.ref f) false vs.toArray e1 (.ref kS)) _ _ { s with heap := (h3.push (seqObj "tuple" vs.toArray 0)).push (seqObj "list" #[] 0) }
    generalize (h3.push (seqObj "tuple" vs.toArray 0)).push (seqObj "list" #[] 0) = h5 at gk ga h5k
    have I5 : Inv X pins σ H { s with heap := h5 } := I.kept (t' := s.toks) h5k
    have na : H a0 = none := I.hok.fresh a0s
    have nk : H kS = none := I.hok.fresh (by omega)
    have fa := I.fpOk a0s na
    have fk := I.fpOk (b := kS) (by omega) nk
    have hka : kS ≠ a0 := by omega
    obtain ⟨m, hm, _⟩ := I5.loc
    have nstk : ∀ b, FpOk X pins H b → b ∉ frs X.stack := fun b fb hb => by
      rcases List.mem_cons.mp (I.stkSub b hb) with z | z
      · exact fb.2.1 z
      · exact fb.2.2.1 z
    have nsOne : ∀ {g : Heap} {m1 m2 : Str → Option Value}, g.Ns X.env.locals m1 → g.Ns X.env.locals m2 → m1 = m2 := by
      rintro g m1 m2 ⟨o, es, ep, q1, q2, _, q3⟩ ⟨o', es', ep', r1, r2, _, r3⟩
      rw [q1] at r1
      cases r1
      rw [q2] at r2
      cases r2
      funext y
      rw [← q3, ← r3]
    refine sortkey_rest (kz := kz) (m := m) (L := X.env.locals) (fun s' => Inv X pins σ H s' ∧ s'.heap.Ns X.env.locals m) fk.2.1 fa.2.1 hka hlv hZv ⟨I5, hm⟩ (fun s' q => q.2) gk ga (fun s' g q => ?_) (fun i v n hv hn s' q => ?_)
      fun s' h' tk out c q n1 n2 n3 n4 => ?_
    · have sb := Heap.SameBut.update s'.heap kS (Obj.mapSeq g)
      refine ⟨q.1.turned (t' := s'.toks) (fun b o hb e => (sb.2 b hb).trans e) nk fk.2.1 fk.2.2.2.1 fk.2.2.2.2.1 fk.2.2.2.2.2, ?_⟩
      exact q.2.sameBut sb (Ne.symm fk.2.1)
    · obtain ⟨I', hm'⟩ := q
      obtain ⟨y, hy⟩ : ∃ y, ys[i]? = some y := by
        cases e : ys[i]? with
        | some y => exact ⟨y, rfl⟩
        | none =>
          rw [rv.none_of e] at hv
          cases hv
      obtain ⟨v2, hv2, ry⟩ := rv.get hy
      rw [hv] at hv2
      cases hv2
      have e0 := I'.env0.in1.in1
      have room : Room k X.A.in1.in1 := (((hr.mono (show k + 2 ≤ k + 3 by omega)).in1).in1).mono (Nat.le_refl _)
      have run := hkey X.A.in1.in1 X.stack s' i y n v room e0 hy hn ry
      refine wpAny_call (codeAny_mono run fun r s2 hq2 => ?_)
      cases r with
      | error e => exact False.elim hq2
      | ok fl =>
        cases fl with
        | ret u =>
          have hq3 : CE X.stack X.prog X.w H s' (fun r H' => r = .int n ∧ H' = H) u s2 := hq2
          have un := hq3
          obtain ⟨_, _, _, _, un, _⟩ := un
          obtain ⟨w2, H2, I2, r2, rfl, rfl⟩ := I'.after hq3
          obtain ⟨t, rfl⟩ := (show ∃ t, u = Value.int n t from r2)
          refine ⟨t, rfl, ⟨I2, ?_⟩, fun o e => un.keep kS o e nk (nstk kS fk) (by simp), fun o e => un.keep a0 o e na (nstk a0 fa) (by simp)⟩
          obtain ⟨o, es, ep, ho, hd, hs, hf'⟩ := hm'
          by_cases hL : X.env.locals ∈ frs X.stack
          · obtain ⟨sl, e2⟩ := un.slot _ o ho I'.free hL (by simp)
            exact ⟨_, es, ep, e2, hd, hs, hf'⟩
          · exact ⟨o, es, ep, un.keep _ o ho I'.free hL (by simp), hd, hs, hf'⟩
        | next => exact False.elim hq2
        | brk => exact False.elim hq2
        | cont => exact False.elim hq2
    · obtain ⟨I', hm'⟩ := q
      have rout : Vals (sortV kz ys) out.toList := out_sorted rv hlv n4
      have ex : ∀ b o, b ≠ X.env.locals → b ∉ [kS, a0] → s'.heap.get? b = some o → h'.get? b = some o := fun b o b1 b2 e => by
        simp only [List.mem_cons, List.not_mem_nil, or_false, not_or] at b2
        exact n2 b o b1 b2.1 b2.2 e
      have tr : ∀ b u, H b = some u → b ≠ a0 := fun b u e z => by rw [z, na] at e; cases e
      have up : ∀ b u, H b = some u → upd H a0 (.lst (sortV kz ys)) b = some u := fun b u e => by rw [upd_ne (tr b u e)]; exact e
      have off : ∀ b u, H b = some u → b ≠ X.env.locals ∧ b ∉ [kS, a0] := fun b u e => by
        refine ⟨fun z => ?_, fun z => ?_⟩
        · rw [z, I'.free] at e
          cases e
        · simp only [List.mem_cons, List.not_mem_nil, or_false] at z
          rcases z with z | z
          · rw [z, nk] at e
            cases e
          · exact tr b u e z
      refine ⟨_, rfl, ?_⟩
      refine wpAny_pure ⟨_, rfl, .ref a0, upd H a0 (.lst (sortV kz ys)), ?_, rfl, hq a0 na⟩
      refine I'.step (g' := s'.gens) (d' := s'.drawn) (t' := tk) (h' := h') (ch := [kS, a0]) (fun b hb => ?_) (fun b o b1 _ b3 e _ => ex b o b1 b3 e) (fun b o b1 _ b3 e _ => ⟨o.slots, ex b o b1 b3 e⟩)
        (fun b o b3 e n => ?_) (fun b o b3 e => ?_) (fun b u e => up b _ e) (fun b o u e => up b _ e) (fun b ps e => ⟨#[], by rw [up b _ e]; simp⟩) (fun m' hm2 => ?_) (fun b u e => ?_) I'.bare
      · simp only [List.mem_cons, List.not_mem_nil, or_false] at hb
        rcases hb with rfl | rfl
        · exact ⟨fk.2.2.2.1, fk.2.1, fk.2.2.2.2.1, fk.2.2.2.2.2⟩
        · exact ⟨fa.2.2.2.1, fa.2.1, fa.2.2.2.2.1, fa.2.2.2.2.2⟩
      · simp only [List.mem_cons, List.not_mem_nil, or_false, not_or] at b3
        rw [upd_ne b3.2]
        exact n
      · by_cases bL : b = X.env.locals
        · rw [bL]
          obtain ⟨o', _, _, q, _⟩ := n1
          exact ⟨o', q⟩
        · exact ⟨o, ex b o bL b3 e⟩
      · rw [nsOne hm2 hm']
        exact n1
      · by_cases hb : b = a0
        · subst hb
          rw [upd_same] at e
          cases e
          have el : (sortV kz ys).length ≤ sizeLine := by
            rw [sortV_length hlen]
            exact hZ
          exact ⟨el, out.toList, c, rout, by rw [n3]⟩
        · rw [upd_ne hb] at e
          refine (I'.hok b u e).stay (fun d v hd q => ?_) (fun d q => up d _ q) fun d xs q => up d _ q
          rcases hd with rfl | hd
          · exact ex _ v (off _ _ e).1 (off _ _ e).2 q
          · exact ex _ v (off _ _ hd).1 (off _ _ hd).2 q
end
end Sho
set_option Elab.async false
set_option linter.all false
set_option maxRecDepth 100000
set_option maxHeartbeats 4000000
namespace Sh1
open PySem L2 Sho NdefX Shg
abbrev qBot : Str := "bottom_up.<locals>.<lambda>"
theorem sql_grows {K : PySem.W.Frag} {H H' : Hp} {a : Addr} {xs : List V} (e : LamX.ExtN H H') (h : SqL K H a xs) : SqL K H' a xs := by
  rcases h with (h | ⟨o, h⟩) | h
  · exact .inl (.inl (e _ _ h fun _ z => nomatch z))
  · exact .inl (.inr ⟨o, e _ _ h fun _ z => nomatch z⟩)
  · exact .inr h
theorem sqt_grows {K : PySem.W.Frag} {H H' : Hp} {a : Addr} {xs : List V} (e : LamX.ExtN H H') (h : SqT K H a xs) : SqT K H' a xs := by
  rcases h with (h | ⟨o, h⟩) | h
  · exact .inl (.inl (e _ _ h fun _ z => nomatch z))
  · exact .inl (.inr ⟨o, e _ _ h fun _ z => nomatch z⟩)
  · exact .inr h
/-- a key lambda: its tuple's item j -/
theorem key_item {P : Program} {w : World} {K : PySem.W.Frag} {mg : Str → Option Value} {base : Heap} {Z : LF} {f : Addr} {H : Hp} {j : Nat} {x : Str} (l : LamAt H f Z) (S : NScope [x] [x] [] Z.F.scope) (hcl : Z.F.cl = []) (hb : ∀ (pm ctv u : Value), bindArgs (Z.fd pm ctv) ⟨[u], []⟩ = pure [(x, u)])
    (body : ∀ (A : Around) (outer : List Env) (s : Shared), PE (lcx CX0 P w K mg base [x] Z f A outer s H E0) Z.e (tOp (rIxT K) (tVar 0) (tC (.int (j : Int)))))
    {A : Around} {outer : List Env} {s : Shared} {v : V} {n : Int} {u : Value} (hr : Room 1 A) (e0 : Env0 P w K mg base A outer s H) (hv : ∃ t ws, v = .ref t ∧ H t = some (.tup ws) ∧ ws[j]? = some (.int n)) (ru : RelV v u) :
    codeAny (model P w) A (.call (.ref f) ⟨[u], []⟩) (CR CX0 outer P w H s (fun r H' => r = .int n ∧ H' = H) E0) s := by
  obtain ⟨pm, ctv, ho⟩ := lamO_at e0.hok l.o
  obtain ⟨t, ws, rfl, ht, hw⟩ := hv
  have C : CellsAt Z.F.cl [] [] s.heap H := by
    rw [hcl]
    exact ⟨rfl, fun _ _ e => (nomatch e), fun _ _ _ e => (nomatch e), fun i y e => (nomatch e)⟩
  refine lam_call (ps := [x]) (us := [u]) (vs := [.ref t]) S hr e0 ho (codeO_at e0.hok l.c) (.of_eq (hb pm ctv u)) rfl C (.cons ru .nil) (fun _ => body A outer s) ?_
  exact ⟨_, rfl, t, ws, _, .int n, rfl, rfl, SqT.of ht, atI_nat hw, rfl, rfl⟩
section
variable {P : Program} {w : World} {K : PySem.W.Frag} {mg : Str → Option Value} {base : Heap}
def spBottom (K : PySem.W.Frag) (T : List (Addr × Str)) : Sp := fun vs H Q _ => ∃ (a : Addr) (ys : List V) (kz : List Int), vs = [.ref a] ∧ (SqL K H a ys ∨ SqT K H a ys) ∧ kz.length = ys.length ∧
  (∀ (i : Nat) (v : V) (n : Int), ys[i]? = some v → kz[i]? = some n → ∃ t ws, v = .ref t ∧ H t = some (.tup ws) ∧ ws[1]? = some (.int n)) ∧ LamX.Tabs T H ∧
  ∀ p H', Grows T H H' → H' p = some (.lst (sortV kz ys)) → Q (.ref p) H'
theorem scBottom : FnScope ["stays"] ["stays"] (defScope sBottomUp) := ⟨rfl, rfl, rfl, by decide +kernel, rfl, by decide +kernel, by decide +kernel⟩
theorem ok_bottom {f c TP : Addr} {fd : FuncData} {T : List (Addr × Str)} (F : Shg.FunL K "bottom_up" "bottom_up" sBottomUp f c fd) (B : Shg.Blt mg) (TB : LamX.TabB base mg c TP) (hm : (TP, qBot) ∈ T) (hu : ∀ p ∈ T, p.1 = TP → p.2 = qBot) :
    FnOk P w K mg base CX0 5 f fd ["stays"] (spBottom K T) := by
  refine Shg.FunL.ok0 F scBottom (fun vs H Q E h => ?_) (fun A outer s H vs Q E hr h => ?_)
  · obtain ⟨a, ys, kz, rfl, _⟩ := h
    rfl
  · obtain ⟨a, ys, kz, rfl, ha, hl, hk, hT, k⟩ := h
    refine ⟨_, pss_one (ps_ret (pe_callBK (cr_sortedLam (k := 1) hr) (by rfl) B.sorted (by decide +kernel) (pa_cons (pv 0) pa_nil) (pk_cons (pe_lam TB rfl hm hu (Shg.free_by (os := (defScope sBottomUp).names) (by decide +kernel))) pk_nil))), ?_⟩
    refine ⟨_, rfl, hT, fun f0 c0 H1 G1 n0 l0 => ⟨a, f0, _, ys, kz, rfl, rfl, ha.imp (sql_grows G1.ext) (sqt_grows G1.ext), l0, hl, fun A' outer' s' i v n u hr' e0 hv hn ru => ?_, fun p hp => ?_⟩⟩
    · obtain ⟨t, ws, e, ht, hw⟩ := hk i v n hv hn
      exact key_item (j := 1) l0 (nscope_by (sc := Shg.scL [("stay", .local)]) (by decide +kernel)) rfl (fun _ _ _ => rfl) (fun A outer s => pe_ix ix_tup (pv 0) pe_int (fun _ _ => rfl)) hr' e0 ⟨t, ws, e, G1.ext _ _ ht (fun _ z => nomatch z), hw⟩ ru
    · exact k p _ (G1.trans (Grows.upd hp)) upd_same
end
end Sh1
set_option Elab.async false
set_option linter.all false
set_option maxRecDepth 100000
set_option maxHeartbeats 2000000
/-! Answers of readings that stand in every law. -/
namespace Shg
open PySem L2 Sho NdefX
/-- a op b op c of ints -/
theorem chainI {f g : Int → Int → Bool} {ta tb tc : TE} {σ : L2.St} {H : Hp} {R : Bool → Hp → Prop} (i j k : Int) (h1 : ∀ Q : VK, Q (.int i) H → ta σ H Q) (h2 : ∀ Q : VK, Q (.int j) H → tb σ H Q) (h3 : ∀ Q : VK, Q (.int k) H → tc σ H Q) (h : R (f i j && g j k) H) :
    tTest (tChain (rI0 fun i j => .bl (f i j)) (rI0 fun i j => .bl (g i j)) ta tb tc) σ H R := by
  refine h1 _ (h2 _ ⟨i, j, rfl, rfl, f i j, rfl, ?_⟩)
  cases e : f i j with
  | false =>
    rw [if_neg Bool.false_ne_true]
    rw [e] at h
    exact ⟨_, rfl, h⟩
  | true =>
    rw [if_pos rfl]
    rw [e] at h
    exact h3 _ ⟨j, k, rfl, rfl, _, rfl, h⟩
theorem chainN {f g : Int → Int → Bool} {ta tb tc : TE} {σ : L2.St} {H : Hp} {R : Bool → Hp → Prop} (i j k : Int) (h1 : ∀ Q : VK, Q (.int i) H → ta σ H Q) (h2 : ∀ Q : VK, Q (.int j) H → tb σ H Q) (h3 : ∀ Q : VK, Q (.int k) H → tc σ H Q) (h : R (!(f i j && g j k)) H) :
    tNot (tTest (tChain (rI0 fun i j => .bl (f i j)) (rI0 fun i j => .bl (g i j)) ta tb tc)) σ H R := chainI (R := fun b H' => R (!b) H') i j k h1 h2 h3 h
/-- a, b = x, y: what is known of x -/
theorem par_rel {i j : Nat} {te : TE} {tr : TA} {u : TS} {D : Ends} {σ : L2.St} {H : Hp} (P : V → Hp → Prop) (h1 : ∀ R : VK, (∀ v H', P v H' → R v H') → te σ H R)
    (h2 : ∀ v H', P v H' → tr σ H' fun ws H2 => ∃ v1 w, v :: ws = [v1, w] ∧ u D ((σ.set i (some v1)).set j (some w)) H2) : tSeq (tPar i j (tCons te tr)) u D σ H := h1 _ h2
/-- paired place by place -/
theorem pair_of {α β : Type} {R : α → β → Prop} : ∀ {as : List α} {bs : List β}, as.length = bs.length → (∀ (i : Nat) a b, as[i]? = some a → bs[i]? = some b → R a b) → PySem.Paired R as bs
  | [], [], _, _ => .nil
  | [], _ :: _, h, _ => by simp at h
  | _ :: _, [], h, _ => by simp at h
  | a :: as, b :: bs, h, k => .cons (k 0 a b rfl rfl) (pair_of (by simpa using h) fun i x y hx hy => k (i + 1) x y hx hy)
end Shg
set_option Elab.async false
set_option linter.all false
set_option maxRecDepth 100000
set_option maxHeartbeats 8000000
set_option autoImplicit false
/-! _ways_to_go. -/
namespace Go
open PySem L2 Sho NdefX Shg Sh1
abbrev NWG : List Str := ["comings", "goings", "records", "piles", "before", "index", "tick", "came", "seen", "name", "come", "pile", "told", "kind", "at", "fact"]
/-- in a list that rises by f, those below g: those below b, then those between -/
theorem filter_split {α : Type} (f : α → Int) {b g : Int} (hbg : b ≤ g) : ∀ {l : List α}, l.Pairwise (fun x y => f x ≤ f y) → l.filter (fun x => decide (f x < g)) = l.filter (fun x => decide (f x < b)) ++ l.filter (fun x => decide (b ≤ f x) && decide (f x < g))
  | [], _ => rfl
  | x :: l, h => by
    rw [List.pairwise_cons] at h
    have ih := filter_split f hbg h.2
    by_cases c : f x < b
    · rw [List.filter_cons_of_pos (by simp; omega), List.filter_cons_of_pos (by simp; omega), List.filter_cons_of_neg (by simp; omega), ih]
      rfl
    · have none : l.filter (fun y => decide (f y < b)) = [] := by
        rw [List.filter_eq_nil_iff]
        intro y hy
        have := h.1 y hy
        simp
        omega
      rw [none, List.nil_append] at ih
      by_cases c2 : f x < g
      · rw [List.filter_cons_of_pos (by simp; omega), List.filter_cons_of_neg (by simp; omega), List.filter_cons_of_pos (by simp; omega), none, ih]
        rfl
      · rw [List.filter_cons_of_neg (by simp; omega), List.filter_cons_of_neg (by simp; omega), List.filter_cons_of_neg (by simp; omega), none, ih]
        rfl
/-! ### the comings in their order -/
theorem insK_rel {α β : Type} {R : α → β → Prop} {p : Int × α} {q : Int × β} (h : p.1 = q.1 ∧ R p.2 q.2) : ∀ {l : List (Int × α)} {l' : List (Int × β)}, PySem.Paired (fun a b => a.1 = b.1 ∧ R a.2 b.2) l l' → PySem.Paired (fun a b => a.1 = b.1 ∧ R a.2 b.2) (insK p l) (insK q l')
  | _, _, .nil => .cons h .nil
  | _, _, .cons (a := a) (b := b) k r => by
    unfold insK
    by_cases c : p.1 ≤ a.1
    · rw [if_pos c, if_pos (by rw [← h.1, ← k.1]; exact c)]
      exact .cons h (.cons k r)
    · rw [if_neg c, if_neg (by rw [← h.1, ← k.1]; exact c)]
      exact .cons k (insK_rel h r)
theorem sortK_rel {α β : Type} {R : α → β → Prop} : ∀ {l : List (Int × α)} {l' : List (Int × β)}, PySem.Paired (fun a b => a.1 = b.1 ∧ R a.2 b.2) l l' → PySem.Paired (fun a b => a.1 = b.1 ∧ R a.2 b.2) (sortK l) (sortK l')
  | _, _, .nil => .nil
  | _, _, .cons k r => insK_rel k (sortK_rel r)
theorem zip_rel {α β : Type} {R : α → β → Prop} (f : β → Int) : ∀ {ws : List α} {cs : List β}, PySem.Paired R ws cs → PySem.Paired (fun (a : Int × α) (b : Int × β) => a.1 = b.1 ∧ R a.2 b.2) ((cs.map f).zip ws) ((cs.map f).zip cs)
  | _, _, .nil => .nil
  | _, _, .cons k r => .cons ⟨rfl, k⟩ (zip_rel f r)
theorem map_rel {α β : Type} {R : α → β → Prop} : ∀ {l : List (Int × α)} {l' : List (Int × β)}, PySem.Paired (fun a b => a.1 = b.1 ∧ R a.2 b.2) l l' → PySem.Paired R (l.map Prod.snd) (l'.map Prod.snd)
  | _, _, .nil => .nil
  | _, _, .cons k r => .cons k.2 (map_rel r)
abbrev sb (cs : List (Str × Int)) : List (Str × Int) := sortV (cs.map fun c => c.2) cs
theorem sb_rel {α : Type} {R : α → Str × Int → Prop} {ws : List α} {cs : List (Str × Int)} (h : PySem.Paired R ws cs) : PySem.Paired R (sortV (cs.map fun c => c.2) ws) (sb cs) := map_rel (sortK_rel (zip_rel (fun c => c.2) h))
theorem zip_self (cs : List (Str × Int)) : ((cs.map fun c => c.2).zip cs).map Prod.snd = cs ∧ ∀ q ∈ (cs.map fun c => c.2).zip cs, q.1 = q.2.2 := by
  induction cs with
  | nil => exact ⟨rfl, fun q hq => nomatch hq⟩
  | cons c r ih =>
    refine ⟨by rw [List.map_cons, List.zip_cons_cons, List.map_cons, ih.1], fun q hq => ?_⟩
    rw [List.map_cons, List.zip_cons_cons] at hq
    rcases List.mem_cons.mp hq with rfl | hq
    · rfl
    · exact ih.2 q hq
theorem sb_perm (cs : List (Str × Int)) : (sb cs).Perm cs := by
  have := (sortK_perm ((cs.map fun c => c.2).zip cs)).map Prod.snd
  rw [(zip_self cs).1] at this
  exact this
theorem sb_sorted (cs : List (Str × Int)) : (sb cs).Pairwise (fun a b => a.2 ≤ b.2) := by
  unfold sb sortV
  rw [List.pairwise_map]
  refine List.Pairwise.imp_of_mem (fun {a b} ha hb h => ?_) (sortK_pair ((cs.map fun c => c.2).zip cs))
  have e1 := (zip_self cs).2 a ((sortK_perm _).mem_iff.mp ha)
  have e2 := (zip_self cs).2 b ((sortK_perm _).mem_iff.mp hb)
  rw [← e1, ← e2]
  exact h
/-- the names of those who came before a tick, as they stand on the pile -/
abbrev nmB (cs : List (Str × Int)) (t : Int) : List Str := ((sb cs).filter fun c => decide (c.2 < t)).map fun c => c.1
abbrev came9 (cs : List (Str × Int)) (b g : Int) : List Str := ((sb cs).filter fun c => decide (b ≤ c.2) && decide (c.2 < g)).map fun c => c.1
theorem nmB_split (cs : List (Str × Int)) {b g : Int} (h : b ≤ g) : nmB cs g = nmB cs b ++ came9 cs b g := by
  unfold nmB came9
  rw [filter_split (fun c : Str × Int => c.2) h (sb_sorted cs), List.map_append]
theorem nmB_len (cs : List (Str × Int)) (t : Int) : (nmB cs t).length = (cs.filter fun c => decide (c.2 < t)).length := by
  unfold nmB
  rw [List.length_map]
  exact ((sb_perm cs).filter _).length_eq
theorem nmB_le (cs : List (Str × Int)) (t : Int) : (nmB cs t).length ≤ cs.length := by
  rw [nmB_len]
  exact List.length_filter_le _ _
/-- the comprehension's loop -/
theorem dcT_it {J : It} {n : Nat} {G : Hp → Prop} {Y : Nat → Hp → V → Hp → Prop} (w : Walk J n G Y) {g : TG} {tt : TT} {tk tv : TE} {vs : List Nat} {σ : L2.St} {H1 : Hp} {D : Addr} {Qd : Hp → Prop} (Pv : Nat → Hp → Prop) (h0 : Pv 0 (upd H1 D (.dT []))) (hG : ∀ i H, i ≤ n → Pv i H → G H)
    (hs : ∀ i x H H', i < n → Pv i H → Y i H x H' → g x (wipe σ vs) H' fun σ2 H2 => wipe σ2 vs = wipe σ vs ∧ tt σ2 H2 fun b H3 => if b = true then tk σ2 H3 fun y H4 => tv σ2 H4 fun z H5 => ∃ kvs k q, y = V.ref q ∧ H5 q = some (.tup (k.map kV)) ∧ H5 D = some (.dT kvs) ∧ kvs.length < sizeLine ∧ Pv (i + 1) (upd H5 D (.dT (putK kvs k z))) else Pv (i + 1) H3)
    (hd : ∀ H, Pv n H → Qd H) :
    ∃ W : Nat → Nat → Hp → Prop, (∃ m, W 0 m (upd H1 D (.dT []))) ∧ ∀ i m H, W i m H →
      (J.stop i H ∧ Qd H) ∨ (J.go i H ∧ ∃ Nx : Hp → Prop, (∀ H', Nx H' → ∃ m', m' < m ∧ W (i + 1) m' H') ∧ ∀ x H', J.yld i H x H' → g x (wipe σ vs) H' fun σ2 H2 => wipe σ2 vs = wipe σ vs ∧ tt σ2 H2 fun b H3 =>
        if b = true then tk σ2 H3 fun y H4 => tv σ2 H4 fun z H5 => ∃ kvs k q, y = V.ref q ∧ H5 q = some (.tup (k.map kV)) ∧ H5 D = some (.dT kvs) ∧ kvs.length < sizeLine ∧ Nx (upd H5 D (.dT (putK kvs k z))) else Nx H3) := by
  refine ⟨fun i m H => m = n - i ∧ i ≤ n ∧ Pv i H, ⟨n, by simp, Nat.zero_le _, h0⟩, ?_⟩
  rintro i m H ⟨rfl, hi, p⟩
  have q := hG i H hi p
  by_cases lt : i < n
  · exact .inr ⟨w.goes i H lt q, Pv (i + 1), fun H' p' => ⟨n - (i + 1), by omega, rfl, lt, p'⟩, fun x H' y => hs i x H H' lt p (w.yields i H x H' lt q y)⟩
  · obtain rfl : i = n := by omega
    exact .inl ⟨w.stops H q, hd H p⟩
section
variable {P : Program} {w : World} {K : PySem.W.Frag} {mg : Str → Option Value} {base : Heap}
theorem scWays : FnScope NWG ["comings", "goings", "records"] (defScope sWaysToGo) := ⟨rfl, rfl, rfl, by decide +kernel, rfl, by decide +kernel, by decide +kernel⟩
/-- what is asked of comings and goings -/
structure Valid9 (cs : List (Str × Int)) (gs : List Int) : Prop where
  few : cs.length ≤ 10
  late : ∀ c ∈ cs, 0 ≤ c.2
  rise : ∀ i g h, gs[i]? = some g → gs[i + 1]? = some h → g < h
  in_ : ∀ i g, gs[i]? = some g → 0 ≤ g ∧ i < (cs.filter fun c => decide (c.2 < g)).length
  all : gs.length = cs.length
def spWays (T : List (Addr × Str)) : Sp := fun vs H Q _ => ∃ (Cm Gm Rc : Addr) (ws : List V) (cs : List (Str × Int)) (gs : List Int), vs = [.ref Cm, .ref Gm, .ref Rc] ∧ H Cm = some (.tup ws) ∧ PySem.Paired (fun v (c : Str × Int) => ∃ t, v = .ref t ∧ H t = some (.tup [.str c.1, .int c.2])) ws cs ∧ H Gm = some (.tup (gs.map V.int)) ∧ H Rc = some (.lst []) ∧ Valid9 cs gs ∧ LamX.Tabs T H ∧
  ∀ (p wv : Addr) (c : Int) H', Grows T H H' → 1 ≤ c → H' p = some (.tup [.int c, .ref wv]) → Q (.ref p) H'
theorem ok_ways {f fT fA : Addr} {fd fdT fdA : FuncData} {T : List (Addr × Str)} (F : Fun K "_ways_to_go" "_ways_to_go" sWaysToGo f fd) (B : Shg.Blt mg)
    (GT : FnOk P w K mg base CX0 5 fT fdT ["stays"] (spBottom K T)) (mT : mg "bottom_up" = some (.ref fT)) (kT : PySem.W.keepIn K (.ref fT) = true) (bT : Binds K fdT ["stays"] [])
    (GA : FnOk P w K mg base CX0 1 fA fdA ["piles", "seen"] spAfterG) (mA : mg "_after_going" = some (.ref fA)) (kA : PySem.W.keepIn K (.ref fA) = true) (bA : Binds K fdA ["piles", "seen"] []) :
    FnOk P w K mg base CX0 6 f fd ["comings", "goings", "records"] (spWays T) := by
  refine F.ok scWays (fun vs H Q E h => ?_) (fun cdv A outer s H vs Q E hr h => ?_)
  · obtain ⟨Cm, Gm, Rc, ws, cs, gs, rfl, _⟩ := h
    rfl
  · obtain ⟨Cm, Gm, Rc, ws, cs, gs, rfl, hC, pC, hG, hR, va, hT, kk⟩ := h
    have nd := scWays.nd
    refine ⟨_, (pss_cons (ps_set (i := 3) nd rfl (Or.inl rfl) (pe_disp1T (Nat.lt_of_le_of_lt (Nat.le_add_right _ _) hr.units) (pe_tup pa_nil) (pe_tup (pa_cons pe_int (pa_cons (pe_tup pa_nil) pa_nil)))))
      (pss_cons (ps_set (i := 4) nd rfl (Or.inr rfl) pe_int)
      (pss_cons (ps_for PassesOwn.never rfl (pi_enumT (by rfl) B.enum (pa_cons (pv 1) pa_nil)) (pg_tup rfl (pgs_cons (pg_name (i := 5) nd rfl (Or.inr rfl)) (pgs_cons (pg_name (i := 6) nd rfl (Or.inr rfl)) pgs_nil))) (pss_cons (ps_set (i := 7) nd rfl (Or.inr rfl) (pe_callTy call_tuple_of (by rfl) B.tuple (by decide +kernel) (pa_cons (pe_lc (own := [("name", 9), ("come", 10)]) (g := gTup K 2 (gCons (gName 9) (gCons (gName 10) gNil))) (tt := tTest (tChain (rI0 fun i j => .bl (decide (i ≤ j))) (rI0 fun i j => .bl (decide (i < j))) (tVar 4) (tVar 10) (tVar 6))) (te := tVar 9) rfl nd (pi_list (pe_call GT (hr.mono (by decide)) rfl mT kT bT .nil pass0 (pa_cons (pv 0) pa_nil))) (blkOk_by (own := [("name", 9), ("come", 10)]) (N := NWG) (sc := defScope sWaysToGo) (by decide +kernel))
        (fun _ _ _ _ _ => (pg_tup rfl (pgs_cons (pg_name (i := 9) nd rfl (Or.inl rfl)) (pgs_cons (pg_name (i := 10) nd rfl (Or.inl rfl)) pgs_nil)))) (fun _ _ _ _ _ => pts_one (pt_chain op_le op_lt (pv 4) (pv 10) (pv 6))) (fun _ _ _ _ _ => (pv 9))) pa_nil)))
      (pss_cons (ps_lock (ps_setDcT (i := 3) (own := [("pile", 11), ("told", 12)]) (g := gTup K 2 (gCons (gName 11) (gCons (gName 12) gNil))) (tt := tYes) (tk := tOp (rCatA K) (tVar 11) (tVar 7)) (tv := tVar 12) (Nat.lt_of_le_of_lt (Nat.le_add_right _ _) hr.units) rfl nd rfl rfl (swD_true rfl rfl rfl (by decide +kernel)) (pi_itemsT (pv 3)) (blkOk_by (own := [("pile", 11), ("told", 12)]) (N := NWG) (sc := defScope sWaysToGo) (by decide +kernel))
        (fun _ _ _ _ _ => (pg_tup rfl (pgs_cons (pg_name (i := 11) nd rfl (Or.inl rfl)) (pgs_cons (pg_name (i := 12) nd rfl (Or.inl rfl)) pgs_nil)))) (fun _ _ _ _ _ => pts_nil) (fun _ _ _ _ _ => (pe_op op_catA (pv 11) (pv 7))) (fun _ _ _ _ _ => (pv 12))))
      (pss_cons (ps_setDcT (i := 8) (own := [("kind", 13), ("at", 14), ("fact", 15)]) (g := gTup K 3 (gCons (gName 13) (gCons (gName 14) (gCons (gName 15) gNil)))) (tt := tTest (tOp rEq (tVar 14) (tVar 5))) (tk := tTup (tCons (tVar 13) (tCons (tVar 15) tNil))) (tv := tC (.bl true)) (Nat.lt_of_le_of_lt (Nat.le_add_right _ _) hr.units) rfl nd rfl rfl (swD_true rfl rfl rfl (by decide +kernel)) (pi_list (pv 2)) (blkOk_by (own := [("kind", 13), ("at", 14), ("fact", 15)]) (N := NWG) (sc := defScope sWaysToGo) (by decide +kernel))
        (fun _ _ _ _ _ => (pg_tup rfl (pgs_cons (pg_name (i := 13) nd rfl (Or.inl rfl)) (pgs_cons (pg_name (i := 14) nd rfl (Or.inl rfl)) (pgs_cons (pg_name (i := 15) nd rfl (Or.inl rfl)) pgs_nil))))) (fun _ _ _ _ _ => pts_one (pt_cmpR op_eq (pv 14) (pv 5) (nomark _))) (fun _ _ _ _ _ => (pe_tup (pa_cons (pv 13) (pa_cons (pv 15) pa_nil)))) (fun _ _ _ _ _ => pe_bl))
      (pss_cons (ps_set (i := 3) nd rfl (Or.inl rfl) (pe_call GA (hr.mono (by decide)) rfl mA kA bA .nil pass0 (pa_cons (pv 3) (pa_cons (pv 8) pa_nil))))
      (pss_one (ps_set (i := 4) nd rfl (Or.inr rfl) (pv 6))))))))
      (pss_one (ps_ret (pe_dget2 (hu_of hr) (pv 3) (pe_tup pa_nil) (pe_tup (pa_cons pe_int (pa_cons (pe_tup pa_nil) pa_nil))) ⟨rfl, rfl, rfl, rfl⟩)))))), ?_⟩
    have lC := Shg.pair_len pC
    -- the first dict
    refine fun Dp hDp => ⟨Nat.zero_le _, fun k0 hk0 => ⟨Nat.zero_le _, fun w0 hw0 => ⟨by show 2 ≤ sizeLine; decide, fun t0 ht0 => ?_⟩⟩⟩
    have a0 := same_upd (o := .tup []) hk0
    have a1 := same_upd (o := .tup []) hw0
    have a2 := same_upd (o := .tup [.int 1, .ref w0]) ht0
    have eD := (a0.trans (a1.trans a2)) _ _ (upd_same (H := H) (a := Dp) (o := .dT []))
    have ek := (a1.trans a2) _ _ (upd_same (H := upd H Dp (.dT [])) (a := k0) (o := .tup []))
    have ew := a2 _ _ (upd_same (H := upd (upd H Dp (.dT [])) k0 (.tup [])) (a := w0) (o := .tup []))
    have et := upd_same (H := upd (upd (upd H Dp (.dT [])) k0 (.tup [])) w0 (.tup [])) (a := t0) (o := .tup [.int 1, .ref w0])
    have sH : ∀ b o, b ≠ Dp → H b = some o → (upd (upd (upd (upd H Dp (.dT [])) k0 (.tup [])) w0 (.tup [])) t0 (.tup [.int 1, .ref w0])) b = some o := fun b o n e => (a0.trans (a1.trans a2)) _ _ (by rw [upd_ne n]; exact e)
    generalize upd (upd (upd (upd H Dp (.dT [])) k0 (.tup [])) w0 (.tup [])) t0 (.tup [.int 1, .ref w0]) = Hc at *
    refine ⟨[], k0, rfl, ek, eD, name_of ?_⟩
    have s1 : Same H (upd Hc Dp (.dT [([], .ref t0)])) := fun b o e => by rw [upd_ne (ne_of_none e hDp)]; exact sH b o (ne_of_none e hDp) e
    have W1 : Ways (upd Hc Dp (.dT [([], .ref t0)])) 0 0 (nmB cs 0) [([], .ref t0)] := by
      have tp : ∀ b vs, Hc b = some (.tup vs) → (upd Hc Dp (.dT [([], .ref t0)])) b = some (.tup vs) := fun b vs e => by rw [upd_ne fun z => by rw [z, eD] at e; cases e]; exact e
      refine ⟨by simp, List.nodup_cons.mpr ⟨List.not_mem_nil, .nil⟩, fun p hp => ?_⟩
      rw [List.mem_singleton.mp hp]
      exact ⟨[], t0, w0, 1, [], rfl, rfl, List.nil_sublist _, tp _ _ et, by decide, tp _ _ ew, Nat.le_refl _⟩
    have eD1 : (upd Hc Dp (.dT [([], .ref t0)])) Dp = some (.dT [([], .ref t0)]) := upd_same
    generalize upd Hc Dp (.dT [([], .ref t0)]) = H1 at *
    have n0 : (nmB cs 0).length = 0 := by
      rw [nmB_len, List.length_eq_zero_iff, List.filter_eq_nil_iff]
      intro c hc
      have := va.late c hc
      simp
      omega
    refine name_of ?_
    refine ⟨_, rfl, Gm, _, rfl, SqT.of (s1 _ _ hG), for_it walk_enumT (fun i σ H2 => ∃ (D : Addr) (b : Int) (o5 o6 o7 o8 o9 o10 o11 o12 o13 o14 o15 : Option V) (kvs : List (List L2.Key × V)) (k : Nat), σ = [some (.ref Cm), some (.ref Gm), some (.ref Rc), some (.ref D), some (.int b), o5, o6, o7, o8, o9, o10, o11, o12, o13, o14, o15] ∧ Grows T H H2 ∧ H2 D = some (.dT kvs) ∧ Ways H2 k i (nmB cs b) kvs ∧ k + i = (nmB cs b).length ∧ (b = 0 ∧ i = 0 ∨ ∃ j, i = j + 1 ∧ gs[j]? = some b))
      ⟨Dp, 0, none, none, none, none, none, none, none, none, none, none, none, _, 0, rfl, ⟨LamX.ExtN.of s1, fun t => LamX.Tabs.ext t s1⟩, eD1, W1, by rw [n0], .inl ⟨rfl, rfl⟩⟩ (fun i σ H2 _ p => by obtain ⟨_, _, _, _, _, _, _, _, _, _, _, _, _, _, _, _, g, _⟩ := p; exact SqT.of (g.ext _ _ hG fun _ z => nomatch z)) ?_ ?_⟩
    · rintro i y σ H2' H2 hi ⟨D, b, o5, o6, o7, o8, o9, o10, o11, o12, o13, o14, o15, kvs, k, rfl, gr, eD2, W2, hk, hb⟩ ⟨T2, y1, y2, rfl, hT2, rfl, e1, e3⟩
      cases e1
      have e3 : (gs.map V.int)[i]? = some y2 := e3
      rw [List.getElem?_map] at e3
      obtain ⟨g, hg, rfl⟩ : ∃ g, gs[i]? = some g ∧ y2 = .int g := by
        cases e : gs[i]? with
        | none => rw [e] at e3; cases e3
        | some z => rw [e] at e3; cases e3; exact ⟨z, rfl, rfl⟩
      obtain ⟨g0, gin⟩ := va.in_ i g hg
      rw [← nmB_len] at gin
      have hbg : b ≤ g := by
        rcases hb with ⟨rfl, _⟩ | ⟨j, rfl, hj⟩
        · exact g0
        · exact Int.le_of_lt (va.rise j b g hj hg)
      have split := nmB_split cs hbg
      refine ⟨T2, _, rfl, SqT.of upd_same, rfl, _, _, rfl, _, _, rfl, rfl, ?_⟩
      have s3 := same_upd (o := .tup [.int (i : Nat), .int g]) hT2
      have gr3 : Grows T H (upd H2' T2 (.tup [.int (i : Nat), .int g])) := gr.trans ⟨LamX.ExtN.of s3, fun t => LamX.Tabs.ext t s3⟩
      have eD3 := s3 _ _ eD2
      have W3 : Ways (upd H2' T2 (.tup [.int (i : Nat), .int g])) k i (nmB cs b) kvs := ⟨W2.some, W2.nd, fun p hp => (W2.all p hp).keep fun b vs e => s3 _ _ e⟩
      generalize upd H2' T2 (.tup [.int (i : Nat), .int g]) = H3 at *
      have lS : (sortV (cs.map fun c => c.2) ws).length = (sb cs).length := Shg.pair_len (sb_rel pC)
      have lsb : (sb cs).length ≤ 10 := by
        rw [(sb_perm cs).length_eq]
        exact va.few
      -- those who came
      refine asg_rel (fun v H4 => Grows T H3 H4 ∧ ∃ cm, v = .ref cm ∧ H4 cm = some (.tup ((came9 cs b g).map V.str))) (fun R h => ?_) fun v H4 hv => name_at ?_
      · refine ⟨_, rfl, Cm, ws, cs.map (fun c => c.2), rfl, .inr (SqT.of (gr3.ext _ _ hC fun _ z => nomatch z)), by rw [List.length_map, lC], fun i' v' n hv hn => ?_, gr3.tab hT, fun p Hp Gr ep => ?_⟩
        · rw [List.getElem?_map] at hn
          obtain ⟨c, hc, t, rfl, ht⟩ := Shg.pair_get pC hv
          rw [hc] at hn
          cases hn
          exact ⟨t, _, rfl, gr3.ext _ _ ht (fun _ z => nomatch z), rfl⟩
        · have pS := sb_rel pC
          refine ⟨p, rfl, ⟨_, SqL.of ep⟩, fun D3 hD3 => ?_⟩
          refine lc_gather walk_list (fun i => ((sb cs)[i]?).bind fun c => if (decide (b ≤ c.2) && decide (c.2 < g)) = true then some (.str c.1) else none) hD3 (by rw [lS]; exact Nat.le_trans lsb (by decide)) (fun H s => SqL.of (s _ _ ep)) (fun j v H5 H6 hj s5 vv R2 k1 => ?_) fun H5 s5 e5 => ?_
          · obtain ⟨rfl, ev⟩ := vv
            obtain ⟨c, hc, t, rfl, ht⟩ := Shg.pair_get pS ev
            refine ⟨t, _, rfl, SqT.of (s5 _ _ ((gr3.trans Gr).ext _ _ ht fun _ z => nomatch z)), rfl, _, _, rfl, _, _, rfl, rfl, rfl, ?_⟩
            have k3 := k1 _ (Same.refl _)
            rw [hc] at k3
            have k4 : R2 (if (decide (b ≤ c.2) && decide (c.2 < g)) = true then some (V.str c.1) else none) _ := k3
            refine chainI b c.2 g (fun Q q => ⟨_, rfl, q⟩) (fun Q q => ⟨_, rfl, q⟩) (fun Q q => ⟨_, rfl, q⟩) ?_
            refine ite2 (fun q => ?_) (fun q => ?_)
            · rw [if_pos q] at k4
              exact ⟨_, rfl, k4⟩
            · rw [if_neg q] at k4
              exact k4
          · rw [lS, gather_filter (sb cs) (fun c => decide (b ≤ c.2) && decide (c.2 < g)) fun c => V.str c.1] at e5
            refine ⟨D3, _, rfl, .inl ⟨SqL.of e5, fun t ht => h _ _ ⟨Gr.trans ⟨LamX.ExtN.of (s5.trans (same_upd ht)), fun tb => LamX.Tabs.ext tb (s5.trans (same_upd ht))⟩, t, rfl, ?_⟩⟩⟩
            rw [upd_same]
            unfold came9
            rw [List.map_map]
            rfl
      obtain ⟨gr34, cm, rfl, ecm⟩ := hv
      have gr4 := gr3.trans gr34
      have tup34 : ∀ b vs, H3 b = some (.tup vs) → H4 b = some (.tup vs) := fun b vs e => gr34.ext _ _ e fun _ z => nomatch z
      have eD4 : H4 D = some (.dT kvs) := gr34.ext _ _ eD3 fun _ z => nomatch z
      have W4 : Ways H4 k i (nmB cs b) kvs := ⟨W3.some, W3.nd, fun p hp => (W3.all p hp).keep tup34⟩
      clear W3 eD3 gr34 tup34 gr3
      generalize hcm : came9 cs b g = cc at *
      have sgl : cc.length + (nmB cs b).length = (nmB cs g).length := by rw [split, List.length_append]; omega
      have lg : (nmB cs g).length ≤ 10 := Nat.le_trans (nmB_le cs g) va.few
      -- the piles with them
      refine ⟨D, .dT kvs, eD4, trivial, fun od => ⟨_, rfl, D, od, kvs, rfl, upd_same, fun D5 hD5 => ?_⟩⟩
      have nD5 : D5 ≠ D := fun z => by rw [z, upd_same] at hD5; cases hD5
      have hD54 : H4 D5 = none := by rw [upd_ne nD5] at hD5; exact hD5
      refine dcT_it walk_itemsT (fun j H6 => H6 D = some (.frz od (.dT kvs)) ∧ (∀ b o, b ≠ D → H4 b = some o → H6 b = some o) ∧ ∃ kvs6, H6 D5 = some (.dT kvs6) ∧ (kvs6.map (·.1)).Nodup ∧ (∀ p ∈ kvs6, Entry H6 (k + cc.length) i (nmB cs g) p) ∧ (0 < j → kvs6 ≠ []))
        ⟨by rw [upd_ne (Ne.symm nD5)]; exact upd_same, fun b o n e => by rw [upd_ne (ne_of_none e hD54), upd_ne n]; exact e, [], upd_same, .nil, (fun p hp => nomatch hp), fun z => absurd z (by decide)⟩ (fun j H6 _ q => q.1) (fun j y H6 H6' hj q yy => ?_) fun H6 q => ?_
      · obtain ⟨eD6, keep6, kvs6, e6, nd6, all6, ne6⟩ := q
        obtain ⟨T7, q7, kq, v, hkv, rfl, hT7, hq7, rfl⟩ := yy
        obtain ⟨ns, t, wv, c, wsn, ekv, ln, sl, ht, hc, hwv, hws⟩ := W4.all _ (List.mem_of_getElem? hkv)
        cases ekv
        rw [key_strs] at hq7
        have tD : ∀ b vs, H4 b = some (.tup vs) → H6 b = some (.tup vs) := fun b vs e => keep6 b _ (fun z => by rw [z, eD4] at e; cases e) e
        have s7 := same_upd (o := .tup [.ref q7, .ref t]) hT7
        have eT7 : (upd H6 T7 (.tup [.ref q7, .ref t])) T7 = some (.tup [.ref q7, .ref t]) := upd_same
        generalize upd H6 T7 (.tup [.ref q7, .ref t]) = H7 at *
        have lns : ns.length ≤ 10 := Nat.le_trans sl.length_le (Nat.le_trans (nmB_le cs b) va.few)
        refine ⟨T7, _, rfl, SqT.of eT7, rfl, _, _, rfl, _, _, rfl, rfl, rfl, ?_⟩
        refine ⟨_, rfl, _, rfl, cat_tups (s7 _ _ hq7) (s7 _ _ (tD _ _ ecm)) (by rw [List.length_map, List.length_map]; exact Nat.le_trans (by omega : ns.length + cc.length ≤ 20) (by decide)) fun p8 H8 s8 e8 => ⟨_, rfl, kvs6, keyN (ns ++ cc), p8, rfl, by rw [e8, key_strs, List.map_append], s8 _ _ (s7 _ _ e6), Nat.lt_of_le_of_lt (ways_few nd6 all6 lg) (by decide), ?_⟩⟩
        have s68 := s7.trans s8
        have e68 := s68 _ _ e6
        have kt : ∀ b vs, H8 b = some (.tup vs) → (upd H8 D5 (.dT (putK kvs6 (keyN (ns ++ cc)) (.ref t)))) b = some (.tup vs) := fun b vs e => by rw [upd_ne fun z => by rw [z, e68] at e; cases e]; exact e
        refine ⟨by rw [upd_ne (Ne.symm nD5)]; exact s68 _ _ eD6, fun b o n e => by rw [upd_ne fun z => by rw [z, hD54] at e; cases e]; exact s68 _ _ (keep6 b o n e), _, upd_same, put_nodup _ _ nd6, fun p hp => ?_, fun _ => put_ne _ _ _⟩
        rcases put_mem hp with rfl | ⟨hp, _⟩
        · exact ⟨ns ++ cc, t, wv, c, wsn, rfl, by rw [List.length_append, ln], by rw [split]; exact List.Sublist.append sl (List.Sublist.refl _), kt _ _ (s68 _ _ (tD _ _ ht)), hc, kt _ _ (s68 _ _ (tD _ _ hwv)), hws⟩
        · exact ((all6 p hp).keep fun b vs e => s68 _ _ e).keep kt
      · obtain ⟨eD6, keep6, kvs6, e6, nd6, all6, ne6⟩ := q
        refine name_at ⟨eD6, ?_⟩
        have s47 : Same H4 (upd H6 D (.dT kvs)) := fun b o e => by
          by_cases z : b = D
          · rw [z, eD4] at e
            cases e
            rw [z]
            exact upd_same
          · rw [upd_ne z]
            exact keep6 b o z e
        have e67 : (upd H6 D (.dT kvs)) D5 = some (.dT kvs6) := by rw [upd_ne nD5]; exact e6
        have all7 : ∀ p ∈ kvs6, Entry (upd H6 D (.dT kvs)) (k + cc.length) i (nmB cs g) p := fun p hp => (all6 p hp).keep fun b vs e => by rw [upd_ne fun z => by rw [z, eD6] at e; cases e]; exact e
        generalize upd H6 D (.dT kvs) = H7 at *
        have hR7 := s47 _ _ (gr4.ext _ _ hR fun _ z => nomatch z)
        -- nothing was seen
        refine ⟨_, rfl, Rc, rfl, ⟨_, SqL.of hR7⟩, fun D8 hD8 => ?_⟩
        refine dcT_it (walk_list (K := K) (a := Rc) (xs := [])) (fun j H => Same H7 H ∧ H D8 = some (.dT [])) ⟨same_upd hD8, upd_same⟩ (fun j H _ q => SqL.of (q.1 _ _ hR7)) (fun j x H H' hj => absurd hj (Nat.not_lt_zero _)) fun H9 q9 => name_at ?_
        obtain ⟨s9, e9⟩ := q9
        have i10 : i < cs.length := by rw [← va.all]; exact (List.getElem?_eq_some_iff.mp hg).1
        have few := va.few
        have kpos : (k + cc.length - 1) + 1 = k + cc.length := by omega
        have nD58 : D5 ≠ D8 := ne_of_none e67 hD8
        refine ⟨_, rfl, _, rfl, nmB cs g, D5, D8, k + cc.length - 1, i, kvs6, rfl, s9 _ _ e67, e9, nD58, ⟨ne6 (List.length_pos_iff.mpr W4.some), nd6, fun p hp => by rw [kpos]; exact (all7 p hp).keep fun b vs e => s9 _ _ e⟩, lg, by omega, fun D9 H10 kvs10 hn10 keep10 e10 W10 => name_of ?_⟩
        have s410 : Same H4 H10 := fun b o e => keep10 b o (s9 _ _ (s47 _ _ e))
        refine ⟨_, rfl, ?_⟩
        exact ⟨D9, g, _, _, _, _, _, _, _, _, _, _, _, kvs10, k + cc.length - 1, rfl, gr4.trans ⟨LamX.ExtN.of s410, fun tb => LamX.Tabs.ext tb s410⟩, e10, W10, by omega, .inr ⟨i, rfl, hg⟩⟩
    · rintro σ H2 ⟨D, b, o5, o6, o7, o8, o9, o10, o11, o12, o13, o14, o15, kvs, k, rfl, gr, eD2, W2, hk, hb⟩
      have k0 : k = 0 := by
        have := nmB_le cs b
        rw [List.length_map, va.all] at hk
        omega
      subst k0
      refine ⟨_, rfl, D, rfl, .inr ⟨kvs, .inl eD2⟩, Nat.zero_le _, fun k9 hk9 => ⟨Nat.zero_le _, fun z0 hz0 => ⟨by show 2 ≤ sizeLine; decide, fun z1 hz1 => ?_⟩⟩⟩
      have b0 := same_upd (o := .tup []) hk9
      have b1 := same_upd (o := .tup []) hz0
      have b2 := same_upd (o := .tup [.int 0, .ref z0]) hz1
      have ek9 := (b1.trans b2) _ _ (upd_same (H := H2) (a := k9) (o := .tup []))
      have s2 := b0.trans (b1.trans b2)
      generalize upd (upd (upd H2 k9 (.tup [])) z0 (.tup [])) z1 (.tup [.int 0, .ref z0]) = H9 at *
      refine ⟨_, DGet.t (k := []) (s2 _ _ eD2) ek9, ?_⟩
      cases kvs with
      | nil => exact absurd rfl W2.some
      | cons p rest =>
        obtain ⟨ns, t, wv, c, wsn, rfl, ln, sl, ht, hc, hwv, hws⟩ := W2.all p List.mem_cons_self
        obtain rfl : ns = [] := List.length_eq_zero_iff.mp ln
        rw [valV_pos (p := (keyN [], V.ref t)) (r := rest) (k := []) rfl]
        exact kk t wv c H9 (gr.trans ⟨LamX.ExtN.of s2, fun tb => LamX.Tabs.ext tb s2⟩) hc (s2 _ _ ht)
end
end Go
set_option Elab.async false
set_option linter.all false
set_option maxRecDepth 100000
set_option maxHeartbeats 400000
set_option autoImplicit false
/-! The goings of a plan, step by step; numbers only. -/
namespace Jo
open PySem L2 Sho NdefX Shg Sh1 Go
abbrev Rec := Int × Fc
def addF (acc : List Fc) (f : Fc) : List Fc := if f ∈ acc then acc else acc ++ [f]
def seenOf (i : Int) (rs : List Rec) : List Fc := rs.foldl (fun acc r => if r.1 = i then addF acc r.2 else acc) []
theorem seen_snoc (i : Int) (rs : List Rec) (r : Rec) : seenOf i (rs ++ [r]) = if r.1 = i then addF (seenOf i rs) r.2 else seenOf i rs := by
  unfold seenOf
  rw [List.foldl_append]
  rfl
theorem add_mem {acc : List Fc} {f g : Fc} : g ∈ addF acc f ↔ g ∈ acc ∨ g = f := by
  unfold addF
  split
  · rename_i h
    exact ⟨.inl, fun k => k.elim id fun e => by rw [e]; exact h⟩
  · rw [List.mem_append, List.mem_singleton]
theorem seen_gen (i : Int) (g : Fc) : ∀ (rs : List Rec) (acc : List Fc), g ∈ rs.foldl (fun acc r => if r.1 = i then addF acc r.2 else acc) acc ↔ g ∈ acc ∨ (i, g) ∈ rs
  | [], acc => ⟨.inl, fun h => h.elim id fun h => nomatch h⟩
  | r :: rs, acc => by
    rw [List.foldl_cons, seen_gen i g rs, List.mem_cons]
    by_cases e : r.1 = i
    · rw [if_pos e, add_mem]
      constructor
      · rintro ((h | h) | h)
        · exact .inl h
        · exact .inr (.inl (by rw [h, ← e]))
        · exact .inr (.inr h)
      · rintro (h | h | h)
        · exact .inl (.inl h)
        · exact .inl (.inr (by rw [← h]))
        · exact .inr h
    · rw [if_neg e]
      constructor
      · rintro (h | h)
        · exact .inl h
        · exact .inr (.inr h)
      · rintro (h | h | h)
        · exact .inl h
        · exact absurd (by rw [← h]) e
        · exact .inr h
theorem seen_mem {i : Int} {g : Fc} {rs : List Rec} : g ∈ seenOf i rs ↔ (i, g) ∈ rs := by
  unfold seenOf
  rw [seen_gen]
  exact ⟨fun h => h.elim (fun h => nomatch h) id, .inr⟩
theorem add_len (acc : List Fc) (f : Fc) : (addF acc f).length ≤ acc.length + 1 := by
  unfold addF
  split
  · omega
  · rw [List.length_append]
    exact Nat.le_refl _
theorem seen_len (i : Int) (rs : List Rec) : (seenOf i rs).length ≤ rs.length := by
  have gen : ∀ (rs : List Rec) (acc : List Fc), (rs.foldl (fun acc r => if r.1 = i then addF acc r.2 else acc) acc).length ≤ acc.length + rs.length := by
    intro rs
    induction rs with
    | nil => exact fun _ => Nat.le_refl _
    | cons r rs ih =>
      intro acc
      rw [List.foldl_cons, List.length_cons]
      refine Nat.le_trans (ih _) ?_
      split
      · have := add_len acc r.2
        omega
      · omega
  have := gen rs []
  rw [List.length_nil, Nat.zero_add] at this
  exact this
theorem ok_congr {a b : List Fc} (h : ∀ f, f ∈ a ↔ f ∈ b) (ns : List Str) (j : Nat) : okAt a ns j = okAt b ns j := by
  unfold okAt
  rw [Bool.eq_iff_iff, List.all_eq_true, List.all_eq_true]
  exact ⟨fun k f hf => k f ((h f).mpr hf), fun k f hf => k f ((h f).mp hf)⟩
theorem fk_inj {a b : Fc} (h : fk a = fk b) : a = b := by
  cases a with
  | guest z =>
    cases b with
    | guest y =>
      injection h with _ h
      injection h with h
      injection h with h
      rw [h]
    | lift n =>
      injection h with h
      exact absurd h.symm guest_lift
  | lift n =>
    cases b with
    | guest y =>
      injection h with h
      exact absurd h guest_lift
    | lift m =>
      injection h with _ h
      injection h with h
      injection h with h
      rw [h]
def kvsF (fs : List Fc) : List (List L2.Key × V) := fs.map fun f => (fk f, V.bl true)
theorem put_kvsF (fs : List Fc) (f : Fc) : putK (kvsF fs) (fk f) (.bl true) = kvsF (addF fs f) := by
  have e : ((kvsF fs).any fun kv => decide (kv.1 = fk f)) = decide (f ∈ fs) := by
    rw [Bool.eq_iff_iff, List.any_eq_true, decide_eq_true_eq]
    constructor
    · rintro ⟨kv, h1, h2⟩
      obtain ⟨g, hg, rfl⟩ := List.mem_map.mp h1
      rw [← fk_inj (of_decide_eq_true h2)]
      exact hg
    · exact fun h => ⟨_, List.mem_map.mpr ⟨f, h, rfl⟩, decide_eq_true rfl⟩
  unfold putK addF
  rw [e]
  by_cases h : f ∈ fs
  · rw [if_pos (decide_eq_true h), if_pos h]
    unfold kvsF
    rw [List.map_map]
    refine List.map_congr_left fun g _ => ?_
    show (if fk g = fk f then (fk g, V.bl true) else (fk g, V.bl true)) = _
    split <;> rfl
  · rw [if_neg (by rw [decide_eq_false h]; decide), if_neg h]
    unfold kvsF
    rw [List.map_append]
    rfl
/-! ### the steps -/
def prev (gs : List Int) (i : Nat) : Int := if i = 0 then 0 else gs.getD (i - 1) 0
def stepAt (cs : List (Str × Int)) (gs : List Int) (rs : List Rec) (i : Nat) : Step := (came9 cs (prev gs i) (gs.getD i 0), seenOf (i : Nat) rs)
def steps (cs : List (Str × Int)) (gs : List Int) (rs : List Rec) : List Step := (List.range gs.length).map (stepAt cs gs rs)
theorem steps_take {cs : List (Str × Int)} {gs : List Int} {rs : List Rec} {i : Nat} (h : i < gs.length) : (steps cs gs rs).take (i + 1) = (steps cs gs rs).take i ++ [stepAt cs gs rs i] := by
  unfold steps
  rw [List.take_succ, List.getElem?_map, List.getElem?_range h]
  rfl
theorem run_snoc (s : Step) : ∀ (st : List Step) (D : List Ent), runE (st ++ [s]) D = stepE s (runE st D)
  | [], _ => rfl
  | t :: st, D => run_snoc s st (stepE t D)
theorem OkD.step {B : List Str} {M : Nat} {D : List Ent} (h : OkD B M D) (s : Step) : OkD (B ++ s.1) (M + 1) (stepE s D) := by
  refine OkD.after _ (fun e he => ?_) (OkD.none _ _)
  obtain ⟨e', he', rfl⟩ := List.mem_map.mp he
  exact ⟨List.Sublist.append (h.sub e' he') (List.Sublist.refl _), h.len e' he'⟩
theorem prev_le {cs : List (Str × Int)} {gs : List Int} (va : Valid9 cs gs) {i : Nat} {g : Int} (hg : gs[i]? = some g) : prev gs i ≤ g := by
  unfold prev
  split
  · exact (va.in_ i g hg).1
  · rename_i h
    obtain ⟨j, rfl⟩ : ∃ j, i = j + 1 := ⟨i - 1, by omega⟩
    have lt := (List.getElem?_eq_some_iff.mp hg).1
    have hj : gs[j]? = some gs[j] := List.getElem?_eq_getElem (by omega)
    rw [Nat.add_sub_cancel, List.getD_eq_getElem?_getD, hj]
    exact Int.le_of_lt (va.rise j _ g hj hg)
theorem prev_succ {gs : List Int} {i : Nat} {g : Int} (hg : gs[i]? = some g) : prev gs (i + 1) = g := by
  unfold prev
  rw [if_neg (by omega), Nat.add_sub_cancel, List.getD_eq_getElem?_getD, hg]
  rfl
theorem step_nm {cs : List (Str × Int)} {gs : List Int} (va : Valid9 cs gs) (rs : List Rec) {i : Nat} (h : i < gs.length) : nmB cs (prev gs (i + 1)) = nmB cs (prev gs i) ++ (stepAt cs gs rs i).1 := by
  have hg : gs[i]? = some gs[i] := List.getElem?_eq_getElem h
  rw [prev_succ hg, nmB_split cs (prev_le va hg)]
  show _ ++ _ = _ ++ came9 cs (prev gs i) (gs.getD i 0)
  rw [List.getD_eq_getElem?_getD, hg]
  rfl
theorem nm_zero {cs : List (Str × Int)} {gs : List Int} (va : Valid9 cs gs) : nmB cs (prev gs 0) = [] := by
  have : (nmB cs 0).length = 0 := by
    rw [nmB_len, List.length_eq_zero_iff, List.filter_eq_nil_iff]
    intro c hc
    have := va.late c hc
    simp
    omega
  exact List.length_eq_zero_iff.mp this
theorem ok_run {cs : List (Str × Int)} {gs : List Int} (va : Valid9 cs gs) (rs : List Rec) : ∀ i, i ≤ gs.length → OkD (nmB cs (prev gs i)) i (runE ((steps cs gs rs).take i) D0)
  | 0, _ => by
    refine ⟨List.nodup_cons.mpr ⟨List.not_mem_nil, .nil⟩, fun e he => ?_, fun e he => ?_⟩
    · rw [List.mem_singleton.mp he]
      exact List.nil_sublist _
    · rw [List.mem_singleton.mp he]
      exact Nat.le_refl _
  | i + 1, h => by
    rw [steps_take (by omega), run_snoc, step_nm va rs (by omega)]
    exact (ok_run va rs i (by omega)).step _
theorem step_len {s : Step} {L : Nat} {D : List Ent} (h : ∀ e ∈ D, e.1.length = L) : ∀ e ∈ stepE s D, e.1.length + 1 = L + s.1.length := by
  have inn : ∀ (e : Ent) (l : List Nat) (acc : List Ent) (N : Nat), e.1.length = N → (∀ j ∈ l, j < N) → (∀ x ∈ acc, x.1.length + 1 = N) → ∀ x ∈ l.foldl (goE s.2 e) acc, x.1.length + 1 = N := by
    intro e l
    induction l with
    | nil => exact fun _ _ _ _ h => h
    | cons j l ih =>
      intro acc N hN hl ha
      rw [List.foldl_cons]
      refine ih _ N hN (fun i hi => hl i (List.mem_cons_of_mem _ hi)) fun x hx => ?_
      unfold goE at hx
      split at hx
      · rcases put_mem hx with ⟨h1, _⟩ | hx
        · have := hl j List.mem_cons_self
          rw [h1, List.length_eraseIdx, if_pos (by omega)]
          omega
        · exact ha x hx
      · exact ha x hx
  have out : ∀ (l acc : List Ent) (N : Nat), (∀ e ∈ l, e.1.length = N) → (∀ x ∈ acc, x.1.length + 1 = N) → ∀ x ∈ l.foldl (innerE s.2) acc, x.1.length + 1 = N := by
    intro l
    induction l with
    | nil => exact fun _ _ _ h => h
    | cons e l ih =>
      intro acc N hl ha
      rw [List.foldl_cons]
      have he := hl e List.mem_cons_self
      exact ih _ N (fun x hx => hl x (List.mem_cons_of_mem _ hx)) (inn e _ acc N he (fun j hj => by rw [← he]; exact List.mem_range.mp hj) ha)
  refine out _ [] (L + s.1.length) (fun e he => ?_) fun x hx => nomatch hx
  obtain ⟨e', he', rfl⟩ := List.mem_map.mp he
  show (e'.1 ++ s.1).length = _
  rw [List.length_append, h e' he']
theorem len_run {cs : List (Str × Int)} {gs : List Int} (va : Valid9 cs gs) (rs : List Rec) : ∀ i, i ≤ gs.length → i ≤ (nmB cs (prev gs i)).length ∧ ∀ e ∈ runE ((steps cs gs rs).take i) D0, e.1.length = (nmB cs (prev gs i)).length - i
  | 0, _ => by
    refine ⟨Nat.zero_le _, fun e he => ?_⟩
    rw [List.mem_singleton.mp he, nm_zero va]
    rfl
  | i + 1, h => by
    have hi : i < gs.length := by omega
    have hg : gs[i]? = some gs[i] := List.getElem?_eq_getElem hi
    obtain ⟨a, b⟩ := len_run va rs i (by omega)
    have k := (va.in_ i _ hg).2
    rw [← nmB_len, ← prev_succ hg] at k
    refine ⟨k, fun e he => ?_⟩
    rw [steps_take hi, run_snoc] at he
    have := step_len b e he
    have e2 := congrArg List.length (step_nm va rs hi)
    rw [List.length_append] at e2
    omega
theorem cof_all {D : List Ent} (nd : NdE D) (h : ∀ e ∈ D, e.1 = []) : cOf D [] = wsum (fun _ => 1) D := by
  cases D with
  | nil => rfl
  | cons e D =>
    cases D with
    | nil =>
      have := cof_mem nd (List.mem_cons_self (a := e) (l := []))
      rw [h e List.mem_cons_self] at this
      rw [this]
      show _ = e.2.1 * 1 + 0
      omega
    | cons e2 D =>
      unfold NdE at nd
      rw [List.map_cons, List.nodup_cons] at nd
      exact absurd (List.mem_map.mpr ⟨e2, List.mem_cons_self, by rw [h e2 (List.mem_cons_of_mem _ List.mem_cons_self), h e List.mem_cons_self]⟩) nd.1
/-- in how many ways all can have gone -/
def ways (cs : List (Str × Int)) (gs : List Int) (rs : List Rec) : Nat := comp (steps cs gs rs) []
theorem steps_all (cs : List (Str × Int)) (gs : List Int) (rs : List Rec) : (steps cs gs rs).take gs.length = steps cs gs rs := by
  refine List.take_of_length_le ?_
  unfold steps
  rw [List.length_map, List.length_range]
  exact Nat.le_refl _
theorem all_gone {cs : List (Str × Int)} {gs : List Int} (va : Valid9 cs gs) (rs : List Rec) : ∀ e ∈ runE (steps cs gs rs) D0, e.1 = [] := fun e he => by
  have := (len_run va rs gs.length (Nat.le_refl _)).2 e (by rw [steps_all]; exact he)
  have h2 := nmB_le cs (prev gs gs.length)
  have h3 := va.all
  exact List.length_eq_zero_iff.mp (by omega)
theorem nd0 : NdE D0 := List.nodup_cons.mpr ⟨List.not_mem_nil, .nil⟩
theorem ways_count {cs : List (Str × Int)} {gs : List Int} (va : Valid9 cs gs) (rs : List Rec) : cOf (runE (steps cs gs rs) D0) [] = ways cs gs rs := by
  obtain ⟨a, b⟩ := run_count (steps cs gs rs) D0 nd0
  rw [cof_all a (all_gone va rs), b]
  show 1 * comp _ [] + 0 = _
  unfold ways
  omega
theorem ways_lead {cs : List (Str × Int)} {gs : List Int} (rs : List Rec) : ∀ e ∈ runE (steps cs gs rs) D0, Lead (steps cs gs rs) [] e.2.2 e.1 :=
  run_lead (steps cs gs rs) [] D0 fun e he => by
    rw [List.mem_singleton.mp he]
    rfl
end Jo
set_option Elab.async false
set_option linter.all false
set_option maxRecDepth 100000
set_option maxHeartbeats 400000
set_option autoImplicit false
/-! How the ways change by one more fact; numbers only. -/
namespace Jo
open PySem L2 Sho NdefX Shg Sh1 Go
theorem sum_le {l : List Nat} {f g : Nat → Nat} (h : ∀ j ∈ l, f j ≤ g j) : (l.map f).sum ≤ (l.map g).sum := by
  induction l with
  | nil => exact Nat.le_refl _
  | cons a l ih =>
    rw [List.map_cons, List.map_cons, List.sum_cons, List.sum_cons]
    have h1 := h a List.mem_cons_self
    have h2 := ih fun j hj => h j (List.mem_cons_of_mem _ hj)
    omega
/-- the same comings, more facts -/
def Tighter (s s' : Step) : Prop := s.1 = s'.1 ∧ ∀ ns j, okAt s'.2 ns j = true → okAt s.2 ns j = true
theorem comp_mono : ∀ {st st' : List Step}, PySem.Paired Tighter st st' → ∀ a, comp st' a ≤ comp st a
  | _, _, .nil, _ => Nat.le_refl _
  | _, _, .cons (a := s) (b := s') h t, a => by
    show ((List.range (a ++ s'.1).length).map fun j => if okAt s'.2 (a ++ s'.1) j = true then comp _ ((a ++ s'.1).eraseIdx j) else 0).sum ≤ ((List.range (a ++ s.1).length).map fun j => if okAt s.2 (a ++ s.1) j = true then comp _ ((a ++ s.1).eraseIdx j) else 0).sum
    rw [h.1]
    refine sum_le fun j _ => ?_
    by_cases k : okAt s'.2 (a ++ s'.1) j = true
    · rw [if_pos k, if_pos (h.2 _ _ k)]
      exact comp_mono t _
    · rw [if_neg k]
      exact Nat.zero_le _
theorem map_pair {α β γ : Type} {R : β → γ → Prop} {f : α → β} {g : α → γ} : ∀ {l : List α}, (∀ x ∈ l, R (f x) (g x)) → PySem.Paired R (l.map f) (l.map g)
  | [], _ => .nil
  | x :: l, h => .cons (h x List.mem_cons_self) (map_pair fun y hy => h y (List.mem_cons_of_mem _ hy))
theorem ways_mono (cs : List (Str × Int)) (gs : List Int) (rs : List Rec) (r : Rec) : ways cs gs (rs ++ [r]) ≤ ways cs gs rs := by
  show comp ((List.range gs.length).map (stepAt cs gs (rs ++ [r]))) [] ≤ comp ((List.range gs.length).map (stepAt cs gs rs)) []
  refine comp_mono (map_pair (f := stepAt cs gs rs) (g := stepAt cs gs (rs ++ [r])) (l := List.range gs.length) fun i _ => ⟨rfl, fun ns j h => ?_⟩) []
  have h : okAt (seenOf (i : Nat) (rs ++ [r])) ns j = true := h
  show okAt (seenOf (i : Nat) rs) ns j = true
  unfold okAt at *
  rw [List.all_eq_true] at *
  exact fun f hf => h f (seen_mem.mpr (List.mem_append_left _ (seen_mem.mp hf)))
/-- one of the lifts at most at each going -/
theorem sum_one {l : List Nat} {f : Nat → Nat} (nd : l.Nodup) (h1 : ∀ j ∈ l, f j ≤ 1) (h2 : ∀ i ∈ l, ∀ j ∈ l, f i ≠ 0 → f j ≠ 0 → i = j) : (l.map f).sum ≤ 1 := by
  induction l with
  | nil => exact Nat.zero_le _
  | cons a l ih =>
    rw [List.nodup_cons] at nd
    rw [List.map_cons, List.sum_cons]
    have ih := ih nd.2 (fun j hj => h1 j (List.mem_cons_of_mem _ hj)) fun i hi j hj => h2 i (List.mem_cons_of_mem _ hi) j (List.mem_cons_of_mem _ hj)
    by_cases z : f a = 0
    · omega
    · have : (l.map f).sum = 0 := by
        have gen : ∀ m : List Nat, (∀ j ∈ m, f j = 0) → (m.map f).sum = 0 := by
          intro m
          induction m with
          | nil => exact fun _ => rfl
          | cons b m ihm =>
            intro hm
            rw [List.map_cons, List.sum_cons, hm b List.mem_cons_self, ihm fun j hj => hm j (List.mem_cons_of_mem _ hj)]
        refine gen l fun j hj => ?_
        by_cases y : f j = 0
        · exact y
        · exact absurd (h2 a List.mem_cons_self j (List.mem_cons_of_mem _ hj) z y) fun e => nd.1 (by rw [e]; exact hj)
      have := h1 a List.mem_cons_self
      omega
theorem lift_one {fs : List Fc} {n : Int} (h : Fc.lift n ∈ fs) {ns : List Str} {i j : Nat} (hi : okAt fs ns i = true) (hj : okAt fs ns j = true) : i = j := by
  unfold okAt at hi hj
  have a := of_decide_eq_true (List.all_eq_true.mp hi _ h)
  have b := of_decide_eq_true (List.all_eq_true.mp hj _ h)
  omega
theorem comp_lifts : ∀ {st : List Step}, (∀ s ∈ st, ∃ n, Fc.lift n ∈ s.2) → ∀ a, comp st a ≤ 1
  | [], _, _ => Nat.le_refl _
  | s :: st, h, a => by
    obtain ⟨n, hn⟩ := h s List.mem_cons_self
    have ih := comp_lifts fun t ht => h t (List.mem_cons_of_mem _ ht)
    refine sum_one List.nodup_range (fun j _ => ?_) fun i _ j _ hi hj => ?_
    · split
      · exact ih _
      · exact Nat.zero_le _
    · by_cases p : okAt s.2 (a ++ s.1) i = true
      · by_cases q : okAt s.2 (a ++ s.1) j = true
        · exact lift_one hn p q
        · exact absurd (if_neg q) hj
      · exact absurd (if_neg p) hi
theorem ways_lifts {cs : List (Str × Int)} {gs : List Int} {rs : List Rec} (h : ∀ i : Nat, i < gs.length → ∃ n, ((i : Int), Fc.lift n) ∈ rs) : ways cs gs rs ≤ 1 := by
  refine comp_lifts (fun s hs => ?_) []
  obtain ⟨i, hi, rfl⟩ := List.mem_map.mp hs
  obtain ⟨n, hn⟩ := h i (List.mem_range.mp hi)
  exact ⟨n, seen_mem.mpr hn⟩
/-! ### who goes at one going -/
theorem sum_swap {α : Type} (f : α → Nat → Nat) (zs : List α) : ∀ l : List Nat, (zs.map fun z => (l.map (f z)).sum).sum = (l.map fun j => (zs.map fun z => f z j).sum).sum
  | [] => by
    induction zs with
    | nil => rfl
    | cons z zs ih => rw [List.map_cons, List.sum_cons, ih]; rfl
  | j :: l => by
    rw [List.map_cons, List.sum_cons, ← sum_swap f zs l]
    have : ∀ ys : List α, (ys.map fun z => ((j :: l).map (f z)).sum).sum = (ys.map fun z => f z j).sum + (ys.map fun z => (l.map (f z)).sum).sum := by
      intro ys
      induction ys with
      | nil => rfl
      | cons y ys ih =>
        rw [List.map_cons, List.sum_cons, ih, List.map_cons, List.sum_cons, List.map_cons, List.sum_cons, List.map_cons, List.sum_cons]
        omega
    exact this zs
theorem sum_pick {zs : List Str} (nd : zs.Nodup) {y : Str} (hy : y ∈ zs) (c : Nat) : (zs.map fun z => if y = z then c else 0).sum = c := by
  induction zs with
  | nil => cases hy
  | cons z zs ih =>
    rw [List.nodup_cons] at nd
    rw [List.map_cons, List.sum_cons]
    have zero : ∀ l : List Str, y ∉ l → (l.map fun z => if y = z then c else 0).sum = 0 := by
      intro l
      induction l with
      | nil => exact fun _ => rfl
      | cons a l ihl =>
        intro h
        rw [List.map_cons, List.sum_cons, if_neg fun e => h (by rw [e]; exact List.mem_cons_self), ihl fun e => h (List.mem_cons_of_mem _ e)]
    by_cases e : y = z
    · rw [if_pos e, zero zs (by rw [e]; exact nd.1)]
      omega
    · rw [if_neg e, ih nd.2 ((List.mem_cons.mp hy).resolve_left e)]
      omega
theorem sum_zeroN {α : Type} : ∀ l : List α, (l.map fun _ => 0).sum = 0
  | [] => rfl
  | _ :: l => by rw [List.map_cons, List.sum_cons, sum_zeroN l]
/-- a step with one more guest seen -/
def seeS (s : Step) (z : Str) : Step := (s.1, addF s.2 (.guest z))
theorem ok_see (fs : List Fc) (f : Fc) (ns : List Str) (j : Nat) : okAt (addF fs f) ns j = (okAt fs ns j && okF ns j f) := by
  unfold addF okAt
  split
  · rename_i h
    cases e : fs.all (okF ns j) with
    | false => rfl
    | true => rw [List.all_eq_true.mp e f h]; rfl
  · rw [List.all_append]
    simp
theorem comp_part {zs : List Str} (nd : zs.Nodup) (s : Step) (post : List Step) : ∀ {pre : List Step}, (∀ t ∈ pre, ∀ y ∈ t.1, y ∈ zs) → (∀ y ∈ s.1, y ∈ zs) → ∀ a, (∀ y ∈ a, y ∈ zs) → (zs.map fun z => comp (pre ++ seeS s z :: post) a).sum = comp (pre ++ s :: post) a
  | [], _, hs, a, ha => by
    have hin : ∀ y ∈ a ++ s.1, y ∈ zs := fun y hy => (List.mem_append.mp hy).elim (ha y) (hs y)
    show (zs.map fun z => ((List.range (a ++ s.1).length).map fun j => if okAt (addF s.2 (.guest z)) (a ++ s.1) j = true then comp post ((a ++ s.1).eraseIdx j) else 0).sum).sum = ((List.range (a ++ s.1).length).map fun j => if okAt s.2 (a ++ s.1) j = true then comp post ((a ++ s.1).eraseIdx j) else 0).sum
    rw [sum_swap]
    congr 1
    refine List.map_congr_left fun j hj => ?_
    have hj := List.mem_range.mp hj
    by_cases k : okAt s.2 (a ++ s.1) j = true
    · rw [if_pos k]
      have hy : (a ++ s.1)[j] ∈ zs := hin _ (List.getElem_mem hj)
      refine (congrArg List.sum (List.map_congr_left fun z _ => ?_)).trans (sum_pick nd hy (comp post ((a ++ s.1).eraseIdx j)))
      rw [ok_see, k, Bool.true_and]
      show (if decide ((a ++ s.1)[j]? = some z) = true then _ else _) = _
      rw [List.getElem?_eq_getElem hj]
      by_cases e : (a ++ s.1)[j] = z
      · rw [if_pos (decide_eq_true (by rw [e])), if_pos e]
      · rw [if_neg (by rw [decide_eq_true_eq]; exact fun q => e (Option.some.inj q)), if_neg e]
    · rw [if_neg k]
      refine (congrArg List.sum (List.map_congr_left fun z _ => ?_)).trans (sum_zeroN zs)
      rw [ok_see, if_neg]
      intro q
      rw [Bool.and_eq_true] at q
      exact k q.1
  | t :: pre, hp, hs, a, ha => by
    have hin : ∀ y ∈ a ++ t.1, y ∈ zs := fun y hy => (List.mem_append.mp hy).elim (ha y) (hp t List.mem_cons_self y)
    show (zs.map fun z => ((List.range (a ++ t.1).length).map fun j => if okAt t.2 (a ++ t.1) j = true then comp (pre ++ seeS s z :: post) ((a ++ t.1).eraseIdx j) else 0).sum).sum = ((List.range (a ++ t.1).length).map fun j => if okAt t.2 (a ++ t.1) j = true then comp (pre ++ s :: post) ((a ++ t.1).eraseIdx j) else 0).sum
    rw [sum_swap]
    congr 1
    refine List.map_congr_left fun j _ => ?_
    by_cases k : okAt t.2 (a ++ t.1) j = true
    · simp only [k, if_true]
      exact comp_part nd s post (fun u hu => hp u (List.mem_cons_of_mem _ hu)) hs _ fun y hy => hin y ((List.eraseIdx_sublist ..).subset hy)
    · simp only [k, if_false]
      exact sum_zeroN zs
theorem steps_see (cs : List (Str × Int)) (gs : List Int) (rs : List Rec) {k : Nat} (hk : k < gs.length) (z : Str) :
    steps cs gs rs = (steps cs gs rs).take k ++ stepAt cs gs rs k :: (steps cs gs rs).drop (k + 1) ∧ steps cs gs (rs ++ [((k : Int), .guest z)]) = (steps cs gs rs).take k ++ seeS (stepAt cs gs rs k) z :: (steps cs gs rs).drop (k + 1) := by
  have len : ∀ rs : List Rec, (steps cs gs rs).length = gs.length := fun rs => by
    unfold steps
    rw [List.length_map, List.length_range]
  have at_ : ∀ (rs : List Rec) (i : Nat), i < gs.length → (steps cs gs rs)[i]? = some (stepAt cs gs rs i) := fun rs i hi => by
    unfold steps
    rw [List.getElem?_map, List.getElem?_range hi]
    rfl
  have one : ∀ rs : List Rec, steps cs gs rs = (steps cs gs rs).take k ++ stepAt cs gs rs k :: (steps cs gs rs).drop (k + 1) := fun rs => by
    have h := List.take_append_drop k (steps cs gs rs)
    have hl : k < (steps cs gs rs).length := by rw [len]; exact hk
    have e : (steps cs gs rs)[k] = stepAt cs gs rs k := by
      have := at_ rs k hk
      rw [List.getElem?_eq_getElem hl] at this
      exact Option.some.inj this
    rw [List.drop_eq_getElem_cons hl, e] at h
    exact h.symm
  refine ⟨one rs, ?_⟩
  have other : ∀ i : Nat, i ≠ k → stepAt cs gs (rs ++ [((k : Int), .guest z)]) i = stepAt cs gs rs i := fun i n => by
    unfold stepAt
    rw [seen_snoc, if_neg (by show ¬ ((k : Int) = (i : Int)); omega)]
  have here : stepAt cs gs (rs ++ [((k : Int), .guest z)]) k = seeS (stepAt cs gs rs k) z := by
    unfold stepAt seeS
    rw [seen_snoc, if_pos rfl]
  rw [one (rs ++ [((k : Int), Fc.guest z)]), here]
  have tk : (steps cs gs (rs ++ [((k : Int), .guest z)])).take k = (steps cs gs rs).take k := by
    unfold steps
    rw [← List.map_take, ← List.map_take]
    refine List.map_congr_left fun i hi => other i ?_
    have h2 := List.mem_range.mp (by
      rw [List.take_range] at hi
      exact hi)
    omega
  have dp : (steps cs gs (rs ++ [((k : Int), .guest z)])).drop (k + 1) = (steps cs gs rs).drop (k + 1) := by
    refine List.ext_getElem? fun i => ?_
    rw [List.getElem?_drop, List.getElem?_drop]
    by_cases h : k + 1 + i < gs.length
    · rw [at_ _ _ h, at_ _ _ h, other _ (by omega)]
    · rw [List.getElem?_eq_none (by rw [len]; omega), List.getElem?_eq_none (by rw [len]; omega)]
  rw [tk, dp]
theorem came_names (cs : List (Str × Int)) (b g : Int) : ∀ y ∈ came9 cs b g, y ∈ cs.map fun c => c.1 := fun y hy => by
  obtain ⟨c, hc, rfl⟩ := List.mem_map.mp hy
  exact List.mem_map.mpr ⟨c, (sb_perm cs).mem_iff.mp (List.mem_filter.mp hc).1, rfl⟩
/-- the ways, by who goes at one going -/
theorem ways_part {cs : List (Str × Int)} {gs : List Int} {rs : List Rec} (nd : (cs.map fun c => c.1).Nodup) {k : Nat} (hk : k < gs.length) {zs : List Str} (pz : zs.Perm (cs.map fun c => c.1)) :
    (zs.map fun z => ways cs gs (rs ++ [((k : Int), .guest z)])).sum = ways cs gs rs := by
  have h1 := fun z => (steps_see cs gs rs hk z).2
  have h2 := (steps_see cs gs rs hk "").1
  unfold ways
  conv => rhs; rw [h2]
  have e : (zs.map fun z => comp (steps cs gs (rs ++ [((k : Int), .guest z)])) []) = zs.map fun z => comp ((steps cs gs rs).take k ++ seeS (stepAt cs gs rs k) z :: (steps cs gs rs).drop (k + 1)) [] := List.map_congr_left fun z _ => by rw [h1 z]
  rw [e]
  refine comp_part (pz.nodup_iff.mpr nd) _ _ (fun t ht y hy => ?_) (fun y hy => ?_) [] fun y hy => nomatch hy
  · obtain ⟨i, _, rfl⟩ := List.mem_map.mp (List.mem_of_mem_take ht)
    exact pz.mem_iff.mpr (came_names cs _ _ y hy)
  · exact pz.mem_iff.mpr (came_names cs _ _ y hy)
/-- those who cannot have gone add nothing -/
theorem can_sum (cs : List (Str × Int)) (gs : List Int) (rs : List Rec) (i : Int) : ∀ zs : List Str, ((zs.filter fun z => decide (0 < ways cs gs (rs ++ [(i, .guest z)]))).map fun z => ways cs gs (rs ++ [(i, .guest z)])).sum = (zs.map fun z => ways cs gs (rs ++ [(i, .guest z)])).sum
  | [] => rfl
  | z :: zs => by
    have ih := can_sum cs gs rs i zs
    by_cases c : 0 < ways cs gs (rs ++ [(i, .guest z)])
    · rw [List.filter_cons_of_pos (by simpa using c), List.map_cons, List.sum_cons, List.map_cons, List.sum_cons, ih]
    · rw [List.filter_cons_of_neg (by simpa using c), List.map_cons, List.sum_cons, ih]
      omega
end Jo
set_option Elab.async false
set_option linter.all false
set_option maxRecDepth 100000
set_option maxHeartbeats 4000000
/-! Rows (name, come, go, ..); bottom_up, lifted_from. -/
namespace Sh1
open PySem L2 Sho NdefX Shg
/-! ### the stable sort commutes with maps -/
theorem insK_map {α β : Type} (f : α → β) (p : Int × α) : ∀ l : List (Int × α), insK (p.1, f p.2) (l.map fun q => (q.1, f q.2)) = (insK p l).map fun q => (q.1, f q.2)
  | [] => rfl
  | q :: r => by
    show (if p.1 ≤ q.1 then (p.1, f p.2) :: (q.1, f q.2) :: _ else (q.1, f q.2) :: insK (p.1, f p.2) (r.map fun q => (q.1, f q.2))) = (if p.1 ≤ q.1 then p :: q :: r else q :: insK p r).map _
    split
    · rfl
    · rw [insK_map f p r]
      rfl
theorem sortK_map {α β : Type} (f : α → β) : ∀ l : List (Int × α), sortK (l.map fun q => (q.1, f q.2)) = (sortK l).map fun q => (q.1, f q.2)
  | [] => rfl
  | p :: r => by
    show insK (p.1, f p.2) (sortK (r.map fun q => (q.1, f q.2))) = (insK p (sortK r)).map _
    rw [sortK_map f r, insK_map]
theorem sortV_map {α β : Type} (f : α → β) (kz : List Int) (ys : List α) : sortV kz (ys.map f) = (sortV kz ys).map f := by
  unfold sortV
  have e : kz.zip (ys.map f) = (kz.zip ys).map fun q => (q.1, f q.2) := by
    rw [List.zip_map_right]
    rfl
  rw [e, sortK_map, List.map_map, List.map_map]
  rfl
/-! ### rows -/
structure Rw where
  nm : Str
  come : Int
  go : Int
  more : List Int
  deriving DecidableEq
def rwV (r : Rw) : List V := .str r.nm :: .int r.come :: .int r.go :: r.more.map V.int
def RwAt (H : Hp) (v : V) (r : Rw) : Prop := ∃ t, v = .ref t ∧ H t = some (.tup (rwV r))
theorem RwAt.ext {H H' : Hp} (e : LamX.ExtN H H') {v : V} {r : Rw} (h : RwAt H v r) : RwAt H' v r := by
  obtain ⟨t, rfl, ht⟩ := h
  exact ⟨t, rfl, e _ _ ht fun _ z => nomatch z⟩
theorem RwAt.same {H H' : Hp} (e : Same H H') {v : V} {r : Rw} (h : RwAt H v r) : RwAt H' v r := h.ext (LamX.ExtN.of e)
def rwD (r : Rw) : PyData := .tuple (.str r.nm :: .int r.come :: .int r.go :: r.more.map PyData.int)
theorem eqv_ints : ∀ xs ys : List Int, PyData.eqvAll (xs.map PyData.int) (ys.map PyData.int) = decide (xs = ys)
  | [], [] => rfl
  | [], _ :: _ => rfl
  | _ :: _, [] => rfl
  | x :: xs, y :: ys => by
    show ((x == y) && PyData.eqvAll (xs.map PyData.int) (ys.map PyData.int)) = _
    rw [eqv_ints xs ys, Bool.eq_iff_iff]
    simp
theorem eqv_rw (a b : Rw) : PyData.eqv (rwD a) (rwD b) = decide (a = b) := by
  obtain ⟨a1, a2, a3, a4⟩ := a
  obtain ⟨b1, b2, b3, b4⟩ := b
  show ((a1 == b1) && ((a2 == b2) && ((a3 == b3) && PyData.eqvAll (a4.map PyData.int) (b4.map PyData.int)))) = _
  rw [eqv_ints, Bool.eq_iff_iff]
  simp
abbrev OkRw (r : Rw) : Prop := r.nm.cps.all (· < 0x110000) = true
theorem lay_ints : ∀ xs : List Int, PyData.canLayAll0 (xs.map PyData.int) = true
  | [] => rfl
  | x :: xs => by
    show (true && PyData.canLayAll0 (xs.map PyData.int)) = true
    rw [lay_ints xs]
    rfl
theorem depth_ints : ∀ xs : List Int, PyData.depthAll (xs.map PyData.int) = 0
  | [] => rfl
  | x :: xs => by
    show max (PyData.depth (.int x)) (PyData.depthAll (xs.map PyData.int)) = 0
    rw [depth_ints xs]
    rfl
theorem depth_rw (r : Rw) : PyData.depth (rwD r) = 1 := by
  show PyData.depthAll (.str r.nm :: .int r.come :: .int r.go :: r.more.map PyData.int) + 1 = 1
  have e : PyData.depthAll (.str r.nm :: .int r.come :: .int r.go :: r.more.map PyData.int) = 0 := by
    show max (PyData.depth (.str r.nm)) (max (PyData.depth (.int r.come)) (max (PyData.depth (.int r.go)) (PyData.depthAll (r.more.map PyData.int)))) = 0
    rw [depth_ints]
    rfl
  rw [e]
theorem lay_rw {r : Rw} (h : OkRw r) : PyData.canLay0 (rwD r) = true := by
  show (PyData.canLay0 (.str r.nm) && (true && (true && PyData.canLayAll0 (r.more.map PyData.int)))) = true
  rw [lay_ints]
  simp only [Bool.and_true]
  exact h
theorem shaped_rw {r : Rw} (h : OkRw r) : SeqAt.shaped (rwD r) = true := by
  unfold SeqAt.shaped
  rw [lay_rw h, depth_rw]
  rfl
theorem lay_rws : ∀ {rs : List Rw}, (∀ r ∈ rs, OkRw r) → PyData.canLayAll0 (rs.map rwD) = true
  | [], _ => rfl
  | r :: rs, h => by
    show (PyData.canLay0 (rwD r) && PyData.canLayAll0 (rs.map rwD)) = true
    rw [lay_rw (h r List.mem_cons_self), lay_rws fun x hx => h x (List.mem_cons_of_mem _ hx)]
    rfl
theorem depth_rws : ∀ rs : List Rw, PyData.depthAll (rs.map rwD) ≤ 1
  | [] => Nat.zero_le _
  | r :: rs => by
    show max (PyData.depth (rwD r)) (PyData.depthAll (rs.map rwD)) ≤ 1
    have := depth_rws rs
    rw [depth_rw]
    omega
theorem shaped_rws {rs : List Rw} (h : ∀ r ∈ rs, OkRw r) : SeqAt.shaped (.list (rs.map rwD)) = true := by
  unfold SeqAt.shaped
  have h1 : PyData.canLay0 (.list (rs.map rwD)) = true := lay_rws h
  have h2 : PyData.depth (.list (rs.map rwD)) ≤ 64 := Nat.le_trans (Nat.succ_le_succ (depth_rws rs)) (by decide)
  rw [h1, decide_eq_true h2]
  rfl
end Sh1
/-! bottom_up: told in P2b0, which a law without parties can use too. -/
set_option Elab.async false
set_option linter.all false
set_option maxRecDepth 100000
set_option maxHeartbeats 4000000
namespace Sh1
open PySem L2 Sho NdefX Shg
theorem Grows.of {T : List (Addr × Str)} {H H' : Hp} (s : Same H H') : Grows T H H' := ⟨LamX.ExtN.of s, fun t => LamX.Tabs.ext t s⟩
/-- paired in another order: what a list of pairs says -/
theorem zip_paired {α β : Type} {R : α → β → Prop} {as : List α} {bs : List β} (h : PySem.Paired R as bs) : ∀ q ∈ as.zip bs, R q.1 q.2 := by
  induction h with
  | nil => intro q hq; cases hq
  | cons x r ih =>
    intro q hq
    rcases List.mem_cons.mp hq with rfl | hq
    · exact x
    · exact ih q hq
theorem paired_of {α β : Type} {R : α → β → Prop} : ∀ {l : List (α × β)}, (∀ q ∈ l, R q.1 q.2) → PySem.Paired R (l.map (·.1)) (l.map (·.2))
  | [], _ => .nil
  | q :: l, h => .cons (h q List.mem_cons_self) (paired_of fun x hx => h x (List.mem_cons_of_mem _ hx))
theorem insK_mem {α : Type} {p : Int × α} : ∀ {l : List (Int × α)} {q : Int × α}, q ∈ insK p l ↔ q = p ∨ q ∈ l
  | [], q => by simp [insK]
  | r :: l, q => by
    unfold insK
    split
    · simp
    · rw [List.mem_cons, insK_mem]
      simp only [List.mem_cons]
      constructor
      · rintro (h | h | h)
        · exact .inr (.inl h)
        · exact .inl h
        · exact .inr (.inr h)
      · rintro (h | h | h)
        · exact .inr (.inl h)
        · exact .inl h
        · exact .inr (.inr h)
theorem sortK_mem {α : Type} : ∀ {l : List (Int × α)} {q : Int × α}, q ∈ sortK l ↔ q ∈ l
  | [], q => by simp [sortK]
  | r :: l, q => by
    unfold sortK
    rw [insK_mem, sortK_mem, List.mem_cons]
theorem insK_length {α : Type} {p : Int × α} : ∀ {l : List (Int × α)}, (insK p l).length = l.length + 1
  | [] => rfl
  | r :: l => by
    unfold insK
    split
    · rfl
    · rw [List.length_cons, insK_length, List.length_cons]
theorem sortK_length {α : Type} : ∀ {l : List (Int × α)}, (sortK l).length = l.length
  | [] => rfl
  | r :: l => by
    unfold sortK
    rw [insK_length, sortK_length, List.length_cons]
/-- rows in the order of coming -/
def bot (rs : List Rw) : List Rw := sortV (rs.map Rw.come) rs
def RwsV (H : Hp) (ws : List V) (rs : List Rw) : Prop := PySem.Paired (RwAt H) ws rs
theorem RwsV.ext {H H' : Hp} (e : LamX.ExtN H H') {ws : List V} {rs : List Rw} (h : RwsV H ws rs) : RwsV H' ws rs := pair_mono (fun _ _ k => k.ext e) h
theorem zip_self_snd {α β : Type} : ∀ {as : List α} {bs : List β}, as.length = bs.length → (as.zip bs).map (·.2) = bs ∧ (as.zip bs).map (·.1) = as
  | [], [], _ => ⟨rfl, rfl⟩
  | [], _ :: _, h => by simp at h
  | _ :: _, [], h => by simp at h
  | a :: as, b :: bs, h => by
    obtain ⟨h1, h2⟩ := zip_self_snd (as := as) (bs := bs) (by simpa using h)
    exact ⟨by rw [List.zip_cons_cons, List.map_cons, h1], by rw [List.zip_cons_cons, List.map_cons, h2]⟩
theorem bot_paired {H : Hp} {ws : List V} {rs : List Rw} (h : RwsV H ws rs) : RwsV H (sortV (rs.map Rw.come) ws) (bot rs) := by
  have hl := pair_len h
  obtain ⟨e2, e1⟩ := zip_self_snd hl
  have a : sortV (rs.map Rw.come) ws = (sortV (rs.map Rw.come) (ws.zip rs)).map (·.1) := by
    rw [← sortV_map, e1]
  have b : bot rs = (sortV (rs.map Rw.come) (ws.zip rs)).map (·.2) := by
    unfold bot
    rw [← sortV_map, e2]
  rw [a, b]
  refine paired_of fun q hq => ?_
  unfold sortV at hq
  obtain ⟨x, hx, rfl⟩ := List.mem_map.mp hq
  have := sortK_mem.mp hx
  exact zip_paired h _ (List.of_mem_zip this).2
theorem bot_mem {rs : List Rw} {r : Rw} : r ∈ bot rs ↔ r ∈ rs := by
  unfold bot sortV
  constructor
  · intro h
    obtain ⟨x, hx, rfl⟩ := List.mem_map.mp h
    exact (List.of_mem_zip (sortK_mem.mp hx)).2
  · intro h
    refine List.mem_map.mpr ⟨(r.come, r), sortK_mem.mpr ?_, rfl⟩
    induction rs with
    | nil => cases h
    | cons x rs ih =>
      rw [List.map_cons, List.zip_cons_cons]
      rcases List.mem_cons.mp h with rfl | h
      · exact List.mem_cons_self
      · exact List.mem_cons_of_mem _ (ih h)
theorem bot_length {rs : List Rw} : (bot rs).length = rs.length := by
  unfold bot sortV
  rw [List.length_map, sortK_length, List.length_zip, List.length_map]
  exact Nat.min_self _
/-- those that lie higher than the first x -/
def above (x : Rw) : List Rw → List Rw
  | [] => []
  | r :: rs => if r = x then rs else above x rs
theorem above_ix {x : Rw} : ∀ {l : List Rw}, x ∈ l → ∃ j, l[j]? = some x ∧ (∀ m, m < j → ∀ z, l[m]? = some z → z ≠ x) ∧ l.drop (j + 1) = above x l
  | [], h => nomatch h
  | r :: l, h => by
    by_cases e : r = x
    · refine ⟨0, by rw [e]; rfl, fun m hm => absurd hm (Nat.not_lt_zero _), ?_⟩
      unfold above
      rw [if_pos e]
      rfl
    · obtain ⟨j, h1, h2, h3⟩ := above_ix (x := x) (l := l) ((List.mem_cons.mp h).resolve_left fun z => e z.symm)
      refine ⟨j + 1, by simpa using h1, fun m hm z hz => ?_, ?_⟩
      · cases m with
        | zero =>
          simp at hz
          rw [← hz]
          exact e
        | succ m => exact h2 m (by omega) z (by simpa using hz)
      · unfold above
        rw [if_neg e, ← h3]
        rfl
def crosses (x r : Rw) : Bool := decide (r.come < x.go) && decide (x.go < r.go)
/-- who is lifted when x goes, from the top -/
def lifted (rs : List Rw) (x : Rw) : List Rw := (above x (bot rs)).reverse.filter (crosses x)
theorem paired_drop {α β : Type} {R : α → β → Prop} : ∀ (n : Nat) {as : List α} {bs : List β}, PySem.Paired R as bs → PySem.Paired R (as.drop n) (bs.drop n)
  | 0, _, _, h => h
  | _ + 1, _, _, .nil => .nil
  | n + 1, _, _, .cons _ r => paired_drop n r
theorem paired_rev {α β : Type} {R : α → β → Prop} : ∀ {as : List α} {bs : List β}, PySem.Paired R as bs → PySem.Paired R as.reverse bs.reverse
  | _, _, .nil => .nil
  | _, _, .cons x r => by
    rw [List.reverse_cons, List.reverse_cons]
    exact pair_app (paired_rev r) (.cons x .nil)
theorem paired_filter {α β : Type} {R : α → β → Prop} (p : β → Bool) : ∀ {ws : List α} {xs : List β}, PySem.Paired R ws xs → PySem.Paired R ((ws.zip xs).filterMap fun q => if p q.2 = true then some q.1 else none) (xs.filter p)
  | _, _, .nil => .nil
  | _, _, .cons (a := v) (b := x) h r => by
    have ih := paired_filter p r
    rw [List.zip_cons_cons, List.filterMap_cons, List.filter_cons]
    by_cases e : p x = true
    · simp only [e, if_true]
      exact .cons h ih
    · simp only [e, if_false]
      exact ih
theorem dp_rw {K : PySem.W.Frag} {H : Hp} {v : V} {r : Rw} (h : RwAt H v r) : Dp K H v (rwD r) := by
  obtain ⟨t, rfl, ht⟩ := h
  refine .tup (SqT.of ht) (.cons (.str _) (.cons (.int _) (.cons (.int _) ?_)))
  generalize r.more = l
  induction l with
  | nil => exact .nil
  | cons x l ih => exact .cons (.int _) ih
theorem dp_rws {K : PySem.W.Frag} {H : Hp} : ∀ {ws : List V} {rs : List Rw}, RwsV H ws rs → DpAll K H ws (rs.map rwD)
  | [], [], _ => .nil
  | _ :: _, _ :: _, h => by
    cases h with
    | cons x r => exact .cons (dp_rw x) (dp_rws r)
  | [], _ :: _, h => nomatch h
  | _ :: _, [], h => nomatch h
section
variable {P : Program} {w : World} {K : PySem.W.Frag} {mg : Str → Option Value} {base : Heap}
theorem units65 {k : Nat} {A : Around} (r : Room k A) : A.units + 65 < cLine := by have := r.un; omega
def spLifted (K : PySem.W.Frag) (T : List (Addr × Str)) : Sp := fun vs H Q _ => ∃ (a : Addr) (v : V) (ws : List V) (rs : List Rw) (x : Rw), vs = [.ref a, v] ∧ (SqL K H a ws ∨ SqT K H a ws) ∧ RwsV H ws rs ∧ RwAt H v x ∧ x ∈ rs ∧ (∀ r ∈ rs, OkRw r) ∧ rs.length ≤ 1000 ∧ LamX.Tabs T H ∧
  ∀ p H' ys, Grows T H H' → H' p = some (.lst ys) → RwsV H' ys (lifted rs x) → Q (.ref p) H'
theorem scLifted : FnScope ["stays", "taker", "pile", "later", "stay"] ["stays", "taker"] (defScope sLiftedFrom) := ⟨rfl, rfl, rfl, by decide +kernel, rfl, by decide +kernel, by decide +kernel⟩
theorem ok_lifted {f fB : Addr} {fd fdB : FuncData} {T : List (Addr × Str)} (F : Fun K "lifted_from" "lifted_from" sLiftedFrom f fd) (GB : FnOk P w K mg base CX0 5 fB fdB ["stays"] (spBottom K T)) (mB : mg "bottom_up" = some (.ref fB)) (kB : PySem.W.keepIn K (.ref fB) = true) (bB : Binds K fdB ["stays"] []) :
    FnOk P w K mg base CX0 6 f fd ["stays", "taker"] (spLifted K T) := by
  refine F.ok scLifted (fun vs H Q E h => ?_) (fun cdv A outer s H vs Q E hr h => ?_)
  · obtain ⟨a, v, ws, rs, x, rfl, _⟩ := h
    rfl
  · obtain ⟨a, v, ws, rs, x, rfl, ha, hw, hv, hx, hok, hlen, hT, k⟩ := h
    have nd := scLifted.nd
    refine ⟨_, pss_cons (ps_set (i := 2) nd rfl (Or.inl rfl) (pe_call GB hr rfl mB kB bB .nil pass0 (pa_cons (pv 0) pa_nil)))
      (pss_cons (ps_set (i := 3) nd rfl (Or.inl rfl) (pe_slice sl_list (pv 2) (po_some (pe_op op_add (pe_bm PySem.F.plainAttrs_list PySem.F.slot_list_index PySem.F.type_list_index (mt_indexD (units65 hr)) (pv 2) (pa_cons (pv 1) pa_nil)) pe_int)) po_none))
      (pss_one (ps_ret (pe_lc (own := [("stay", 4)]) (g := gName 4) (tt := tTest (tChain (rI0 fun i j => .bl (decide (i < j))) (rI0 fun i j => .bl (decide (i < j))) (tOp (rIxT K) (tVar 4) (tC (.int 1))) (tOp (rIxT K) (tVar 1) (tC (.int 2))) (tOp (rIxT K) (tVar 4) (tC (.int 2))))) (te := tVar 4) rfl nd (pi_list (pe_revL (pv 3))) (blkOk_by (own := [("stay", 4)]) (N := ["stays", "taker", "pile", "later", "stay"]) (sc := defScope sLiftedFrom) (by decide +kernel))
        (fun _ _ _ _ _ => pg_name (i := 4) nd rfl (Or.inl rfl)) (fun _ _ _ _ _ => pts_one (pt_chain op_lt op_lt (pe_ix ix_tup (pv 4) pe_int (fun _ _ => rfl)) (pe_ix ix_tup (pv 1) pe_int (fun _ _ => rfl)) (pe_ix ix_tup (pv 4) pe_int (fun _ _ => rfl)))) (fun _ _ _ _ _ => pv 4))))), ?_⟩
    refine ⟨_, rfl, a, ws, rs.map Rw.come, rfl, ha, ?_, ?_, hT, fun pb H1 G1 e1 => ?_⟩
    · rw [List.length_map, pair_len hw]
    · intro i y n hy hn
      obtain ⟨r, hr', t, rfl, ht⟩ := pair_get hw hy
      rw [List.getElem?_map, hr'] at hn
      exact ⟨t, _, rfl, ht, congrArg (Option.map V.int) hn⟩
    · have hb := bot_paired (hw.ext G1.ext)
      have lb := pair_len hb
      have hokb : ∀ r ∈ bot rs, OkRw r := fun r hr' => hok r (bot_mem.mp hr')
      obtain ⟨j, hj1, hj2, hj3⟩ := above_ix (bot_mem.mpr hx)
      have hjlt : j < (bot rs).length := (List.getElem?_eq_some_iff.mp hj1).1
      refine ⟨_, rfl, _, rfl, .inl ⟨rfl, _, SqL.of e1⟩, _, rfl, pb, v, rwD x, (bot rs).map rwD, j, rwD x, rfl, rfl, .lst (SqL.of e1) (dp_rws hb), dp_rw (hv.ext G1.ext), shaped_rws hokb, shaped_rw (hok x hx), ?_, ?_, ?_, ?_⟩
      · rw [List.getElem?_map, hj1]
        rfl
      · rw [eqv_rw]
        exact decide_eq_true rfl
      · intro m z' hm hz
        rw [List.getElem?_map] at hz
        obtain ⟨z, hz1, rfl⟩ := Option.map_eq_some_iff.mp hz
        rw [eqv_rw]
        exact decide_eq_false (hj2 m hm z hz1)
      · refine ⟨_, _, rfl, rfl, _, rfl, pb, _, rfl, SqL.of e1, fun p2 hp2 => ?_⟩
        have ec : cutV (sortV (rs.map Rw.come) ws) (some ((j : Int) + 1)) none = (sortV (rs.map Rw.come) ws).drop (j + 1) := by
          unfold cutV
          rw [show (some ((j : Int) + 1)) = some ((j + 1 : Nat) : Int) from rfl, HT.sIx_nat, HT.sIx_none, Nat.min_eq_left (by omega)]
          exact List.take_of_length_le (by rw [List.length_drop]; exact Nat.le_refl _)
        rw [ec]
        generalize hys : (sortV (rs.map Rw.come) ws).drop (j + 1) = ys
        have s2 : Same H1 (upd H1 p2 (.lst ys)) := same_upd hp2
        have y1 : RwsV H1 ys (above x (bot rs)) := by
          rw [← hys, ← hj3]
          exact paired_drop _ hb
        have g2 : (upd H1 p2 (.lst ys)) p2 = some (.lst ys) := upd_same
        generalize upd H1 p2 (.lst ys) = H2 at s2 g2 ⊢
        refine ⟨_, rfl, p2, ys, rfl, SqL.of g2, fun p3 hp3 => ?_⟩
        have s3 : Same H2 (upd H2 p3 (.lst ys.reverse)) := same_upd hp3
        have g3 : (upd H2 p3 (.lst ys.reverse)) p3 = some (.lst ys.reverse) := upd_same
        have s4 := s2.trans s3
        generalize upd H2 p3 (.lst ys.reverse) = H3 at s3 g3 s4 ⊢
        have y3 : RwsV H3 ys.reverse (above x (bot rs)).reverse := paired_rev (y1.ext (LamX.ExtN.of s4))
        generalize hZ : (above x (bot rs)).reverse = Z at y3
        refine ⟨p3, rfl, ⟨_, SqL.of g3⟩, fun D hD => ?_⟩
        obtain ⟨tx, rfl, htx⟩ := hv.ext (G1.ext.trans (LamX.ExtN.of s4))
        have lz : ys.reverse.length = Z.length := pair_len y3
        have ly : ys.length ≤ 1000 := by
          have := pair_len y1
          rw [← hys, List.length_drop]
          have := pair_len hw
          rw [lb, bot_length]
          omega
        refine lc_gather walk_list (fun i => ((ys.reverse.zip Z)[i]?).bind fun q => if crosses x q.2 = true then some q.1 else none) hD (by rw [List.length_reverse]; exact Nat.le_trans ly (by decide)) (fun H4 s5 => SqL.of (s5 _ _ g3)) (fun i v H4 H5 hi s5 y R k1 => ?_) fun H4 s5 e4 => ?_
        · obtain ⟨rfl, e2⟩ := y
          obtain ⟨r, hr', t', rfl, ht'⟩ := pair_get y3 e2
          have k2 := k1 _ (Same.refl _)
          have ez : (ys.reverse.zip Z)[i]? = some (.ref t', r) := by
            rw [List.getElem?_zip_eq_some]
            exact ⟨e2, hr'⟩
          rw [ez] at k2
          simp only [Option.bind_some] at k2
          have t1 := SqT.of (K := K) (s5 _ _ ht')
          have t2 := SqT.of (K := K) (s5 _ _ htx)
          refine ⟨rfl, _, rfl, t', _, 1, .int r.come, rfl, rfl, t1, atI_nat (j := 1) rfl, _, rfl, tx, _, 2, .int x.go, rfl, rfl, t2, atI_nat (j := 2) rfl, _, _, rfl, rfl, _, rfl, ?_⟩
          by_cases c1 : r.come < x.go
          · rw [if_pos (decide_eq_true c1)]
            refine ⟨_, rfl, t', _, 2, .int r.go, rfl, rfl, t1, atI_nat (j := 2) rfl, _, _, rfl, rfl, ?_⟩
            by_cases c2 : x.go < r.go
            · have e : crosses x r = true := by
                unfold crosses
                rw [decide_eq_true c1, decide_eq_true c2]
                rfl
              rw [if_pos e] at k2
              exact ⟨_, rfl, ite2 (fun _ => ⟨_, rfl, k2⟩) (fun h => absurd (decide_eq_true c2) h)⟩
            · have e : crosses x r = false := by
                unfold crosses
                rw [decide_eq_true c1, decide_eq_false c2]
                rfl
              rw [if_neg (by rw [e]; exact Bool.false_ne_true)] at k2
              exact ⟨_, rfl, ite2 (fun h => absurd (of_decide_eq_true h) c2) (fun _ => k2)⟩
          · have e : crosses x r = false := by
              unfold crosses
              rw [decide_eq_false c1]
              rfl
            rw [if_neg (by rw [e]; exact Bool.false_ne_true)] at k2
            rw [if_neg (by rw [decide_eq_false c1]; exact Bool.false_ne_true)]
            exact ⟨_, rfl, iteF k2⟩
        · have ez : (ys.reverse.zip Z).length = ys.reverse.length := by
            rw [List.length_zip, lz]
            exact Nat.min_self _
          rw [← ez, gather_list] at e4
          have sv := paired_filter (crosses x) (pair_mono (fun _ _ k => RwAt.same s5 k) y3)
          rw [← hZ] at sv
          rw [← hZ] at e4
          exact k D _ _ ((G1.trans (Sh1.Grows.of s4)).trans (Sh1.Grows.of s5)) e4 sv
end
end Sh1
set_option Elab.async false
set_option linter.all false
set_option maxRecDepth 100000
set_option maxHeartbeats 4000000
/-! What is sorted: bot is a permutation, in the order of coming, stable. -/
namespace Sh1
open PySem L2 Sho NdefX Shg
theorem insK_perm {α : Type} {p : Int × α} : ∀ {l : List (Int × α)}, (insK p l).Perm (p :: l)
  | [] => List.Perm.refl _
  | q :: l => by
    unfold insK
    split
    · exact List.Perm.refl _
    · exact ((insK_perm (p := p) (l := l)).cons q).trans (List.Perm.swap p q l)
theorem sortK_perm {α : Type} : ∀ {l : List (Int × α)}, (sortK l).Perm l
  | [] => List.Perm.refl _
  | q :: l => by
    unfold sortK
    exact insK_perm.trans ((sortK_perm (l := l)).cons q)
theorem insK_sorted {α : Type} {p : Int × α} : ∀ {l : List (Int × α)}, l.Pairwise (fun a b => a.1 ≤ b.1) → (insK p l).Pairwise (fun a b => a.1 ≤ b.1)
  | [], _ => by
    unfold insK
    simp
  | q :: l, h => by
    rw [List.pairwise_cons] at h
    unfold insK
    split
    · rename_i hle
      rw [List.pairwise_cons]
      refine ⟨fun b hb => ?_, List.pairwise_cons.mpr h⟩
      rcases List.mem_cons.mp hb with rfl | hb
      · exact hle
      · exact Int.le_trans hle (h.1 b hb)
    · rename_i hle
      rw [List.pairwise_cons]
      refine ⟨fun b hb => ?_, insK_sorted h.2⟩
      rcases insK_mem.mp hb with rfl | hb
      · omega
      · exact h.1 b hb
theorem sortK_sorted {α : Type} : ∀ {l : List (Int × α)}, (sortK l).Pairwise (fun a b => a.1 ≤ b.1)
  | [] => by
    unfold sortK
    exact List.Pairwise.nil
  | q :: l => by
    unfold sortK
    exact insK_sorted sortK_sorted
theorem zip_map_self {α β : Type} (f : α → β) : ∀ l : List α, (l.map f).zip l = l.map fun x => (f x, x)
  | [] => rfl
  | x :: l => by rw [List.map_cons, List.zip_cons_cons, zip_map_self f l, List.map_cons]
theorem bot_perm (rs : List Rw) : (bot rs).Perm rs := by
  unfold bot sortV
  rw [zip_map_self]
  refine (sortK_perm.map _).trans ?_
  rw [List.map_map]
  simp [Function.comp_def]
theorem bot_sorted (rs : List Rw) : (bot rs).Pairwise (fun a b => a.come ≤ b.come) := by
  unfold bot sortV
  rw [zip_map_self]
  rw [List.pairwise_map]
  refine List.Pairwise.imp_of_mem (fun {a b} ha hb h => ?_) sortK_sorted
  obtain ⟨x, _, rfl⟩ := List.mem_map.mp (sortK_mem.mp ha)
  obtain ⟨y, _, rfl⟩ := List.mem_map.mp (sortK_mem.mp hb)
  exact h
theorem bot_key {rs : List Rw} : ∀ q ∈ sortK (rs.map fun x => (x.come, x)), q.1 = q.2.come := fun q hq => by
  obtain ⟨x, _, rfl⟩ := List.mem_map.mp (sortK_mem.mp hq)
  rfl
theorem sortV_self (f : Rw → Int) (rs : List Rw) : sortV (rs.map f) rs = (sortK (rs.map fun x => (f x, x))).map (·.2) := by
  unfold sortV
  rw [zip_map_self]
theorem sortV_filter (f : Rw → Int) (rs : List Rw) (c : Int) : (sortV (rs.map f) rs).filter (fun r => decide (f r = c)) = rs.filter fun r => decide (f r = c) := by
  have key : ∀ q ∈ sortK (rs.map fun x => (f x, x)), q.1 = f q.2 := fun q hq => by
    obtain ⟨x, _, rfl⟩ := List.mem_map.mp (sortK_mem.mp hq)
    rfl
  rw [sortV_self, List.filter_map]
  have e1 : (sortK (rs.map fun x => (f x, x))).filter ((fun r => decide (f r = c)) ∘ fun x => x.2) = (sortK (rs.map fun x => (f x, x))).filter fun q => q.1 == c :=
    List.filter_congr fun q hq => by
      show decide (f q.2 = c) = (q.1 == c)
      rw [key q hq, Bool.eq_iff_iff]
      simp
  rw [e1, sortK_filter, List.filter_map, List.map_map]
  have e2 : ((fun x : Int × Rw => x.2) ∘ fun x : Rw => (f x, x)) = id := rfl
  rw [e2, List.map_id]
  refine List.filter_congr fun x _ => ?_
  show (f x == c) = decide (f x = c)
  rw [Bool.eq_iff_iff]
  simp
theorem sortV_perm (f : Rw → Int) (rs : List Rw) : (sortV (rs.map f) rs).Perm rs := by
  rw [sortV_self]
  refine (sortK_perm.map _).trans ?_
  rw [List.map_map]
  simp [Function.comp_def]
theorem sortV_sorted (f : Rw → Int) (rs : List Rw) : (sortV (rs.map f) rs).Pairwise (fun a b => f a ≤ f b) := by
  rw [sortV_self, List.pairwise_map]
  refine List.Pairwise.imp_of_mem (fun {a b} ha hb h => ?_) sortK_sorted
  obtain ⟨x, _, rfl⟩ := List.mem_map.mp (sortK_mem.mp ha)
  obtain ⟨y, _, rfl⟩ := List.mem_map.mp (sortK_mem.mp hb)
  exact h
end Sh1
set_option Elab.async false
set_option linter.all false
set_option maxRecDepth 100000
set_option maxHeartbeats 4000000
/-! Rows played tick by tick: who lifts whom, as pairs of rows; numbers only. -/
namespace Pq
open PySem L2 Sho NdefX Shg Sh1
/-- the takers in the order of going, who lie higher first -/
def takers (rs : List Rw) : List Rw := sortV ((bot rs).reverse.map Rw.go) (bot rs).reverse
def crossed (rs : List Rw) : List (Rw × Rw) := (takers rs).flatMap fun x => (lifted rs x).map fun y => (x, y)
theorem takers_mem {rs : List Rw} {r : Rw} (h : r ∈ takers rs) : r ∈ rs := by
  unfold takers sortV at h
  obtain ⟨x, hx, rfl⟩ := List.mem_map.mp h
  exact bot_mem.mp (List.mem_reverse.mp (List.of_mem_zip (sortK_mem.mp hx)).2)
/-- the goings of a tick, from the top down: what is lifted, the pile that is left -/
def gone (t : Int) : List Rw → List (Rw × Rw) × List Rw
  | [] => ([], [])
  | p :: l => if p.go = t then ((gone t l).1 ++ (gone t l).2.reverse.map fun y => (p, y), (gone t l).2) else ((gone t l).1, p :: (gone t l).2)
/-- one tick: what is lifted, the pile behind it -/
def tickOf (rs : List Rw) (t : Int) (pile : List Rw) : List (Rw × Rw) × List Rw := ((gone t pile).1, (gone t pile).2 ++ rs.filter fun r => decide (r.come = t))
def playOn (rs : List Rw) : List Int → List Rw → List (Rw × Rw)
  | [], _ => []
  | t :: ts, pile => (tickOf rs t pile).1 ++ playOn rs ts (tickOf rs t pile).2
def liftsOf (rs : List Rw) (x : Rw) : List (Rw × Rw) := (lifted rs x).map fun y => (x, y)
theorem gone_left (t : Int) : ∀ l : List Rw, (gone t l).2 = l.filter fun r => decide (r.go ≠ t)
  | [] => rfl
  | p :: l => by
    unfold gone
    by_cases h : p.go = t
    · rw [if_pos h, List.filter_cons, if_neg (by simp [h])]
      exact gone_left t l
    · rw [if_neg h, List.filter_cons, if_pos (by simp [h])]
      show p :: (gone t l).2 = _
      rw [gone_left t l]
theorem above_cons_ne {x p : Rw} {l : List Rw} (h : p ≠ x) : above x (p :: l) = above x l := by
  show (if p = x then l else above x l) = _
  rw [if_neg h]
theorem above_cons_eq {x : Rw} {l : List Rw} : above x (x :: l) = l := by
  show (if x = x then l else above x l) = _
  rw [if_pos rfl]
theorem flat_congrI {α β : Type} {f g : α → List β} : ∀ {l : List α}, (∀ x ∈ l, f x = g x) → l.flatMap f = l.flatMap g
  | [], _ => rfl
  | x :: l, h => by
    rw [List.flatMap_cons, List.flatMap_cons, h x List.mem_cons_self, flat_congrI fun y hy => h y (List.mem_cons_of_mem _ hy)]
theorem flat_congr {α β : Type} {f g : α → List β} : ∀ {l : List α}, (∀ x ∈ l, f x = g x) → l.flatMap f = l.flatMap g
  | [], _ => rfl
  | x :: l, h => by
    rw [List.flatMap_cons, List.flatMap_cons, h x List.mem_cons_self, flat_congr fun y hy => h y (List.mem_cons_of_mem _ hy)]
theorem gone_out (t : Int) : ∀ l : List Rw, l.Nodup → (gone t l).1 = (l.filter fun r => decide (r.go = t)).reverse.flatMap fun x => ((above x l).filter fun r => decide (r.go ≠ t)).reverse.map fun y => (x, y)
  | [], _ => rfl
  | p :: l, nd => by
    rw [List.nodup_cons] at nd
    have ih := gone_out t l nd.2
    have cg : (l.filter fun r => decide (r.go = t)).reverse.flatMap (fun x => ((above x (p :: l)).filter fun r => decide (r.go ≠ t)).reverse.map fun y => (x, y)) = (gone t l).1 := by
      rw [ih]
      refine flat_congr fun x hx => ?_
      have hxl : x ∈ l := (List.mem_filter.mp (List.mem_reverse.mp hx)).1
      rw [above_cons_ne fun e => nd.1 (by rw [e]; exact hxl)]
    unfold gone
    by_cases h : p.go = t
    · rw [if_pos h, List.filter_cons, if_pos (by simp [h]), List.reverse_cons, List.flatMap_append, cg, List.flatMap_cons, List.flatMap_nil, List.append_nil, above_cons_eq, gone_left]
    · rw [if_neg h, List.filter_cons, if_neg (by simp [h])]
      exact cg.symm
theorem above_filter {p : Rw → Bool} {x : Rw} (hp : p x = true) : ∀ l : List Rw, above x (l.filter p) = (above x l).filter p
  | [] => rfl
  | r :: l => by
    by_cases e : r = x
    · subst e
      rw [List.filter_cons, if_pos hp, above_cons_eq, above_cons_eq]
    · rw [above_cons_ne e, List.filter_cons]
      split
      · rw [above_cons_ne e, above_filter hp l]
      · exact above_filter hp l
theorem bot_filter (rs : List Rw) (c : Int) : (bot rs).filter (fun r => decide (r.come = c)) = rs.filter fun r => decide (r.come = c) := sortV_filter Rw.come rs c
theorem sorted_split {f : Rw → Int} {t : Int} : ∀ {l : List Rw}, l.Pairwise (fun a b => f a ≤ f b) → l.filter (fun r => decide (f r ≤ t)) = l.filter (fun r => decide (f r < t)) ++ l.filter (fun r => decide (f r = t))
  | [], _ => rfl
  | r :: l, h => by
    rw [List.pairwise_cons] at h
    have ih := sorted_split (t := t) h.2
    rcases Int.lt_trichotomy (f r) t with e | e | e
    · rw [List.filter_cons, if_pos (by simp; omega), List.filter_cons, if_pos (by simp; omega), List.filter_cons, if_neg (by simp; omega), ih]
      rfl
    · have z : l.filter (fun r => decide (f r < t)) = [] := by
        rw [List.filter_eq_nil_iff]
        intro a ha
        have := h.1 a ha
        simp
        omega
      rw [z] at ih
      rw [List.filter_cons, if_pos (by simp; omega), List.filter_cons, if_neg (by simp; omega), z, List.filter_cons, if_pos (by simp; omega), ih]
      rfl
    · have z : ∀ a ∈ l, t < f a := fun a ha => by
        have := h.1 a ha
        omega
      have z1 : l.filter (fun r => decide (f r ≤ t)) = [] := by
        rw [List.filter_eq_nil_iff]
        intro a ha
        have := z a ha
        simp
        omega
      rw [z1] at ih
      rw [List.filter_cons, if_neg (by simp; omega), List.filter_cons, if_neg (by simp; omega), List.filter_cons, if_neg (by simp; omega), z1, ← ih]
/-- what lies on the pile behind tick t -/
def pileOf (rs : List Rw) (t : Int) : List Rw := (bot rs).filter fun r => decide (r.come ≤ t) && decide (t < r.go)
/-- .. and ahead of the goings of tick t -/
def pileTo (rs : List Rw) (t : Int) : List Rw := (bot rs).filter fun r => decide (r.come < t) && decide (t ≤ r.go)
theorem tick_pile {rs : List Rw} (hv : ∀ r ∈ rs, r.come < r.go) (t : Int) : (tickOf rs t (pileTo rs t)).2 = pileOf rs t := by
  show (gone t (pileTo rs t)).2 ++ _ = _
  rw [gone_left]
  unfold pileTo pileOf
  rw [List.filter_filter]
  have s := sorted_split (f := Rw.come) (t := t) (bot_sorted rs)
  have e : (bot rs).filter (fun r => decide (r.come ≤ t) && decide (t < r.go)) = ((bot rs).filter fun r => decide (r.come ≤ t)).filter fun r => decide (t < r.go) := by
    rw [List.filter_filter]
    exact List.filter_congr fun r _ => Bool.and_comm ..
  rw [e, s, List.filter_append, List.filter_filter, bot_filter]
  congr 1
  · refine List.filter_congr fun r _ => ?_
    rw [Bool.eq_iff_iff]
    simp
    omega
  · refine (List.filter_eq_self.mpr fun r hr => ?_).symm
    obtain ⟨h1, h2⟩ := List.mem_filter.mp hr
    have := hv r h1
    simp at h2 ⊢
    omega
theorem nodup_bot {rs : List Rw} (h : rs.Nodup) : (bot rs).Nodup := (bot_perm rs).nodup_iff.mpr h
theorem tick_out {rs : List Rw} (hv : ∀ r ∈ rs, r.come < r.go) (nd : rs.Nodup) (t : Int) : (tickOf rs t (pileTo rs t)).1 = ((bot rs).reverse.filter fun r => decide (r.go = t)).flatMap (liftsOf rs) := by
  show (gone t (pileTo rs t)).1 = _
  have nd' : (pileTo rs t).Nodup := (nodup_bot nd).filter _
  rw [gone_out t _ nd']
  have e1 : ((pileTo rs t).filter fun r => decide (r.go = t)).reverse = (bot rs).reverse.filter fun r => decide (r.go = t) := by
    rw [List.filter_reverse]
    congr 1
    unfold pileTo
    rw [List.filter_filter]
    refine List.filter_congr fun r hr => ?_
    have := hv r (bot_mem.mp hr)
    rw [Bool.eq_iff_iff]
    simp
    omega
  rw [e1]
  refine flat_congr fun x hx => ?_
  obtain ⟨hx1, hx2⟩ := List.mem_filter.mp hx
  have hxb : x ∈ bot rs := List.mem_reverse.mp hx1
  have xg : x.go = t := of_decide_eq_true hx2
  have xc := hv x (bot_mem.mp hxb)
  unfold liftsOf lifted
  congr 1
  rw [List.filter_reverse]
  congr 1
  unfold pileTo
  rw [above_filter (by simp; omega), List.filter_filter]
  refine List.filter_congr fun r hr => ?_
  unfold crosses
  rw [Bool.eq_iff_iff]
  simp
  omega
theorem pile_between {rs : List Rw} {p t : Int} (hpt : p < t) (h : ∀ r ∈ rs, (r.come ≤ p ∨ t ≤ r.come) ∧ (r.go ≤ p ∨ t ≤ r.go)) : pileOf rs p = pileTo rs t := by
  unfold pileOf pileTo
  refine List.filter_congr fun r hr => ?_
  have := h r (bot_mem.mp hr)
  rw [Bool.eq_iff_iff]
  simp
  omega
theorem play_ticks {rs : List Rw} (hv : ∀ r ∈ rs, r.come < r.go) (nd : rs.Nodup) : ∀ (ts : List Int) (p : Int), ts.Pairwise (fun a b => a < b) → (∀ t ∈ ts, p < t) → (∀ r ∈ rs, (r.come ≤ p ∨ r.come ∈ ts) ∧ (r.go ≤ p ∨ r.go ∈ ts)) →
    playOn rs ts (pileOf rs p) = ts.flatMap fun t => ((bot rs).reverse.filter fun r => decide (r.go = t)).flatMap (liftsOf rs)
  | [], _, _, _, _ => rfl
  | t :: ts, p, hs, hp, hc => by
    rw [List.pairwise_cons] at hs
    have ge : ∀ z, z ∈ t :: ts → t ≤ z := fun z hz => by
      rcases List.mem_cons.mp hz with rfl | hz
      · exact Int.le_refl _
      · exact Int.le_of_lt (hs.1 z hz)
    have e := pile_between (rs := rs) (hp t List.mem_cons_self) fun r hr => ⟨(hc r hr).1.imp id (ge _), (hc r hr).2.imp id (ge _)⟩
    show (tickOf rs t (pileOf rs p)).1 ++ playOn rs ts (tickOf rs t (pileOf rs p)).2 = _
    rw [e, tick_pile hv, tick_out hv nd, List.flatMap_cons]
    congr 1
    refine play_ticks hv nd ts t hs.2 hs.1 fun r hr => ?_
    have := hp t List.mem_cons_self
    constructor
    · rcases (hc r hr).1 with h | h
      · exact .inl (by omega)
      · rcases List.mem_cons.mp h with h | h
        · exact .inl (by omega)
        · exact .inr h
    · rcases (hc r hr).2 with h | h
      · exact .inl (by omega)
      · rcases List.mem_cons.mp h with h | h
        · exact .inl (by omega)
        · exact .inr h
theorem sorted_flat {f : Rw → Int} : ∀ (ts : List Int) (l : List Rw), ts.Pairwise (fun a b => a < b) → l.Pairwise (fun a b => f a ≤ f b) → (∀ r ∈ l, f r ∈ ts) → ts.flatMap (fun t => l.filter fun r => decide (f r = t)) = l
  | [], [], _, _, _ => rfl
  | [], r :: l, _, _, h => nomatch h r List.mem_cons_self
  | t :: ts, l, hs, hl, h => by
    rw [List.pairwise_cons] at hs
    have ge : ∀ r ∈ l, t ≤ f r := fun r hr => by
      rcases List.mem_cons.mp (h r hr) with e | e
      · omega
      · exact Int.le_of_lt (hs.1 _ e)
    have ih := sorted_flat ts (l.filter fun r => decide (t < f r)) hs.2 (hl.filter _) fun r hr => by
      obtain ⟨h1, h2⟩ := List.mem_filter.mp hr
      have h2 := of_decide_eq_true h2
      rcases List.mem_cons.mp (h r h1) with e | e
      · omega
      · exact e
    have e1 : ts.flatMap (fun z => l.filter fun r => decide (f r = z)) = ts.flatMap fun z => (l.filter fun r => decide (t < f r)).filter fun r => decide (f r = z) := flat_congr fun z hz => by
      have := hs.1 z hz
      rw [List.filter_filter]
      refine List.filter_congr fun r _ => ?_
      rw [Bool.eq_iff_iff]
      simp
      omega
    rw [List.flatMap_cons, e1, ih]
    have key : ∀ m : List Rw, m.Pairwise (fun a b => f a ≤ f b) → (∀ r ∈ m, t ≤ f r) → (m.filter fun r => decide (f r = t)) ++ (m.filter fun r => decide (t < f r)) = m := fun m => by
      induction m with
      | nil => intros; rfl
      | cons r m ihm =>
        intro hm hg
        rw [List.pairwise_cons] at hm
        have g0 := hg r List.mem_cons_self
        by_cases e : f r = t
        · rw [List.filter_cons, if_pos (by simp [e]), List.filter_cons, if_neg (by simp; omega), List.cons_append, ihm hm.2 fun y hy => hg y (List.mem_cons_of_mem _ hy)]
        · have z : (m.filter fun r => decide (f r = t)) = [] := by
            rw [List.filter_eq_nil_iff]
            intro a ha
            have := hm.1 a ha
            simp
            omega
          have ih2 := ihm hm.2 fun y hy => hg y (List.mem_cons_of_mem _ hy)
          rw [z, List.nil_append] at ih2
          rw [List.filter_cons, if_neg (by simp [e]), z, List.nil_append, List.filter_cons, if_pos (by simp; omega), ih2]
    exact key l hl ge
/-- the theorem: a party that is played lifts as `crossed` tells -/
theorem play_crossed {rs : List Rw} (hv : ∀ r ∈ rs, r.come < r.go) (nd : rs.Nodup) {ts : List Int} (hs : ts.Pairwise (fun a b => a < b)) (hc : ∀ r ∈ rs, r.come ∈ ts ∧ r.go ∈ ts) : playOn rs ts [] = crossed rs := by
  obtain ⟨p, hp⟩ : ∃ p : Int, ∀ t ∈ ts, p < t := by
    clear hc
    induction ts with
    | nil => exact ⟨0, fun _ h => nomatch h⟩
    | cons t ts _ =>
      rw [List.pairwise_cons] at hs
      refine ⟨t - 1, fun z hz => ?_⟩
      rcases List.mem_cons.mp hz with rfl | hz
      · omega
      · have := hs.1 z hz
        omega
  have e0 : ([] : List Rw) = pileOf rs p := by
    unfold pileOf
    refine (List.filter_eq_nil_iff.mpr fun r hr => ?_).symm
    have := hp _ (hc r (bot_mem.mp hr)).1
    simp
    omega
  rw [e0, play_ticks hv nd ts p hs hp fun r hr => ⟨.inr (hc r hr).1, .inr (hc r hr).2⟩]
  have st := sorted_flat (f := Rw.go) ts (takers rs) hs (sortV_sorted Rw.go _) fun r hr => (hc r (takers_mem hr)).2
  show _ = (takers rs).flatMap (liftsOf rs)
  rw [← st]
  have fl : ∀ l : List Int, (l.flatMap fun t => (takers rs).filter fun r => decide (r.go = t)).flatMap (liftsOf rs) = l.flatMap fun t => ((bot rs).reverse.filter fun r => decide (r.go = t)).flatMap (liftsOf rs) := fun l => by
    induction l with
    | nil => rfl
    | cons t l ih =>
      rw [List.flatMap_cons, List.flatMap_append, ih, List.flatMap_cons]
      congr 2
      exact sortV_filter Rw.go (bot rs).reverse t
  exact (fl ts).symm
end Pq
set_option Elab.async false
set_option linter.all false
set_option maxRecDepth 100000
set_option maxHeartbeats 400000
set_option autoImplicit false
/-! How the guests of a party really went is one of the ways; numbers only. -/
namespace Jo
open PySem L2 Sho NdefX Shg Sh1 Go
abbrev nmc (r : Rw) : Str × Int := (r.nm, r.come)
/-- a party all of whom go in different ticks: ord in the order of going -/
structure Plan (rs : List Rw) (gs : List Int) (ord : List Rw) : Prop where
  tm : ∀ r ∈ rs, 0 ≤ r.come ∧ r.come < r.go
  gos : (rs.map Rw.go).Nodup
  nms : (rs.map Rw.nm).Nodup
  rise : gs.Pairwise (· < ·)
  all : ∀ r ∈ rs, r.go ∈ gs
  og : ord.map Rw.go = gs
  om : ∀ x ∈ ord, x ∈ rs
  few : rs.length ≤ 10
theorem sb_bot (rs : List Rw) : sb (rs.map nmc) = (bot rs).map nmc := by
  unfold sb bot
  have : (rs.map nmc).map (fun c => c.2) = rs.map Rw.come := by
    rw [List.map_map]
    rfl
  rw [this]
  exact sortV_map nmc _ _
def pileAt (rs : List Rw) (g : Int) : List Rw := (bot rs).filter fun r => decide (r.come < g) && decide (g ≤ r.go)
def afterAt (rs : List Rw) (g : Int) : List Rw := (bot rs).filter fun r => decide (r.come < g) && decide (g < r.go)
theorem came_bot (rs : List Rw) (b g : Int) : came9 (rs.map nmc) b g = ((bot rs).filter fun r => decide (b ≤ r.come) && decide (r.come < g)).map Rw.nm := by
  unfold came9
  rw [sb_bot, List.filter_map, List.map_map]
  rfl
theorem pile_join {rs : List Rw} {b g : Int} (hbg : b < g ∨ b = 0) (tm : ∀ r ∈ rs, 0 ≤ r.come ∧ r.come < r.go) (hg : 0 ≤ g) (no : ∀ r ∈ rs, b < r.go → g ≤ r.go) : (afterAt rs b).map Rw.nm ++ came9 (rs.map nmc) b g = (pileAt rs g).map Rw.nm := by
  rw [came_bot, ← List.map_append]
  congr 1
  have le : b ≤ g := by omega
  have srt : ((bot rs).filter fun r => decide (g ≤ r.go)).Pairwise fun x y => x.come ≤ y.come := (bot_sorted rs).filter _
  have h := filter_split Rw.come le srt
  have e1 : ((bot rs).filter fun r => decide (g ≤ r.go)).filter (fun r => decide (r.come < g)) = pileAt rs g := by
    rw [List.filter_filter]
    rfl
  have e2 : ((bot rs).filter fun r => decide (g ≤ r.go)).filter (fun r => decide (r.come < b)) = afterAt rs b := by
    rw [List.filter_filter]
    refine List.filter_congr fun r hr => ?_
    have h1 := no r (bot_mem.mp hr)
    have h2 := tm r (bot_mem.mp hr)
    rw [Bool.eq_iff_iff]
    simp only [Bool.and_eq_true, decide_eq_true_eq]
    omega
  have e3 : ((bot rs).filter fun r => decide (g ≤ r.go)).filter (fun r => decide (b ≤ r.come) && decide (r.come < g)) = (bot rs).filter fun r => decide (b ≤ r.come) && decide (r.come < g) := by
    rw [List.filter_filter]
    refine List.filter_congr fun r hr => ?_
    have h1 := no r (bot_mem.mp hr)
    have h2 := tm r (bot_mem.mp hr)
    rw [Bool.eq_iff_iff]
    simp only [Bool.and_eq_true, decide_eq_true_eq]
    omega
  rw [e1, e2, e3] at h
  exact h.symm
theorem split_at {x : Rw} : ∀ {l : List Rw}, x ∈ l → ∃ l1, l = l1 ++ x :: above x l ∧ x ∉ l1
  | r :: l, h => by
    by_cases e : r = x
    · subst e
      exact ⟨[], by rw [Pq.above_cons_eq]; rfl, fun z => nomatch z⟩
    · obtain ⟨l1, h1, h2⟩ := split_at ((List.mem_cons.mp h).resolve_left fun z => e z.symm)
      refine ⟨r :: l1, ?_, fun z => (List.mem_cons.mp z).elim (fun z => e z.symm) h2⟩
      rw [Pq.above_cons_ne e, List.cons_append, ← h1]
/-- who goes at a tick: where they lie, what is left, how many lie above -/
theorem goes {rs : List Rw} {x : Rw} (nd : rs.Nodup) (hx : x ∈ rs) (lt : x.come < x.go) (one : ∀ r ∈ rs, r.go = x.go → r = x) : ∃ j, ((pileAt rs x.go).map Rw.nm)[j]? = some x.nm ∧ ((pileAt rs x.go).map Rw.nm).eraseIdx j = (afterAt rs x.go).map Rw.nm ∧
    ((((pileAt rs x.go).map Rw.nm).length : Nat) : Int) - (j : Int) - 1 = ((lifted rs x).length : Nat) := by
  have hp : (decide (x.come < x.go) && decide (x.go ≤ x.go)) = true := by
    rw [decide_eq_true lt, decide_eq_true (Int.le_refl _)]
    rfl
  have hm : x ∈ pileAt rs x.go := List.mem_filter.mpr ⟨bot_mem.mpr hx, hp⟩
  obtain ⟨l1, h1, h2⟩ := split_at hm
  have ha : above x (pileAt rs x.go) = (above x (bot rs)).filter fun r => decide (r.come < x.go) && decide (x.go ≤ r.go) := Pq.above_filter (p := fun r => decide (r.come < x.go) && decide (x.go ≤ r.go)) hp (bot rs)
  have nx : ∀ r, r ∈ pileAt rs x.go → r ≠ x → r.go ≠ x.go := fun r hr n e => n (one r (bot_mem.mp (List.mem_filter.mp hr).1) e)
  have ndb : (bot rs).Nodup := (bot_perm rs).nodup_iff.mpr nd
  have ndp : (pileAt rs x.go).Nodup := ndb.filter _
  have nab : ∀ r ∈ above x (bot rs), r ≠ x := fun r hr e => by
    obtain ⟨k1, q1, _⟩ := split_at (bot_mem.mpr hx)
    rw [q1, List.nodup_append, List.nodup_cons] at ndb
    rw [e] at hr
    exact ndb.2.1.1 hr
  have sub2 : ∀ r ∈ above x (pileAt rs x.go), r ∈ pileAt rs x.go ∧ r ≠ x := fun r hr => ⟨by rw [h1]; exact List.mem_append_right _ (List.mem_cons_of_mem _ hr), by
    rw [ha] at hr
    exact nab r (List.mem_filter.mp hr).1⟩
  have sub1 : ∀ r ∈ l1, r ∈ pileAt rs x.go ∧ r ≠ x := fun r hr => ⟨by rw [h1]; exact List.mem_append_left _ hr, fun e => h2 (by rw [← e]; exact hr)⟩
  have after : afterAt rs x.go = (pileAt rs x.go).filter fun r => decide (x.go < r.go) := by
    unfold afterAt pileAt
    rw [List.filter_filter]
    refine List.filter_congr fun r _ => ?_
    rw [Bool.eq_iff_iff]
    simp only [Bool.and_eq_true, decide_eq_true_eq]
    omega
  have le : ∀ r ∈ pileAt rs x.go, x.go ≤ r.go := fun r hr => by
    have := (List.mem_filter.mp hr).2
    simp only [Bool.and_eq_true, decide_eq_true_eq] at this
    exact this.2
  refine ⟨l1.length, ?_, ?_, ?_⟩
  · rw [h1, List.map_append, List.getElem?_append_right (by rw [List.length_map]; exact Nat.le_refl _), List.length_map, Nat.sub_self]
    rfl
  · rw [after, h1, List.map_append, List.eraseIdx_append_of_length_le (by rw [List.length_map]; exact Nat.le_refl _), List.length_map, Nat.sub_self, List.filter_append, List.map_append]
    congr 1
    · congr 1
      refine (List.filter_eq_self.mpr fun r hr => ?_).symm
      obtain ⟨m, n⟩ := sub1 r hr
      have := le r m
      have := nx r m n
      exact decide_eq_true (by omega)
    · show (above x (pileAt rs x.go)).map Rw.nm = _
      rw [List.filter_cons_of_neg (by simp)]
      congr 1
      refine (List.filter_eq_self.mpr fun r hr => ?_).symm
      obtain ⟨m, n⟩ := sub2 r hr
      have := le r m
      have := nx r m n
      exact decide_eq_true (by omega)
  · have el : (pileAt rs x.go).length = l1.length + 1 + (above x (pileAt rs x.go)).length := by
      conv => lhs; rw [h1]
      rw [List.length_append, List.length_cons]
      omega
    have e2 : (lifted rs x).length = (above x (pileAt rs x.go)).length := by
      unfold lifted
      rw [List.filter_reverse, List.length_reverse, ha]
      congr 1
      refine List.filter_congr fun r hr => ?_
      have h3 := nab r hr
      have h4 : r ∈ rs := bot_mem.mp (by
        obtain ⟨k1, q1, _⟩ := split_at (bot_mem.mpr hx)
        rw [q1]
        exact List.mem_append_right _ (List.mem_cons_of_mem _ hr))
      have h5 : r.go ≠ x.go := fun e => h3 (one r h4 e)
      unfold crosses
      rw [Bool.eq_iff_iff]
      simp only [Bool.and_eq_true, decide_eq_true_eq]
      omega
    rw [List.length_map, e2]
    omega
theorem uniq {rs : List Rw} (nd : (rs.map Rw.go).Nodup) {x r : Rw} (hx : x ∈ rs) (hr : r ∈ rs) (e : r.go = x.go) : r = x := by
  induction rs with
  | nil => cases hx
  | cons a rs ih =>
    rw [List.map_cons, List.nodup_cons] at nd
    rcases List.mem_cons.mp hx with e1 | h1
    · rcases List.mem_cons.mp hr with e2 | h2
      · rw [e1, e2]
      · exact absurd (List.mem_map.mpr ⟨r, h2, by rw [e, e1]⟩) nd.1
    · rcases List.mem_cons.mp hr with e2 | h2
      · exact absurd (List.mem_map.mpr ⟨x, h1, by rw [← e, e2]⟩) nd.1
      · exact ih nd.2 h1 h2
/-- what is told of the goings is true -/
def True_ (rs : List Rw) (ord : List Rw) (fs : List Rec) : Prop := ∀ r ∈ fs, ∀ (k : Nat) (x : Rw), ord[k]? = some x → r.1 = (k : Int) → r.2 = .guest x.nm ∨ r.2 = .lift ((lifted rs x).length : Nat)
theorem Plan.nodup {rs ord : List Rw} {gs : List Int} (P : Plan rs gs ord) : rs.Nodup := by
  have := P.nms
  unfold List.Nodup at *
  rw [List.pairwise_map] at this
  exact this.imp fun h e => h (by rw [e])
theorem real_way {rs ord : List Rw} {gs : List Int} (P : Plan rs gs ord) {fs : List Rec} (ht : True_ rs ord fs) : ∀ (m k : Nat), k + m = gs.length → Lead ((steps (rs.map nmc) gs fs).drop k) ((afterAt rs (prev gs k)).map Rw.nm) ((ord.drop k).map Rw.nm) ((afterAt rs (prev gs gs.length)).map Rw.nm)
  | 0, k, h => by
    have lo : ord.length = gs.length := by rw [← P.og, List.length_map]
    have ls : (steps (rs.map nmc) gs fs).length = gs.length := by
      unfold steps
      rw [List.length_map, List.length_range]
    have hk : k = gs.length := by omega
    subst hk
    rw [List.drop_of_length_le (by rw [ls]; exact Nat.le_refl _), List.drop_of_length_le (by rw [lo]; exact Nat.le_refl _)]
    rfl
  | m + 1, k, h => by
    have ih := real_way P ht m (k + 1) (by omega)
    have hk : k < gs.length := by omega
    have lo : ord.length = gs.length := by rw [← P.og, List.length_map]
    have ls : (steps (rs.map nmc) gs fs).length = gs.length := by
      unfold steps
      rw [List.length_map, List.length_range]
    have hg : gs[k]? = some gs[k] := List.getElem?_eq_getElem hk
    have hko : k < ord.length := by omega
    have hxo : ord[k]? = some ord[k] := List.getElem?_eq_getElem hko
    have hgo : (ord[k]).go = gs[k] := by
      have : (ord.map Rw.go)[k]? = some gs[k] := by rw [P.og]; exact hg
      rw [List.getElem?_map, hxo] at this
      exact Option.some.inj this
    have hxm := P.om _ (List.getElem_mem hko)
    have at_ : (steps (rs.map nmc) gs fs)[k]'(by omega) = stepAt (rs.map nmc) gs fs k := by
      have : (steps (rs.map nmc) gs fs)[k]? = some (stepAt (rs.map nmc) gs fs k) := by
        unfold steps
        rw [List.getElem?_map, List.getElem?_range hk]
        rfl
      rw [List.getElem?_eq_getElem (by omega)] at this
      exact Option.some.inj this
    rw [List.drop_eq_getElem_cons (by omega), at_, List.drop_eq_getElem_cons hko, List.map_cons]
    generalize hx : ord[k] = x at *
    have tx := P.tm x hxm
    have eg : gs.getD k 0 = x.go := by rw [List.getD_eq_getElem?_getD, hg, hgo]; rfl
    -- nobody goes between
    have no : ∀ r ∈ rs, prev gs k < r.go → x.go ≤ r.go := fun r hr hb => by
      obtain ⟨i, hi⟩ := List.getElem?_of_mem (P.all r hr)
      obtain ⟨hil, hie⟩ := List.getElem?_eq_some_iff.mp hi
      by_cases c : k ≤ i
      · rcases Nat.eq_or_lt_of_le c with rfl | c
        · rw [hgo, ← hie]
          exact Int.le_refl _
        · have := List.pairwise_iff_getElem.mp P.rise k i hk hil c
          omega
      · exfalso
        unfold prev at hb
        rw [if_neg (by omega), List.getD_eq_getElem?_getD, List.getElem?_eq_getElem (by omega)] at hb
        have hb : gs[k - 1] < r.go := hb
        by_cases c2 : i = k - 1
        · subst c2
          omega
        · have := List.pairwise_iff_getElem.mp P.rise i (k - 1) hil (by omega) (by omega)
          omega
    have hbg : prev gs k < x.go ∨ prev gs k = 0 := by
      unfold prev
      by_cases z : k = 0
      · rw [if_pos z]
        exact .inr rfl
      · rw [if_neg z, List.getD_eq_getElem?_getD, List.getElem?_eq_getElem (by omega), hgo]
        exact .inl (List.pairwise_iff_getElem.mp P.rise (k - 1) k (by omega) hk (by omega))
    have join := pile_join hbg P.tm (by omega) no
    have s1 : (stepAt (rs.map nmc) gs fs k).1 = came9 (rs.map nmc) (prev gs k) x.go := by rw [← eg]; rfl
    obtain ⟨j, j1, j2, j3⟩ := goes P.nodup hxm tx.2 fun r hr e => uniq P.gos hxm hr e
    refine ⟨j, ?_, ?_, ?_⟩
    · rw [s1, join]
      exact j1
    · rw [s1, join]
      unfold okAt
      rw [List.all_eq_true]
      intro f hf
      have hf : (((k : Nat) : Int), f) ∈ fs := seen_mem.mp hf
      rcases ht _ hf k x hxo rfl with e | e
      · have e : f = .guest x.nm := e
        rw [e]
        exact decide_eq_true j1
      · have e : f = .lift ((lifted rs x).length : Nat) := e
        rw [e]
        exact decide_eq_true j3
    · rw [s1, join, j2]
      rw [prev_succ hg, ← hgo] at ih
      exact ih
theorem real_lead {rs ord : List Rw} {gs : List Int} (P : Plan rs gs ord) {fs : List Rec} (ht : True_ rs ord fs) : Lead (steps (rs.map nmc) gs fs) [] (ord.map Rw.nm) ((afterAt rs (prev gs gs.length)).map Rw.nm) := by
  have h := real_way P ht gs.length 0 (Nat.zero_add _)
  have z : afterAt rs (prev gs 0) = [] := by
    unfold afterAt
    rw [List.filter_eq_nil_iff]
    intro r hr
    have := (P.tm r (bot_mem.mp hr)).1
    show ¬ (decide (r.come < 0) && decide (0 < r.go)) = true
    intro h
    simp only [Bool.and_eq_true, decide_eq_true_eq] at h
    omega
  rw [z] at h
  exact h
/-- what is true leaves a way -/
theorem true_ways {rs ord : List Rw} {gs : List Int} (P : Plan rs gs ord) {fs : List Rec} (ht : True_ rs ord fs) : 1 ≤ ways (rs.map nmc) gs fs := comp_ge (real_lead P ht)
/-- if only one is left, it is the real one -/
theorem only_way {rs ord : List Rw} {gs : List Int} (P : Plan rs gs ord) {fs : List Rec} (ht : True_ rs ord fs) (h : ways (rs.map nmc) gs fs = 1) {w b : List Str} (hw : Lead (steps (rs.map nmc) gs fs) [] w b) : w = ord.map Rw.nm := comp_one h hw (real_lead P ht)
theorem Plan.valid {rs ord : List Rw} {gs : List Int} (P : Plan rs gs ord) : Valid9 (rs.map nmc) gs := by
  have lo : ord.length = gs.length := by rw [← P.og, List.length_map]
  have ndg : gs.Nodup := P.rise.imp fun h e => by omega
  have ndo : ord.Nodup := by
    rw [← P.og] at ndg
    unfold List.Nodup at *
    rw [List.pairwise_map] at ndg
    exact ndg.imp fun h e => h (by rw [e])
  have l1 : ord.length ≤ rs.length := nodup_le ndo P.om
  have l2 : (rs.map Rw.go).length ≤ gs.length := nodup_le P.gos fun g hg => by
    obtain ⟨r, hr, rfl⟩ := List.mem_map.mp hg
    exact P.all r hr
  rw [List.length_map] at l2
  refine ⟨by rw [List.length_map]; exact P.few, fun c hc => ?_, fun i g h hi hj => ?_, fun i g hi => ?_, by rw [List.length_map]; omega⟩
  · obtain ⟨r, hr, rfl⟩ := List.mem_map.mp hc
    exact (P.tm r hr).1
  · obtain ⟨a, rfl⟩ := List.getElem?_eq_some_iff.mp hi
    obtain ⟨b, rfl⟩ := List.getElem?_eq_some_iff.mp hj
    exact List.pairwise_iff_getElem.mp P.rise i (i + 1) a b (by omega)
  · obtain ⟨a, rfl⟩ := List.getElem?_eq_some_iff.mp hi
    have go : ∀ (k : Nat) (hk : k < ord.length), (ord[k]).go = gs[k]'(by omega) := fun k hk => by
      have : (ord.map Rw.go)[k]? = some (gs[k]'(by omega)) := by rw [P.og]; exact List.getElem?_eq_getElem _
      rw [List.getElem?_map, List.getElem?_eq_getElem hk] at this
      exact Option.some.inj this
    have early : ∀ x ∈ ord.take (i + 1), x ∈ rs.filter fun r => decide (r.come < gs[i]) := fun x hx => by
      have hm := P.om x (List.mem_of_mem_take hx)
      obtain ⟨k, hk, e⟩ := List.getElem_of_mem hx
      rw [List.length_take] at hk
      rw [List.getElem_take] at e
      have h1 := go k (by omega)
      rw [e] at h1
      have h2 := (P.tm x hm).2
      have h3 : gs[k]'(by omega) ≤ gs[i] := by
        by_cases z : k = i
        · subst z
          exact Int.le_refl _
        · exact Int.le_of_lt (List.pairwise_iff_getElem.mp P.rise k i (by omega) a (by omega))
      exact List.mem_filter.mpr ⟨hm, decide_eq_true (by omega)⟩
    have l3 := nodup_le (ndo.sublist (List.take_sublist (i + 1) ord)) early
    rw [List.length_take] at l3
    refine ⟨?_, ?_⟩
    · have hm := P.om _ (List.getElem_mem (show i < ord.length by omega))
      have h1 := go i (by omega)
      have := P.tm _ hm
      omega
    · rw [List.filter_map, List.length_map]
      have e : ((fun c : Str × Int => decide (c.2 < gs[i])) ∘ nmc) = fun r : Rw => decide (r.come < gs[i]) := rfl
      rw [e]
      omega
end Jo
set_option Elab.async false
set_option linter.all false
/-! What is asked of an own error class without an own __init__. -/
namespace Sho
open PySem L2
structure ErrO (K : PySem.W.Frag) (mg : Str → Option Value) (x : Str) (C : Addr) : Prop where
  ex : PySem.W.excIn K C [.type "ValueError", .type "Exception", .type "BaseException", .type "object"] "ValueError.__new__" = true
  gm : mg x = some (.ref C)
  kp : PySem.W.keepIn K (.ref C) = true
  be : PySem.W.subIn K (.ref C) (.type "BaseException") = some true
  ty : PySem.W.typeIn K (.ref C) = some (.type "type")
  exm : PySem.W.exmOne K (.ref C) (.ref C) = some true
theorem cat_le {a b : Str} {n m : Nat} (ha : a.length ≤ n) (hb : b.length ≤ m) : (a ++ b).length ≤ n + m := by
  rw [PySem.Str.length_append]
  omega
end Sho
set_option Elab.async false
set_option linter.all false
set_option maxRecDepth 100000
set_option maxHeartbeats 4000000
/-! is_within. -/
namespace Sh4
open PySem L2 Sho NdefX Shg Sh1
section
variable {P : Program} {w : World} {K : PySem.W.Frag} {mg : Str → Option Value} {base : Heap}
def spIsWithin : Sp := fun vs H Q _ => ∃ n a b : Int, vs = [.int n, .int a, .int b] ∧ Q (.bl (decide (a ≤ n) && decide (n ≤ b))) H
theorem scIsWithin : FnScope ["number", "low", "high"] ["number", "low", "high"] (defScope sIsWithin) := ⟨rfl, rfl, rfl, by decide +kernel, rfl, by decide +kernel, by decide +kernel⟩
theorem ok_isWithin {f : Addr} {fd : FuncData} (F : Fun K "is_within" "is_within" sIsWithin f fd) (B : Shg.Blt mg) : FnOk P w K mg base CX0 1 f fd ["number", "low", "high"] spIsWithin := by
  refine F.ok scIsWithin (fun vs H Q E h => ?_) (fun cdv A outer s H vs Q E hr h => ?_)
  · obtain ⟨n, a, b, rfl, _⟩ := h
    rfl
  · obtain ⟨n, a, b, rfl, k⟩ := h
    refine ⟨_, pss_one (ps_ret (pe_and (pe_not (pe_callB call_isi (by rfl) B.isi (by decide +kernel) (pa_cons (pv 0) (pa_cons (pe_bltn (v := .ty "bool") (by rfl) B.bool (by decide +kernel) rfl) pa_nil))))
      (pe_one (pe_chain op_le op_le (pv 1) (pv 0) (pv 2))))), ?_⟩
    refine ⟨_, rfl, .int n, .ty "bool", .type "int", .type "bool", false, rfl, .ty _, .base (.int n), kit_ty (by decide +kernel), _, rfl, _, rfl, iteT ⟨_, rfl, _, rfl, _, _, rfl, rfl, _, rfl, ?_⟩⟩
    refine ite2 (fun h1 => ?_) (fun h1 => ?_)
    · refine ⟨_, rfl, _, _, rfl, rfl, ?_⟩
      rw [h1] at k
      exact k
    · rw [Bool.eq_false_iff.mpr h1] at k
      exact k
end
end Sh4
set_option Elab.async false
set_option linter.all false
set_option maxRecDepth 100000
set_option maxHeartbeats 8000000
set_option autoImplicit false
/-! What is asked of comings and goings. -/
namespace Go
open PySem L2 Sho NdefX Shg Sh1 Sh4
abbrev NCC : List Str := ["comings", "names", "index", "name", "come"]
theorem or_ans {A B : TT} {σ : L2.St} {H : Hp} {Q : Bool → Hp → Prop} (a b : Bool) (hA : ∀ R : Bool → Hp → Prop, (∀ H', Same H H' → R a H') → A σ H R)
    (hB : ∀ H1, Same H H1 → a = false → ∀ R : Bool → Hp → Prop, (∀ H', Same H1 H' → R b H') → B σ H1 R) (hQ : ∀ H', Same H H' → Q (a || b) H') : tOr A B σ H Q := hA _ fun H1 s1 => by
  cases a with
  | true => exact iteT (by have := hQ H1 s1; rw [Bool.true_or] at this; exact this)
  | false => exact iteF (hB H1 s1 rfl _ fun H2 s2 => by have := hQ H2 (s1.trans s2); rw [Bool.false_or] at this; exact this)
theorem flat_strs (xs : List Str) : (xs.map V.str).all flatV = true := by
  rw [List.all_eq_true]
  intro v hv
  obtain ⟨z, _, rfl⟩ := List.mem_map.mp hv
  rfl
theorem inV_strs (z : Str) (xs : List Str) : inV (.str z) (xs.map V.str) = decide (z ∈ xs) := by
  unfold inV
  induction xs with
  | nil => rfl
  | cons x xs ih =>
    rw [List.map_cons, List.any_cons, ih, Bool.eq_iff_iff]
    have e : eqV (.str x) (.str z) = decide (x = z) := rfl
    rw [e, Bool.or_eq_true, decide_eq_true_eq, decide_eq_true_eq, decide_eq_true_eq, List.mem_cons]
    exact ⟨fun h => h.imp Eq.symm id, fun h => h.imp Eq.symm id⟩
theorem ifs_of2 {c : TT} {A B u : TS} {D : Ends} {σ : L2.St} {H : Hp} (h : c σ H fun b H1 => if b = true then A { D with nx := u D } σ H1 else B { D with nx := u D } σ H1) : tSeq (tIfS c A B) u D σ H := h
theorem small_log {i : Nat} (h : i ≤ 1048576) : ((i : Int)).natAbs.log2 < 1920 := by
  rw [Int.natAbs_natCast]
  by_cases z : i = 0
  · rw [z]
    decide
  · exact (Nat.log2_lt z).mpr (Nat.lt_of_le_of_lt h (Nat.lt_of_lt_of_le (show 1048576 < 2 ^ 21 by decide) (Nat.pow_le_pow_right (by decide) (by decide))))
/-- the first coming that is not allowed -/
def badC : List Str → Nat → List (Str × Int) → Option Nat
  | _, _, [] => none
  | seen, i, c :: r => if decide (c.1 ∈ seen) || (!okName c.1 || !(decide (0 ≤ c.2) && decide (c.2 ≤ 999999999))) then some i else badC (seen ++ [c.1]) (i + 1) r
section
variable {P : Program} {w : World} {K : PySem.W.Frag} {mg : Str → Option Value} {base : Heap}
theorem scCC : FnScope NCC ["comings"] (defScope sCheckComings) := ⟨rfl, rfl, rfl, by decide +kernel, rfl, by decide +kernel, by decide +kernel⟩
def PairsAt (H : Hp) (ws : List V) (cs : List (Str × Int)) : Prop := PySem.Paired (fun v (c : Str × Int) => ∃ t, v = .ref t ∧ H t = some (.tup [.str c.1, .int c.2])) ws cs
def spCC (CT CI : Addr) : Sp := fun vs H Q E => ∃ (Cm : Addr) (ws : List V) (cs : List (Str × Int)), vs = [.ref Cm] ∧ H Cm = some (.tup ws) ∧ PairsAt H ws cs ∧ cs.length ≤ 1000 ∧ (∀ c ∈ cs, c.1.length ≤ 1000) ∧
  (10 < cs.length → ∀ H', Same H H' → E (.ref CT) none H') ∧ (cs.length ≤ 10 → (badC [] 0 cs = none → ∀ H', Same H H' → Q .non H') ∧ ∀ i, badC [] 0 cs = some i → ∀ (H' : Hp) (d : Addr), Same H H' → H' d = some (.xd [(("index" : Str), .int (i : Nat))]) → E (.ref CI) (some d) H')
theorem ok_checkC {f CT CI fN fW : Addr} {fd fdN fdW : FuncData} {t10 t9 : Tok} (F : Fun K "_check_comings" "_check_comings" sCheckComings f fd) (B : Shg.Blt mg) (ET : ErrO K mg "TooManyGuests" CT) (EI : ErrC P K mg "InvalidStay" "index" nfInv CI) (g10 : mg "MOST_GUESTS" = some (.int 10 t10)) (g9 : mg "LAST_TICK" = some (.int 1000000000 t9))
    (GN : FnOk P w K mg base CX0 1 fN fdN ["word"] spIsName) (mN : mg "is_name" = some (.ref fN)) (kN : PySem.W.keepIn K (.ref fN) = true) (bN : Binds K fdN ["word"] [])
    (GW : FnOk P w K mg base CX0 1 fW fdW ["number", "low", "high"] Sh4.spIsWithin) (mW : mg "is_within" = some (.ref fW)) (kW : PySem.W.keepIn K (.ref fW) = true) (bW : Binds K fdW ["number", "low", "high"] []) :
    FnOk P w K mg base (L2.CX P w) 3 f fd ["comings"] (spCC CT CI) := by
  refine F.okX scCC (fun vs H Q E h => ?_) (fun cdv A outer s H vs Q E hr h => ?_)
  · obtain ⟨Cm, ws, cs, rfl, _⟩ := h
    rfl
  · obtain ⟨Cm, ws, cs, rfl, hC, pC, l1000, short, kT, kOk⟩ := h
    have nd := scCC.nd
    have lC := Shg.pair_len pC
    have pass : Passes (L2.CX P w) (cxOf (L2.CX P w) P w K mg base NCC "_check_comings" (defScope sCheckComings) f cdv A outer s H E) E := passes_call (takes_of rfl rfl rfl rfl) fun _ _ _ _ z => z
    refine ⟨_, (pss_cons (ps_if (pt_cmpR op_gt (pe_callB call_len_seq (by rfl) B.len PySem.boot_len (pa_cons (pv 0) pa_nil)) (pe_glob (v := .int 10) (by rfl) g10 ⟨_, rfl⟩) (nomark _)) (pss_one (ps_raise rfl (takes_of rfl rfl rfl rfl) (SkE.pmk_own1 PySem.F.excBase_ValueError ET.ex ET.gm ET.kp (raises_own ET.be ET.ty) (by rfl) (pe_joined (.cons pe_str (.cons (pe_fmt (pe_glob (v := .int 10) (by rfl) g10 ⟨_, rfl⟩)) (.cons pe_str .nil))))))) pss_nil)
      (pss_cons (ps_set (i := 1) nd rfl (Or.inl rfl) (pe_lst pa_nil))
      (pss_one (ps_for (passes_of rfl) rfl (pi_enumT (by rfl) B.enum (pa_cons (pv 0) pa_nil)) (pg_tup rfl (pgs_cons (pg_name (i := 2) nd rfl (Or.inl rfl)) (pgs_cons (pg_tup rfl (pgs_cons (pg_name (i := 3) nd rfl (Or.inl rfl)) (pgs_cons (pg_name (i := 4) nd rfl (Or.inl rfl)) pgs_nil))) pgs_nil))) (pss_cons (ps_if (PW.pt (pw_or (pt_cmpR op_in_seq (pv 3) (pv 1) rfl) (pw_or (pt_not (pt_val (pe_call GN (hr.mono (by decide)) rfl mN kN bN .nil pass0 (pa_cons (pv 3) pa_nil)))) (pw_or1 (pt_not (pt_val (pe_call GW (hr.mono (by decide)) rfl mW kW bW .nil pass0 (pa_cons (pv 4) (pa_cons pe_int (pa_cons (pe_op op_sub (pe_glob (v := .int 1000000000) (by rfl) g9 ⟨_, rfl⟩) pe_int) pa_nil)))))))))) (pss_one (ps_raise rfl (takes_of rfl rfl rfl rfl) (pmk_inv (k := 0) EI (hr.mono (by decide)) passL (by rfl) (pk_cons (pv 2) pk_nil) rfl rfl rfl))) pss_nil)
      (pss_one (ps_expr (pe_bm PySem.F.plainAttrs_list PySem.F.slot_list_append PySem.F.type_list_append mt_append (pv 1) (pa_cons (pv 3) pa_nil))))))))), ?_⟩
    refine ⟨_, rfl, Cm, ws, rfl, .inr (SqT.of hC), _, _, rfl, rfl, _, rfl, ite2 (fun c => ?_) (fun c => nx_of ?_)⟩
    · have big : 10 < cs.length := by
        have := of_decide_eq_true c
        rw [lC] at this
        omega
      refine ⟨_, rfl, ?_, .inr ⟨10, rfl, ?_, _, rfl, ?_, _, rfl, ?_, kT big H (Same.refl H)⟩⟩ <;> decide +kernel
    have c10 : cs.length ≤ 10 := by
      have := of_decide_eq_false (Bool.eq_false_iff.mpr c)
      rw [lC] at this
      omega
    obtain ⟨kGood, kBad⟩ := kOk c10
    refine ⟨Nat.zero_le _, fun Nl hNl => name_of ?_⟩
    have s0 := same_upd (o := .lst []) hNl
    refine ⟨_, rfl, Cm, ws, rfl, SqT.of (s0 _ _ hC), for_it walk_enumT (fun i σ H2 => ∃ (o2 o3 o4 : Option V) (seen : List Str), σ = [some (.ref Cm), some (.ref Nl), o2, o3, o4] ∧ Same H H2 ∧ H2 Nl = some (.lst (seen.map V.str)) ∧ seen.length = i ∧ badC [] 0 cs = badC seen i (cs.drop i))
      ⟨none, none, none, [], rfl, s0, upd_same, rfl, rfl⟩ (fun i σ H2 _ p => by obtain ⟨_, _, _, _, _, s, _⟩ := p; exact SqT.of (s _ _ hC)) ?_ ?_⟩
    · rintro i y σ H2' H2 hi ⟨o2, o3, o4, seen, rfl, s2, eN, ls, eb⟩ ⟨T2, y1, y2, rfl, hT2, rfl, e1, e3⟩
      cases e1
      obtain ⟨cc, hcc, t, rfl, ht⟩ := Shg.pair_get pC e3
      have s3 := s2.trans (same_upd (o := .tup [.int (i : Nat), .ref t]) hT2)
      have eT : (upd H2' T2 (.tup [.int (i : Nat), .ref t])) T2 = some (.tup [.int (i : Nat), .ref t]) := upd_same
      have eN3 := (same_upd (o := .tup [.int (i : Nat), .ref t]) hT2) _ _ eN
      generalize upd H2' T2 (.tup [.int (i : Nat), .ref t]) = H3 at *
      refine ⟨T2, _, rfl, SqT.of eT, rfl, _, _, rfl, _, _, rfl, t, _, rfl, SqT.of (s3 _ _ ht), rfl, _, _, rfl, _, _, rfl, rfl, rfl, ?_⟩
      have hdrop : cs.drop i = cc :: cs.drop (i + 1) := by
        obtain ⟨lt, e⟩ := List.getElem?_eq_some_iff.mp hcc
        rw [List.drop_eq_getElem_cons lt, e]
      rw [hdrop] at eb
      have shc := short cc (List.mem_of_getElem? hcc)
      have eb2 : badC [] 0 cs = if (decide (cc.1 ∈ seen) || (!okName cc.1 || !(decide (0 ≤ cc.2) && decide (cc.2 ≤ 999999999)))) = true then some i else badC (seen ++ [cc.1]) (i + 1) (cs.drop (i + 1)) := eb
      refine ifs_of2 (or_ans (decide (cc.1 ∈ seen)) (!okName cc.1 || !(decide (0 ≤ cc.2) && decide (cc.2 ≤ 999999999))) (fun R h => ⟨_, rfl, _, rfl, Nl, _, rfl, .inl (SqL.of eN3), rfl, flat_strs _, _, rfl, ?_⟩) (fun H4 s4 _ R h => ?_) fun H4 s4 => ?_)
      · rw [if_neg (by decide), inV_strs]
        exact h _ (Same.refl _)
      · refine or_ans (!okName cc.1) (!(decide (0 ≤ cc.2) && decide (cc.2 ≤ 999999999))) (fun R h => ⟨_, rfl, cc.1, rfl, Nat.le_trans shc (by decide), fun H5 s5 => ⟨_, rfl, h _ s5⟩⟩) (fun H5 s5 _ R h => ⟨_, rfl, _, _, rfl, rfl, cc.2, 0, 999999999, rfl, _, rfl, h _ (Same.refl _)⟩) h
      · have s34 := s3.trans s4
        refine ite2 (fun q => ?_) (fun q => nx_of ?_)
        · rw [if_pos q] at eb2
          refine ⟨_, rfl, _, rfl, .inr ⟨_, rfl, small_log (Nat.le_trans (Nat.le_of_lt hi) (by rw [lC]; exact Nat.le_trans c10 (by decide)))⟩, fun d hd => ?_⟩
          exact kBad i eb2 _ d (s34.trans (same_upd hd)) upd_same
        · rw [if_neg q] at eb2
          have eN4 := s4 _ _ eN3
          refine ⟨_, rfl, .inl ⟨rfl, _, SqL.of eN4⟩, _, rfl, Nl, _, _, rfl, rfl, eN4, by rw [List.length_map, ls]; exact Nat.lt_of_lt_of_le hi (by rw [lC]; exact Nat.le_trans c10 (by decide)), ?_⟩
          have hN0 : H Nl = none := hNl
          exact ⟨_, _, _, seen ++ [cc.1], rfl, fun b o e => by rw [upd_ne (ne_of_none e hN0)]; exact s34 _ _ e, by rw [upd_same, List.map_append]; rfl, by rw [List.length_append, ls]; rfl, eb2⟩
    · rintro σ H2 ⟨o2, o3, o4, seen, rfl, s2, eN, ls, eb⟩
      rw [lC, List.drop_length] at eb
      exact kGood eb _ s2
end
end Go
set_option Elab.async false
set_option linter.all false
set_option maxRecDepth 100000
set_option maxHeartbeats 8000000
set_option autoImplicit false
/-! _check_goings. -/
namespace Go
open PySem L2 Sho NdefX Shg Sh1 Sh4
abbrev nfGo (cc cda : Addr) : NF := ⟨"__init__", "InvalidGoings.__init__", defArgs sGoingsInit, defBody sGoingsInit, defScope sGoingsInit, [("__class__", cc)], cda⟩
section
variable {X : Cx} {CX : CXT} {C : Addr} {k : Nat} {kws : List Keyword} {te : L2.TA} {p pos : Pos}
theorem pmk_go (EC : ErrC X.prog X.K X.mg "InvalidGoings" "index" nfGo C) (hr : Room (k + 2) X.A) (hx : Passes CX X (fun _ _ _ => False)) (hg : Gl X "InvalidGoings") (hkw : PK X kws te) (hall : (backToKw pos (keywordEach kws X.env)).all (·.1.isSome) = true)
    (hks : (backToKw pos (keywordEach kws X.env)).filterMap (·.1) = [("index" : Str)]) (hpl : ((backTo pos (starEach [] X.env)).any (·.1) || (backToKw pos (keywordEach kws X.env)).any (·.1.isNone)) = false) : PMk X (.Call (.Name "InvalidGoings" p) [] kws pos) (tMkW C "index" te) := by
  have S : NScope ["self", "index", "__class__"] ["self", "index"] ["__class__"] (defScope sGoingsInit) := nscope_by (by decide +kernel)
  obtain ⟨f, cc, cda, T, iC, tI⟩ := EC.txt
  refine pmk_kw (F := nfGo cc cda) (fld := "index") (k := k) T EC.cls EC.xf EC.no iC tI S hr hx hg EC.gm hkw hall hks hpl rfl (fun s doc pm an ct xa u => .of_eq rfl) (fun A outer s H E xa v hv => ?_) (fun L => rfl) (fun L => rfl) (fun L => rfl)
  have e0 : (Str.empty ++ Str.ofString "going ").length ≤ 10 := by decide +kernel
  have e2 : (Str.ofString " is not allowed").length ≤ 20 := by decide +kernel
  refine ⟨_, pa_cons (pe_joined (.cons pe_str (.cons (pe_fmt (pv 1)) (.cons pe_str .nil)))) pa_nil, fun R hR => ⟨_, rfl, Nat.le_trans e0 (by decide), v, rfl, ?_⟩⟩
  rcases tells_len hv with ⟨y, rfl, hy⟩ | ⟨i, rfl, hi, hl⟩
  · have l1 := Sh1.small_cat e0 hy
    exact .inl ⟨y, rfl, Nat.le_trans hy (by decide), y, rfl, Nat.le_trans l1 (by decide), _, rfl, Nat.le_trans (Sh1.small_cat l1 e2) (by decide), hR _⟩
  · have l1 := Sh1.small_cat e0 hl
    exact .inr ⟨i, rfl, hi, _, rfl, Nat.le_trans l1 (by decide), _, rfl, Nat.le_trans (Sh1.small_cat l1 e2) (by decide), hR _⟩
end
abbrev NCG : List Str := ["comings", "goings", "earliest", "index", "tick", "arrived", "name", "come"]
/-- the first going that is not allowed -/
def badG (cs : List (Str × Int)) : Int → Nat → List Int → Option Nat
  | _, i, [] => if i < cs.length then some i else none
  | e, i, g :: r => if !(decide (e ≤ g) && decide (g ≤ 1000000000)) || decide ((cs.filter fun c => decide (c.2 < g)).length ≤ i) then some i else badG cs (g + 1) (i + 1) r
section
variable {P : Program} {w : World} {K : PySem.W.Frag} {mg : Str → Option Value} {base : Heap}
theorem scCG : FnScope NCG ["comings", "goings"] (defScope sCheckGoings) := ⟨rfl, rfl, rfl, by decide +kernel, rfl, by decide +kernel, by decide +kernel⟩
def spCG (CG : Addr) : Sp := fun vs H Q E => ∃ (Cm Gm : Addr) (ws : List V) (cs : List (Str × Int)) (gs : List Int), vs = [.ref Cm, .ref Gm] ∧ H Cm = some (.tup ws) ∧ PairsAt H ws cs ∧ H Gm = some (.tup (gs.map V.int)) ∧ cs.length ≤ 1000 ∧ gs.length ≤ 1000 ∧
  (badG cs 0 0 gs = none → ∀ H', Same H H' → Q .non H') ∧ ∀ i, badG cs 0 0 gs = some i → ∀ (H' : Hp) (d : Addr), Same H H' → H' d = some (.xd [(("index" : Str), .int (i : Nat))]) → E (.ref CG) (some d) H'
theorem ok_checkG {f CG fW : Addr} {fd fdW : FuncData} {t9 : Tok} (F : Fun K "_check_goings" "_check_goings" sCheckGoings f fd) (B : Shg.Blt mg) (EG : ErrC P K mg "InvalidGoings" "index" nfGo CG) (g9 : mg "LAST_TICK" = some (.int 1000000000 t9))
    (GW : FnOk P w K mg base CX0 1 fW fdW ["number", "low", "high"] Sh4.spIsWithin) (mW : mg "is_within" = some (.ref fW)) (kW : PySem.W.keepIn K (.ref fW) = true) (bW : Binds K fdW ["number", "low", "high"] []) :
    FnOk P w K mg base (L2.CX P w) 3 f fd ["comings", "goings"] (spCG CG) := by
  refine F.okX scCG (fun vs H Q E h => ?_) (fun cdv A outer s H vs Q E hr h => ?_)
  · obtain ⟨Cm, Gm, ws, cs, gs, rfl, _⟩ := h
    rfl
  · obtain ⟨Cm, Gm, ws, cs, gs, rfl, hC, pC, hG, lc, lg, kGood, kBad⟩ := h
    have nd := scCG.nd
    have lC := Shg.pair_len pC
    refine ⟨_, (pss_cons (ps_set (i := 2) nd rfl (Or.inl rfl) pe_int)
      (pss_cons (ps_for (passes_of rfl) rfl (pi_enumT (by rfl) B.enum (pa_cons (pv 1) pa_nil)) (pg_tup rfl (pgs_cons (pg_name (i := 3) nd rfl (Or.inl rfl)) (pgs_cons (pg_name (i := 4) nd rfl (Or.inr rfl)) pgs_nil))) (pss_cons (ps_setLc (i := 5) (own := [("name", 6), ("come", 7)]) (g := gTup K 2 (gCons (gName 6) (gCons (gName 7) gNil))) (tt := tTest (tOp (rI0 fun i j => .bl (decide (i < j))) (tVar 7) (tVar 4))) (te := tVar 6) rfl nd rfl rfl (sw_true rfl rfl rfl (by decide +kernel)) (pi_tup (pv 0)) (blkOk_by (own := [("name", 6), ("come", 7)]) (N := NCG) (sc := defScope sCheckGoings) (by decide +kernel))
        (fun _ _ _ _ _ => (pg_tup rfl (pgs_cons (pg_name (i := 6) nd rfl (Or.inl rfl)) (pgs_cons (pg_name (i := 7) nd rfl (Or.inl rfl)) pgs_nil)))) (fun _ _ _ _ _ => pts_one (pt_cmpR op_lt (pv 7) (pv 4) (nomark _))) (fun _ _ _ _ _ => (pv 6)))
      (pss_cons (ps_if (PW.pt (pw_or (pt_not (pt_val (pe_call GW (hr.mono (by decide)) rfl mW kW bW .nil pass0 (pa_cons (pv 4) (pa_cons (pv 2) (pa_cons (pe_glob (v := .int 1000000000) (by rfl) g9 ⟨_, rfl⟩) pa_nil)))))) (pw_or1 (pt_cmpR op_le (pe_callB call_len_seq (by rfl) B.len PySem.boot_len (pa_cons (pv 5) pa_nil)) (pv 3) (nomark _))))) (pss_one (ps_raise rfl (takes_of rfl rfl rfl rfl) (pmk_go (k := 0) EG (hr.mono (by decide)) passL (by rfl) (pk_cons (pv 3) pk_nil) rfl rfl rfl))) pss_nil)
      (pss_one (ps_set (i := 2) nd rfl (Or.inl rfl) (pe_op op_add (pv 4) pe_int))))))
      (pss_one (ps_if (pt_cmpR op_lt (pe_callB call_len_seq (by rfl) B.len PySem.boot_len (pa_cons (pv 1) pa_nil)) (pe_callB call_len_seq (by rfl) B.len PySem.boot_len (pa_cons (pv 0) pa_nil)) (nomark _)) (pss_one (ps_raise rfl (takes_of rfl rfl rfl rfl) (pmk_go (k := 0) EG (hr.mono (by decide)) passL (by rfl) (pk_cons (pe_callB call_len_seq (by rfl) B.len PySem.boot_len (pa_cons (pv 1) pa_nil)) pk_nil) rfl rfl rfl))) pss_nil)))), ?_⟩
    refine name_of ?_
    refine ⟨_, rfl, Gm, _, rfl, SqT.of hG, for_it walk_enumT (fun i σ H2 => ∃ (o3 o4 o5 o6 o7 : Option V) (e : Int), σ = [some (.ref Cm), some (.ref Gm), some (.int e), o3, o4, o5, o6, o7] ∧ Same H H2 ∧ badG cs 0 0 gs = badG cs e i (gs.drop i))
      ⟨none, none, none, none, none, 0, rfl, Same.refl H, rfl⟩ (fun i σ H2 _ p => by obtain ⟨_, _, _, _, _, _, _, s, _⟩ := p; exact SqT.of (s _ _ hG)) ?_ ?_⟩
    · rintro i y σ H2' H2 hi ⟨o3, o4, o5, o6, o7, e, rfl, s2, eb⟩ ⟨T2, y1, y2, rfl, hT2, rfl, e1, e3⟩
      cases e1
      have e3 : (gs.map V.int)[i]? = some y2 := e3
      rw [List.getElem?_map] at e3
      obtain ⟨g, hg, rfl⟩ : ∃ g, gs[i]? = some g ∧ y2 = .int g := by
        cases e : gs[i]? with
        | none => rw [e] at e3; cases e3
        | some z => rw [e] at e3; cases e3; exact ⟨z, rfl, rfl⟩
      have s3 := s2.trans (same_upd (o := .tup [.int (i : Nat), .int g]) hT2)
      refine ⟨T2, _, rfl, SqT.of upd_same, rfl, _, _, rfl, _, _, rfl, rfl, ?_⟩
      generalize upd H2' T2 (.tup [.int (i : Nat), .int g]) = H3 at *
      have hdrop : gs.drop i = g :: gs.drop (i + 1) := by
        obtain ⟨lt, e⟩ := List.getElem?_eq_some_iff.mp hg
        rw [List.drop_eq_getElem_cons lt, e]
      rw [hdrop] at eb
      have il : i < 1000 := Nat.lt_of_lt_of_le (List.getElem?_eq_some_iff.mp hg).1 lg
      refine ⟨_, rfl, Cm, rfl, ⟨_, SqT.of (s3 _ _ hC)⟩, fun D hD => ?_⟩
      refine lc_gather (walk_tup (xs := ws)) (fun i => (cs[i]?).bind fun c => if decide (c.2 < g) = true then some (.str c.1) else none) hD (by rw [lC]; exact Nat.le_trans lc (by decide)) (fun H s => SqT.of (s _ _ (s3 _ _ hC))) (fun j v H5 H6 hj s5 vv R2 k1 => ?_) fun H5 s5 e5 => name_of ?_
      · obtain ⟨rfl, ev⟩ := vv
        obtain ⟨c, hc, t, rfl, ht⟩ := Shg.pair_get pC ev
        refine ⟨t, _, rfl, SqT.of (s5 _ _ (s3 _ _ ht)), rfl, _, _, rfl, _, _, rfl, rfl, rfl, ?_⟩
        have k3 := k1 _ (Same.refl _)
        rw [hc] at k3
        have k4 : R2 (if decide (c.2 < g) = true then some (V.str c.1) else none) _ := k3
        refine ⟨_, rfl, _, rfl, _, _, rfl, rfl, _, rfl, ?_⟩
        refine ite2 (fun q => ?_) (fun q => ?_)
        · rw [if_pos q] at k4
          exact ⟨_, rfl, k4⟩
        · rw [if_neg q] at k4
          exact k4
      rw [lC, gather_filter cs (fun c => decide (c.2 < g)) fun c => V.str c.1] at e5
      have s35 := s3.trans s5
      have eb2 : badG cs 0 0 gs = if (!(decide (e ≤ g) && decide (g ≤ 1000000000)) || decide ((cs.filter fun c => decide (c.2 < g)).length ≤ i)) = true then some i else badG cs (g + 1) (i + 1) (gs.drop (i + 1)) := eb
      refine ifs_of2 (or_ans (!(decide (e ≤ g) && decide (g ≤ 1000000000))) (decide ((cs.filter fun c => decide (c.2 < g)).length ≤ i)) (fun R h => ⟨_, rfl, _, rfl, g, e, 1000000000, rfl, _, rfl, h _ (Same.refl _)⟩) (fun H6 s6 _ R h => ⟨_, rfl, D, _, rfl, .inl (SqL.of (s6 _ _ e5)), _, rfl, _, _, rfl, rfl, _, rfl, ?_⟩) fun H6 s6 => ?_)
      · have := h _ (Same.refl _)
        rwa [show decide ((cs.filter fun c => decide (c.2 < g)).length ≤ i) = decide (((((cs.filter fun c => decide (c.2 < g)).map fun c => V.str c.1).length : Nat) : Int) ≤ ((i : Nat) : Int)) by rw [List.length_map]; exact decide_eq_decide.mpr (by omega)] at this
      · refine ite2 (fun q => ?_) (fun q => nx_of ?_)
        · rw [if_pos q] at eb2
          refine ⟨_, rfl, _, rfl, .inr ⟨_, rfl, small_log (by omega)⟩, fun d hd => ?_⟩
          exact kBad i eb2 _ d ((s35.trans s6).trans (same_upd hd)) upd_same
        · rw [if_neg q] at eb2
          exact ⟨_, rfl, _, _, rfl, rfl, _, _, _, _, _, g + 1, rfl, s35.trans s6, eb2⟩
    · rintro σ H2 ⟨o3, o4, o5, o6, o7, e, rfl, s2, eb⟩
      rw [List.length_map, List.drop_length] at eb
      have eb2 : badG cs 0 0 gs = if gs.length < cs.length then some gs.length else none := eb
      refine ⟨_, rfl, Gm, _, rfl, .inr (SqT.of (s2 _ _ hG)), _, rfl, Cm, _, rfl, .inr (SqT.of (s2 _ _ hC)), _, _, rfl, rfl, _, rfl, ite2 (fun q => ?_) (fun q => ?_)⟩
      · have ql : gs.length < cs.length := by
          have := of_decide_eq_true q
          rw [List.length_map, lC] at this
          omega
        rw [if_pos ql] at eb2
        refine ⟨_, rfl, Gm, _, rfl, .inr (SqT.of (s2 _ _ hG)), _, rfl, .inr ⟨_, rfl, by rw [List.length_map]; exact small_log (by omega)⟩, fun d hd => ?_⟩
        exact kBad _ eb2 _ d (s2.trans (same_upd hd)) (by rw [upd_same, List.length_map])
      · have ql : ¬ gs.length < cs.length := fun z => q (decide_eq_true (by rw [List.length_map, lC]; omega))
        rw [if_neg ql] at eb2
        exact kGood eb2 _ s2
end
end Go
set_option Elab.async false
set_option linter.all false
set_option maxRecDepth 100000
set_option maxHeartbeats 8000000
set_option autoImplicit false
/-! GoingObserver: __init__, way_count. -/
namespace Go
open PySem L2 Sho NdefX Shg Sh1 Sh4
/-- what the written part says of GoingObserver -/
structure ObsC (K : PySem.W.Frag) (mg : Str → Option Value) (C fI : Addr) : Prop where
  gm : mg "GoingObserver" = some (.ref C)
  cl : Cls K C
  n1 : NoAttr K C "_comings"
  n2 : NoAttr K C "_goings"
  n3 : NoAttr K C "_accepted"
  mkr : Mk K C fI
abbrev obF (Cm Gm La : Addr) : List (Str × V) := [("_comings", .ref Cm), ("_goings", .ref Gm), ("_accepted", .ref La)]
theorem lk_c (a b c : V) : List.lookup ("_comings" : Str) [(("_comings" : Str), a), ("_goings", b), ("_accepted", c)] = some a := by simp [List.lookup]
theorem lk_g (a b c : V) : List.lookup ("_goings" : Str) [(("_comings" : Str), a), ("_goings", b), ("_accepted", c)] = some b := by
  have h : (("_goings" : Str) == ("_comings" : Str)) = false := by decide +kernel
  simp [List.lookup, h]
theorem lk_a (a b c : V) : List.lookup ("_accepted" : Str) [(("_comings" : Str), a), ("_goings", b), ("_accepted", c)] = some c := by
  have h : (("_accepted" : Str) == ("_comings" : Str)) = false := by decide +kernel
  have h2 : (("_accepted" : Str) == ("_goings" : Str)) = false := by decide +kernel
  simp [List.lookup, h, h2]
/-- an observer that has seen nothing -/
def ObsAt (C : Addr) (H : Hp) (x : Addr) (cs : List (Str × Int)) (gs : List Int) : Prop := ∃ dx Cm Gm La ws, H x = some (.ins C dx (obF Cm Gm La)) ∧ H Cm = some (.tup ws) ∧ PairsAt H ws cs ∧ H Gm = some (.tup (gs.map V.int)) ∧ H La = some (.lst [])
section
variable {P : Program} {w : World} {K : PySem.W.Frag} {mg : Str → Option Value} {base : Heap}
theorem scObs : FnScope ["self", "comings", "goings"] ["self", "comings", "goings"] (defScope sGoingObserver_Init) := ⟨rfl, rfl, rfl, by decide +kernel, rfl, by decide +kernel, by decide +kernel⟩
def spObs (K : PySem.W.Frag) (mg : Str → Option Value) (C fI CT CI CG : Addr) : Sp := fun vs H Q E => ∃ (x dx Cm Gm : Addr) (ws : List V) (cs : List (Str × Int)) (gs : List Int), vs = [.ref x, .ref Cm, .ref Gm] ∧ H x = some (.ins C dx []) ∧ H Cm = some (.tup ws) ∧ PairsAt H ws cs ∧ H Gm = some (.tup (gs.map V.int)) ∧ cs.length ≤ 1000 ∧ gs.length ≤ 1000 ∧ (∀ c ∈ cs, c.1.length ≤ 1000) ∧
  (10 < cs.length → ∀ H', Same H H' → E (.ref CT) none H') ∧
  (cs.length ≤ 10 → (∀ i, badC [] 0 cs = some i → ∀ (H' : Hp) (d : Addr), Same H H' → H' d = some (.xd [(("index" : Str), .int (i : Nat))]) → E (.ref CI) (some d) H') ∧
    (badC [] 0 cs = none → (∀ i, badG cs 0 0 gs = some i → ∀ (H' : Hp) (d : Addr), Same H H' → H' d = some (.xd [(("index" : Str), .int (i : Nat))]) → E (.ref CG) (some d) H') ∧
      (badG cs 0 0 gs = none → ∀ H', ObsAt C H' x cs gs → (∀ b o, b ≠ x → H b = some o → H' b = some o) → Q .non H')))
theorem ok_obs {f C CT CI CG fC fG : Addr} {fd fdC fdG : FuncData} (F : Fun K "__init__" "GoingObserver.__init__" sGoingObserver_Init f fd) (OC : ObsC K mg C f)
    (GC : FnOk P w K mg base (L2.CX P w) 3 fC fdC ["comings"] (spCC CT CI)) (mC : mg "_check_comings" = some (.ref fC)) (kC : PySem.W.keepIn K (.ref fC) = true) (bC : Binds K fdC ["comings"] [])
    (GG : FnOk P w K mg base (L2.CX P w) 3 fG fdG ["comings", "goings"] (spCG CG)) (mG : mg "_check_goings" = some (.ref fG)) (kG : PySem.W.keepIn K (.ref fG) = true) (bG : Binds K fdG ["comings", "goings"] []) :
    FnOk P w K mg base (L2.CX P w) 4 f fd ["self", "comings", "goings"] (spObs K mg C f CT CI CG) := by
  refine F.okX scObs (fun vs H Q E h => ?_) (fun cdv A outer s H vs Q E hr h => ?_)
  · obtain ⟨x, dx, Cm, Gm, ws, cs, gs, rfl, _⟩ := h
    rfl
  · obtain ⟨x, dx, Cm, Gm, ws, cs, gs, rfl, hx, hC, pC, hG, lc, lg, short, kT, kOk⟩ := h
    have nd := scObs.nd
    have pass : Passes (L2.CX P w) (cxOf (L2.CX P w) P w K mg base ["self", "comings", "goings"] "GoingObserver.__init__" (defScope sGoingObserver_Init) f cdv A outer s H E) E := passes_call (takes_of rfl rfl rfl rfl) fun _ _ _ _ z => z
    refine ⟨_, (pss_cons (ps_expr (pe_call GC (hr.mono (by decide)) rfl mC kC bC .nil pass (pa_cons (pv 1) pa_nil)))
      (pss_cons (ps_expr (pe_call GG (hr.mono (by decide)) rfl mG kG bG .nil pass (pa_cons (pv 1) (pa_cons (pv 2) pa_nil))))
      (pss_cons (ps_fld (pv 0) (pv 1) rfl)
      (pss_cons (ps_fld (pv 0) (pv 2) rfl)
      (pss_one (ps_fld (pv 0) (pe_lst pa_nil) rfl)))))), ?_⟩
    refine ⟨_, rfl, Cm, ws, cs, rfl, hC, pC, lc, short, kT, fun c10 => ⟨fun bc H1 s1 => ?_, (kOk c10).1⟩⟩
    obtain ⟨kBad, kGood⟩ := (kOk c10).2 bc
    refine ⟨_, rfl, _, rfl, Cm, Gm, ws, cs, gs, rfl, s1 _ _ hC, pair_mono (fun v c ⟨t, e, h⟩ => ⟨t, e, s1 _ _ h⟩) pC, s1 _ _ hG, lc, lg, fun bg H2 s2 => ?_, fun i e H' d s' => kBad i e H' d (s1.trans s')⟩
    have s02 := s1.trans s2
    have hx2 := s02 _ _ hx
    refine ⟨_, rfl, _, rfl, x, C, dx, _, rfl, hx2, OC.cl, OC.n1, by decide, ?_⟩
    refine ⟨_, rfl, _, rfl, x, C, dx, _, rfl, upd_same, OC.cl, OC.n2, by show 1 < 1000; decide, ?_⟩
    rw [upd_upd]
    refine ⟨Nat.zero_le _, fun La hLa => ⟨_, rfl, x, C, dx, [("_comings", .ref Cm), ("_goings", .ref Gm)], rfl, (same_upd hLa) _ _ upd_same, OC.cl, OC.n3, by show 2 < 1000; decide, ?_⟩⟩
    have nLx : La ≠ x := fun z => by rw [z, upd_same] at hLa; cases hLa
    have hLa2 : H2 La = none := by rw [upd_ne nLx] at hLa; exact hLa
    have ep : putF "_accepted" (.ref La) [(("_comings" : Str), V.ref Cm), ("_goings", .ref Gm)] = obF Cm Gm La := rfl
    have other : ∀ b o, b ≠ x → H2 b = some o → (upd (upd (upd H2 x (.ins C dx (putF "_goings" (.ref Gm) (putF "_comings" (.ref Cm) [])))) La (.lst [])) x (.ins C dx (obF Cm Gm La))) b = some o := fun b o n e => by rw [upd_ne n, upd_ne (ne_of_none e hLa2), upd_ne n]; exact e
    have tups : ∀ b vs, H b = some (.tup vs) → (upd (upd (upd H2 x (.ins C dx (putF "_goings" (.ref Gm) (putF "_comings" (.ref Cm) [])))) La (.lst [])) x (.ins C dx (obF Cm Gm La))) b = some (.tup vs) := fun b vs e => other b _ (fun z => by rw [z, hx] at e; cases e) (s02 _ _ e)
    exact kGood bg _ ⟨dx, Cm, Gm, La, ws, upd_same, tups _ _ hC, pair_mono (fun v c ⟨t, e, h⟩ => ⟨t, e, tups _ _ h⟩) pC, tups _ _ hG, by rw [upd_ne nLx]; exact upd_same⟩ fun b o n e => other b o n (s02 _ _ e)
theorem scWay : FnScope ["self"] ["self"] (defScope sGoingObserver_WayCount) := ⟨rfl, rfl, rfl, by decide +kernel, rfl, by decide +kernel, by decide +kernel⟩
/-- way_count of an observer that has seen nothing: at least one -/
def spWayCount (K : PySem.W.Frag) (mg : Str → Option Value) (C fI : Addr) (T : List (Addr × Str)) : Sp := fun vs H Q _ => ∃ (x : Addr) (cs : List (Str × Int)) (gs : List Int), vs = [.ref x] ∧ ObsAt C H x cs gs ∧ Valid9 cs gs ∧ LamX.Tabs T H ∧ ∀ (c : Int) H', Grows T H H' → 1 ≤ c → Q (.int c) H'
theorem ok_wayCount {f C fI fW : Addr} {fd fdW : FuncData} {T : List (Addr × Str)} (F : Fun K "way_count" "GoingObserver.way_count" sGoingObserver_WayCount f fd) (OC : ObsC K mg C fI)
    (GW : FnOk P w K mg base CX0 6 fW fdW ["comings", "goings", "records"] (spWays T)) (mW : mg "_ways_to_go" = some (.ref fW)) (kW : PySem.W.keepIn K (.ref fW) = true) (bW : Binds K fdW ["comings", "goings", "records"] []) :
    FnOk P w K mg base CX0 7 f fd ["self"] (spWayCount K mg C fI T) := by
  refine F.ok scWay (fun vs H Q E h => ?_) (fun cdv A outer s H vs Q E hr h => ?_)
  · obtain ⟨x, cs, gs, rfl, _⟩ := h
    rfl
  · obtain ⟨x, cs, gs, rfl, ⟨dx, Cm, Gm, La, ws, hx, hC, pC, hG, hA⟩, va, hT, kk⟩ := h
    refine ⟨_, (pss_one (ps_ret (pe_ix ix_tup (pe_call GW (hr.mono (by decide)) rfl mW kW bW .nil pass0 (pa_cons (pe_fld (pv 0) rfl) (pa_cons (pe_fld (pv 0) rfl) (pa_cons (pe_fld (pv 0) rfl) pa_nil)))) pe_int (fun _ _ => rfl)))), ?_⟩
    refine ⟨_, rfl, x, C, dx, _, _, rfl, hx, OC.cl, OC.n1, lk_c .., _, rfl, x, C, dx, _, _, rfl, hx, OC.cl, OC.n2, lk_g .., _, rfl, x, C, dx, _, _, rfl, hx, OC.cl, OC.n3, lk_a .., Cm, Gm, La, ws, cs, gs, rfl, hC, pC, hG, hA, va, hT, fun p wv c H' gr hc e => ?_⟩
    exact ⟨p, _, 0, .int c, rfl, rfl, SqT.of e, atI_nat (j := 0) rfl, kk c H' gr hc⟩
theorem scRec : FnScope ["self"] ["self"] (defScope sGoingObserver_Records) := ⟨rfl, rfl, rfl, by decide +kernel, rfl, by decide +kernel, by decide +kernel⟩
def spRec (C : Addr) : Sp := fun vs H Q _ => ∃ (x : Addr) (cs : List (Str × Int)) (gs : List Int), vs = [.ref x] ∧ ObsAt C H x cs gs ∧ ∀ l, H l = none → Q (.ref l) (upd H l (.lst []))
theorem ok_records {f C fI : Addr} {fd : FuncData} (F : Fun K "records" "GoingObserver.records" sGoingObserver_Records f fd) (B : Shg.Blt mg) (OC : ObsC K mg C fI) : FnOk P w K mg base CX0 1 f fd ["self"] (spRec C) := by
  refine F.ok scRec (fun vs H Q E h => ?_) (fun cdv A outer s H vs Q E hr h => ?_)
  · obtain ⟨x, cs, gs, rfl, _⟩ := h
    rfl
  · obtain ⟨x, cs, gs, rfl, ⟨dx, Cm, Gm, La, ws, hx, hC, pC, hG, hA⟩, kk⟩ := h
    refine ⟨_, (pss_one (ps_ret (pe_callTy call_list_of (by rfl) B.list (by decide +kernel) (pa_cons (pe_fld (pv 0) rfl) pa_nil)))), ?_⟩
    exact ⟨_, rfl, x, C, dx, _, _, rfl, hx, OC.cl, OC.n3, lk_a .., La, [], rfl, .inl (SqL.of hA), kk⟩
end
end Go
set_option Elab.async false
set_option linter.all false
set_option maxRecDepth 100000
set_option maxHeartbeats 4000000
set_option autoImplicit false
/-! What the two checks grant. -/
namespace Go
open PySem L2 Sho NdefX Shg Sh1 Sh4
theorem badC_ok : ∀ {cs : List (Str × Int)} {seen : List Str} {i : Nat}, badC seen i cs = none → ∀ c ∈ cs, okName c.1 = true ∧ 0 ≤ c.2 ∧ c.2 ≤ 999999999
  | [], _, _, _, c, hc => nomatch hc
  | x :: r, seen, i, h, c, hc => by
    unfold badC at h
    split at h
    · cases h
    · rename_i k
      rcases List.mem_cons.mp hc with rfl | hc
      · simp only [Bool.or_eq_true, not_or, Bool.not_eq_true', Bool.not_eq_false', Bool.and_eq_true, decide_eq_true_eq, Bool.not_eq_false, Bool.not_eq_true] at k
        have k2 := k.2.2
        refine ⟨?_, ?_⟩
        · cases e : okName c.1 with
          | true => rfl
          | false => exact absurd k.2.1 (by rw [e]; decide)
        · simpa using k2
      · exact badC_ok h c hc
theorem badG_ok {cs : List (Str × Int)} : ∀ {gs : List Int} {e : Int} {i : Nat}, badG cs e i gs = none → (∀ j g, gs[j]? = some g → e ≤ g ∧ i + j < (cs.filter fun c => decide (c.2 < g)).length) ∧ (∀ j g h, gs[j]? = some g → gs[j + 1]? = some h → g < h) ∧ cs.length ≤ i + gs.length
  | [], e, i, h => by
    unfold badG at h
    split at h
    · cases h
    · rename_i k
      exact ⟨fun j g e => by simp at e, fun j g h e => by simp at e, by simpa using Nat.le_of_not_lt k⟩
  | g :: r, e, i, h => by
    unfold badG at h
    split at h
    · cases h
    · rename_i k
      obtain ⟨h1, h2, h3⟩ := badG_ok h
      have k' : (e ≤ g ∧ g ≤ 1000000000) ∧ i < (cs.filter fun c => decide (c.2 < g)).length := by simpa using k
      refine ⟨fun j g2 ej => ?_, fun j g2 h2' ej ek => ?_, by rw [List.length_cons]; omega⟩
      · cases j with
        | zero =>
          cases ej
          exact ⟨k'.1.1, k'.2⟩
        | succ j =>
          obtain ⟨p1, p2⟩ := h1 j g2 ej
          exact ⟨by omega, by omega⟩
      · cases j with
        | zero =>
          cases ej
          have := (h1 0 h2' ek).1
          omega
        | succ j => exact h2 j g2 h2' ej ek
theorem valid_of {cs : List (Str × Int)} {gs : List Int} (l10 : cs.length ≤ 10) (hc : badC [] 0 cs = none) (hg : badG cs 0 0 gs = none) : Valid9 cs gs := by
  obtain ⟨h1, h2, h3⟩ := badG_ok hg
  refine ⟨l10, fun c h => (badC_ok hc c h).2.1, h2, fun i g e => ⟨(h1 i g e).1, by have := (h1 i g e).2; omega⟩, ?_⟩
  by_cases z : gs.length = 0
  · omega
  · have e : gs[gs.length - 1]? = some (gs[gs.length - 1]'(by omega)) := List.getElem?_eq_getElem _
    have k := (h1 _ _ e).2
    have l := List.length_filter_le (fun c => decide (c.2 < gs[gs.length - 1]'(by omega))) cs
    omega
end Go
set_option Elab.async false
set_option linter.all false
set_option maxRecDepth 100000
set_option maxHeartbeats 2000000
/-! bool(x), len(x), x[i], x == y of own instances by promises. -/
namespace ShB
open PySem
theorem meets_bool {prog : Program} {w : World} (v : Value) :
    MeetsIn prog w (Builtin.«bool.__new__» ⟨[.type "bool", v], []⟩) (fun A R s => wpAny (model prog w) A.in1 (truthy v) (fun b s' => R (.ok (.ret (.bool b))) s') (fun e s' => R (.error e) s') s) := by
  intro A R s h
  obtain ⟨hp, g, d, tk, os⟩ := s
  have f1 := F.conv_sub_bool
  unfold Builtin.«bool.__new__»
  repeat (any_goals (first | assumption | (with_reducible refine wpAny_mono h (fun b s' z => ?_) fun _ _ z => z) | wp_step))
  all_goals first | exact ⟨_, rfl, z⟩ | exact z | skip
theorem call_boolT {prog : Program} {w : World} {A : Around} {E : Value → Shared → Prop} {s : Shared} {v : Value} {Q : Value → Shared → Prop}
    (h : wpAny (model prog w) A.in1.in1 (truthy v) (fun b s' => Q (.bool b) s') E s) : wpAny (model prog w) A (call (.type "bool") [v]) Q E s :=
  callType_newIn F.called_bool F.newNe_bool (F.typeCall_bool_1 v) (F.newCall_bool_1 v) (fun obj => F.args_object_init_2 obj v) F.entry_bool_new (meets_bool v)
    (wpAny_mono h (fun b s' z => ⟨by rfl, z⟩) fun _ _ z => z)
end ShB

namespace Sho
open PySem PySem.Spec PyProof.Rows L2 StX
section
variable {X : Cx} {CX : CXT} {k : Nat} {f C : Addr} {sp : Sp} {E : XK}
/-- a promise, run around A (which bears the frames of X) -/
theorem run_at {A : Around} {pins : List (Addr × Obj)} {σ : L2.St} {H : Hp} {s : Shared} {Q : VK} {us : List Value} {vs : List V} (F : FnR X.prog X.w X.K X.mg X.base CX k f sp) (hr : Room k A) (e0 : Env0 X.prog X.w X.K X.mg X.base A X.stack s H) (hx : Passes CX X E)
    (I : Inv X pins σ H s) (r : Vals vs us) (h : sp vs H Q E) : wpAny (model X.prog X.w) A (call (.ref f) us) (EP X pins σ Q) X.xe s := by
  refine wpAny_call (codeAny_mono (F A X.stack s H us vs Q E hr e0 r h) fun r s' hq => ?_)
  cases r with
  | error e => exact hx pins σ H s e s' I hq
  | ok fl =>
    cases fl with
    | ret u => exact I.after hq
    | next => exact hq.elim
    | brk => exact hq.elim
    | cont => exact hq.elim
theorem inst_of {pins : List (Addr × Obj)} {σ : L2.St} {H : Hp} {s : Shared} {a : Addr} (I : Inv X pins σ H s) (h : InsAt H a C) : ∃ ox od, PySem.W.InstAt s.heap a ox C od := by
  obtain ⟨dx, fs, h⟩ := h
  obtain ⟨mA, J, _⟩ := ins_get I.hok h
  obtain ⟨od, J, _⟩ := J.look
  exact ⟨_, _, J⟩
/-- len(a), a's own __len__ -/
def rLenO (C : Addr) (sp : Sp) (E : XK) : List V → Hp → VK → Prop := fun xs H Q => ∃ a, xs = [.ref a] ∧ InsAt H a C ∧ sp [.ref a] H (fun r H' => ∃ n : Int, r = .int n ∧ 0 ≤ n ∧ n < 2 ^ 63 ∧ Q (.int n) H') E
theorem call_lenO (F : FnR X.prog X.w X.K X.mg X.base CX k f sp) (hr : Room (k + 1) X.A) (hx : Passes CX X E) (hs : PySem.W.findIn X.K (.ref C) "__len__" = some (some (.ref f))) (hf : PySem.W.isFn X.K (.ref f) = true) :
    CallR X (.builtin "len") (rLenO C sp E) := by
  rintro pins s σ H xs us Q I r ⟨a, rfl, ha, h⟩
  obtain rfl := Vals.ref1 r
  obtain ⟨ox, od, J⟩ := inst_of I ha
  obtain ⟨m, hF⟩ := I.fr
  refine PySem.W.len_K hF I.ok.mod.kin J hs hf (thn (run_at (vs := [.ref a]) F hr.in1 I.env0.in1 hx I (.cons rfl .nil) h) fun u s' q => ?_)
  obtain ⟨v, H', I', rv, n, rfl, n0, n1, q⟩ := q
  obtain ⟨t, rfl⟩ := rv
  exact ⟨⟨n0, n1⟩, .int n, H', I'.tok _, ⟨_, rfl⟩, q⟩
/-- bool(a), a's own __bool__ -/
def rBoolO (C : Addr) (sp : Sp) (E : XK) : List V → Hp → VK → Prop := fun xs H Q => ∃ a, xs = [.ref a] ∧ InsAt H a C ∧ sp [.ref a] H (fun r H' => ∃ b : Bool, r = .bl b ∧ Q (.bl b) H') E
theorem call_boolO (F : FnR X.prog X.w X.K X.mg X.base CX k f sp) (hr : Room (k + 2) X.A) (hx : Passes CX X E) (hs : PySem.W.findIn X.K (.ref C) "__bool__" = some (some (.ref f))) (hf : PySem.W.isFn X.K (.ref f) = true) :
    CallR X (.type "bool") (rBoolO C sp E) := by
  rintro pins s σ H xs us Q I r ⟨a, rfl, ha, h⟩
  obtain rfl := Vals.ref1 r
  obtain ⟨ox, od, J⟩ := inst_of I ha
  obtain ⟨m, hF⟩ := I.fr
  refine ShB.call_boolT (PySem.W.truthy_K hF I.ok.mod.kin J hs hf (thn (run_at (vs := [.ref a]) F hr.in1.in1 I.env0.in1.in1 hx I (.cons rfl .nil) h) fun u s' q => ?_))
  obtain ⟨v, H', I', rv, b, rfl, q⟩ := q
  cases rv
  exact ⟨.bl b, H', I', rfl, q⟩
/-- bool(a tuple) -/
theorem call_boolTup : CallR X (.type "bool") (fun xs H Q => ∃ (a : Addr) (zs : List V), xs = [.ref a] ∧ SqT X.K H a zs ∧ Q (.bl (!zs.isEmpty)) H) := by
  rintro pins s σ H xs us Q I r ⟨a, zs, rfl, hq, q⟩
  obtain rfl := Vals.ref1 r
  obtain ⟨its, rv, pl, hz⟩ := I.tuple hq
  have hl := line63
  have hlen := rv.length
  refine ShB.call_boolT (truthy_tuple pl (by simp only [List.size_toArray]; omega) ?_)
  exact ⟨.bl (!zs.isEmpty), H, I.tok _, by rw [isEmpty_of rv]; rfl, q⟩
/-- a[i], a's own __getitem__ -/
theorem pe_ixO {ea eb : Expr} {ta tb : TE} {pos : Pos} (F : FnR X.prog X.w X.K X.mg X.base CX k f sp) (hr : Room (k + 1) X.A) (hx : Passes CX X E) (hs : PySem.W.findIn X.K (.ref C) "__getitem__" = some (some (.ref f))) (hfn : PySem.W.fnIn X.K f = true) (hf : PySem.W.isFn X.K (.ref f) = true)
    (ha : PE X ea ta) (hb : PE X eb tb) (hsl : ∀ (a : Addr) (u : Value), subscripted eb true (.ref a) u = runValue (.builtin "lifetime.subscript" ⟨[.ref a, u], []⟩)) : PE X (.Subscript ea eb pos) (tOp (rOwnIx C sp E) ta tb) := by
  refine ⟨fun pins s σ H Q I h => ?_⟩
  refine Subscript_ (binT ha hb I h fun v u s2 x y H2 I2 rx ry q => ?_)
  obtain ⟨a, rfl, hi, h2⟩ := q
  cases rx
  obtain ⟨ox, od, J⟩ := inst_of I2 hi
  obtain ⟨m, hF⟩ := I2.fr
  exact PySem.W.sub_K hF I2.ok.mod.kin J hs hfn hf (run_at (vs := [.ref a, y]) F hr.in1 I2.env0.in1 hx I2 (.cons rfl (.cons ry .nil)) h2) (hsl a u)
/-- a == y, a's own __eq__; y of the own class, or of a built-in type -/
def TyEq (K : PySem.W.Frag) (H : Hp) (C : Addr) (y : V) : Prop := (∃ b, y = .ref b ∧ InsAt H b C) ∨ ∃ (b : Addr) (zs : List V), y = .ref b ∧ SqT K H b zs ∧ PySem.W.subIn K (.type "tuple") (.ref C) = some false
def rOwnEq (K : PySem.W.Frag) (C : Addr) (sp : Sp) (E : XK) : R2 := fun x y H Q => ∃ a, x = .ref a ∧ InsAt H a C ∧ TyEq K H C y ∧ sp [.ref a, y] H (fun r H' => ∃ b : Bool, r = .bl b ∧ Q (.bl b) H') E
theorem op_ownEq (F : FnR X.prog X.w X.K X.mg X.base CX k f sp) (hr : Room k X.A) (hx : Passes CX X E) (hs : PySem.W.findIn X.K (.ref C) "__eq__" = some (some (.ref f))) (hf : PySem.W.isFn X.K (.ref f) = true) :
    OpR X (compareOp .Eq) (rOwnEq X.K C sp E) := by
  rintro pins s σ H x y u v Q I rx ry ⟨a, rfl, ha, ht, h⟩
  cases rx
  obtain ⟨ox, od, J⟩ := inst_of I ha
  obtain ⟨m, hF⟩ := I.fr
  show wpAny (model X.prog X.w) X.A (richCompare .Eq (.ref a) v) (EP X pins σ Q) X.xe s
  have fin : ∀ (u : Value) (s' : Shared), EP X pins σ (fun r H' => ∃ b : Bool, r = .bl b ∧ Q (.bl b) H') u s' → PySem.W.CmpBack (EP X pins σ Q) u s' := fun u s' q => by
    obtain ⟨w2, H', I', rv, b, rfl, q⟩ := q
    cases rv
    exact ⟨.bl b, H', I', rfl, q⟩
  have run := run_at (vs := [.ref a, y]) F hr I.env0 hx I (.cons rfl (.cons ry .nil)) h
  rcases ht with ⟨b, rfl, hb⟩ | ⟨b, zs, rfl, hq, hsub⟩
  · cases ry
    obtain ⟨oy, od', J'⟩ := inst_of I hb
    exact PySem.W.cmp_K (op := .Eq) (tb := .ref C) hr.units0 hF I.ok.mod.kin J J'.type (by simp [PySem.W.notFirst]) hs hf (thn run fin)
  · cases ry
    obtain ⟨its, rv, ⟨o, ho, hc, _⟩, hz⟩ := I.tuple hq
    refine PySem.W.cmp_K (op := .Eq) (tb := .type "tuple") hr.units0 hF I.ok.mod.kin J (fun A Q E s k q => wpAny_typeOf_ref (k _ _ ho) (by rw [hc]; exact q)) ?_ hs hf (thn run fin)
    unfold PySem.W.notFirst
    rw [hsub]
    simp
end
end Sho
set_option Elab.async false
set_option linter.all false
set_option maxRecDepth 100000
set_option maxHeartbeats 2000000
namespace Sh1
open PySem L2 Sho NdefX
section
variable {P : Program} {w : World} {K : PySem.W.Frag} {mg : Str → Option Value} {base : Heap}
theorem no_meth (a : V) {m : Str} (h : (m == ("_stays" : Str)) = false) : List.lookup m [(("_stays" : Str), a)] = none := by simp [List.lookup, h]
/-! ### _stay_of -/
def guest (xs : List Stay) (z : Str) : Option Stay := xs.find? fun x => x.1 == z
def spStayOf (C CU : Addr) : Sp := fun vs H Q E => ∃ (p : Addr) (z : Str) (xs : List Stay), vs = [.ref p, .str z] ∧ PartyAt C H p xs ∧ z.length ≤ 100000 ∧
  (∀ x t, guest xs z = some x → H t = some (.tup [.str x.1, .int x.2.1, .int x.2.2]) → Q (.ref t) H) ∧
  (guest xs z = none → ∀ (H' : Hp) (d : Addr), Same H H' → H d = none → H' d = some (.xd [(("name" : Str), .str z)]) → E (.ref CU) (some d) H')
theorem scPStayOf : FnScope ["self", "name", "stay"] ["self", "name"] (defScope sPStayOf) := ⟨rfl, rfl, rfl, by decide +kernel, rfl, by decide +kernel, by decide +kernel⟩
theorem dec_str {a b : Str} : decide (V.str a = V.str b) = (a == b) := by
  rw [Bool.eq_iff_iff]
  simp
theorem ok_stayOf {f C CU : Addr} {fd : FuncData} (F : Fun K "_stay_of" "Party._stay_of" sPStayOf f fd) (PC : PartyC K mg C) (EC : ErrC P K mg "UnknownGuest" "name" nfUnk CU) : FnOk P w K mg base (L2.CX P w) 3 f fd ["self", "name"] (spStayOf C CU) := by
  refine F.okX scPStayOf (fun vs H Q E h => ?_) (fun cdv A outer s H vs Q E hr h => ?_)
  · obtain ⟨p, z, xs, rfl, _⟩ := h
    rfl
  · obtain ⟨p, z, xs, rfl, ⟨dx, a, ws, h1, h2, h3⟩, hz, kOk, kBad⟩ := h
    have nd := scPStayOf.nd
    refine ⟨_, pss_cons (ps_for (passes_of rfl) rfl (pi_tup (pe_fld (pv 0) rfl)) (pg_name (i := 2) nd rfl (Or.inl rfl))
        (pss_one (ps_if (pt_cmpR op_eq (pe_ix ix_tup (pv 2) pe_int (fun _ _ => rfl)) (pv 1) (nomark _)) (pss_one (ps_ret (pv 2))) pss_nil)))
      (pss_one (ps_raise rfl (takes_of rfl rfl rfl rfl) (pmk_unk (k := 0) EC (hr.mono (by decide)) passL (by rfl) (pk_cons (pv 1) pk_nil) rfl rfl rfl))), ?_⟩
    refine ⟨_, rfl, p, C, dx, _, .ref a, rfl, h1, PC.cl, PC.nS, lk_stays _, a, rfl, ⟨_, SqT.of h2⟩, for_it walk_tup (fun i σ H2 => ∃ o, σ = [some (.ref p), some (.str z), o] ∧ H2 = H ∧ guest (xs.take i) z = none)
      ⟨none, rfl, rfl, rfl⟩ (fun i σ H2 _ ⟨_, _, e, _⟩ => by rw [e]; exact SqT.of h2) ?_ ?_⟩
    · rintro i y σ H2 H3 hi ⟨o, rfl, rfl, hb⟩ ⟨rfl, e2⟩
      obtain ⟨x, hx, t, rfl, ht⟩ := pair_get h3 e2
      refine ⟨_, rfl, t, _, 0, .str x.1, rfl, rfl, SqT.of ht, atI_nat (j := 0) rfl, _, rfl, rfl, _, rfl, ?_⟩
      rw [dec_str]
      have take1 : xs.take (i + 1) = xs.take i ++ [x] := by rw [List.take_add_one, hx]; rfl
      cases e : (x.1 == z) with
      | true =>
        refine iteT ⟨_, rfl, kOk x t ?_ ht⟩
        have q : guest (xs.take (i + 1)) z = some x := by
          unfold guest at hb ⊢
          rw [take1, List.find?_append, hb]
          simp [e]
        have q2 : xs = xs.take (i + 1) ++ xs.drop (i + 1) := (List.take_append_drop _ _).symm
        unfold guest at q ⊢
        rw [q2, List.find?_append, q]
        rfl
      | false =>
        refine iteF ⟨_, rfl, rfl, ?_⟩
        unfold guest at hb ⊢
        rw [take1, List.find?_append, hb]
        simp [e]
    · rintro σ H2 ⟨o, rfl, rfl, hb⟩
      rw [pair_len h3, List.take_length] at hb
      refine ⟨_, rfl, _, rfl, .inl ⟨z, rfl, hz⟩, fun d hd => kBad hb _ d (fun b o e => ?_) hd upd_same⟩
      rw [upd_ne (ne_of_none e hd)]
      exact e
/-! ### __len__, __bool__, __contains__, __getitem__ -/
def spPLen (C : Addr) : Sp := fun vs H Q _ => ∃ (p : Addr) (xs : List Stay), vs = [.ref p] ∧ PartyAt C H p xs ∧ Q (.int (xs.length : Nat)) H
theorem scPLen : FnScope ["self"] ["self"] (defScope sPLen) := ⟨rfl, rfl, rfl, by decide +kernel, rfl, by decide +kernel, by decide +kernel⟩
theorem ok_plen {f C : Addr} {fd : FuncData} (F : Fun K "__len__" "Party.__len__" sPLen f fd) (B : Blt mg) (PC : PartyC K mg C) : FnOk P w K mg base CX0 1 f fd ["self"] (spPLen C) := by
  refine F.ok scPLen (fun vs H Q E h => ?_) (fun cdv A outer s H vs Q E hr h => ?_)
  · obtain ⟨p, xs, rfl, _⟩ := h
    rfl
  · obtain ⟨p, xs, rfl, ⟨dx, a, ws, h1, h2, h3⟩, k⟩ := h
    refine ⟨_, pss_one (ps_ret (pe_callB call_len_seq (by rfl) B.len PySem.boot_len (pa_cons (pe_fld (pv 0) rfl) pa_nil))), ?_⟩
    refine ⟨_, rfl, p, C, dx, _, .ref a, rfl, h1, PC.cl, PC.nS, lk_stays _, a, ws, rfl, .inr (SqT.of h2), ?_⟩
    rw [pair_len h3]
    exact k
def spPBool (C : Addr) : Sp := fun vs H Q _ => ∃ (p : Addr) (xs : List Stay), vs = [.ref p] ∧ PartyAt C H p xs ∧ Q (.bl (!xs.isEmpty)) H
theorem scPBool : FnScope ["self"] ["self"] (defScope sPBool) := ⟨rfl, rfl, rfl, by decide +kernel, rfl, by decide +kernel, by decide +kernel⟩
theorem ok_pbool {f C : Addr} {fd : FuncData} (F : Fun K "__bool__" "Party.__bool__" sPBool f fd) (B : Blt mg) (PC : PartyC K mg C) : FnOk P w K mg base CX0 1 f fd ["self"] (spPBool C) := by
  refine F.ok scPBool (fun vs H Q E h => ?_) (fun cdv A outer s H vs Q E hr h => ?_)
  · obtain ⟨p, xs, rfl, _⟩ := h
    rfl
  · obtain ⟨p, xs, rfl, ⟨dx, a, ws, h1, h2, h3⟩, k⟩ := h
    refine ⟨_, pss_one (ps_ret (pe_callTy call_boolTup (by rfl) B.bool (by decide +kernel) (pa_cons (pe_fld (pv 0) rfl) pa_nil))), ?_⟩
    refine ⟨_, rfl, p, C, dx, _, .ref a, rfl, h1, PC.cl, PC.nS, lk_stays _, a, ws, rfl, SqT.of h2, ?_⟩
    have e : ws.isEmpty = xs.isEmpty := by
      have := pair_len h3
      cases ws <;> cases xs <;> simp at this <;> rfl
    rw [e]
    exact k
def named (xs : List Stay) (z : Str) : Bool := xs.any fun x => x.1 == z
def spPIn (C : Addr) : Sp := fun vs H Q _ => ∃ (p : Addr) (z : Str) (xs : List Stay), vs = [.ref p, .str z] ∧ PartyAt C H p xs ∧ xs.length ≤ sizeLine ∧ ∀ H', Same H H' → Q (.bl (named xs z)) H'
theorem scPIn : FnScope ["self", "name"] ["self", "name"] (defScope sPIn) := ⟨rfl, rfl, rfl, by decide +kernel, rfl, by decide +kernel, by decide +kernel⟩
theorem ok_pin {f C fN pN : Addr} {fd fdN : FuncData} (F : Fun K "__contains__" "Party.__contains__" sPIn f fd) (PC : PartyC K mg C) (GN : FnOk P w K mg base CX0 1 fN fdN ["self"] (spPNames C)) (hN : PropOf K C "names" pN fN) (bN : Binds K fdN ["self"] []) :
    FnOk P w K mg base CX0 3 f fd ["self", "name"] (spPIn C) := by
  refine F.ok scPIn (fun vs H Q E h => ?_) (fun cdv A outer s H vs Q E hr h => ?_)
  · obtain ⟨p, z, xs, rfl, _⟩ := h
    rfl
  · obtain ⟨p, z, xs, rfl, PA, hz, k⟩ := h
    refine ⟨_, pss_one (ps_ret (pe_cmpR op_in_seq (pv 1) (pe_prop (pv 0) PC.cl hN GN hr bN .nil pass0 rfl) rfl)), ?_⟩
    obtain ⟨dx, a, ws, h1, h2, h3⟩ := id PA
    refine ⟨_, rfl, _, rfl, p, dx, _, rfl, h1, p, xs, rfl, PA, hz, fun H' t s' nt e => ?_⟩
    refine ⟨t, _, rfl, .inr (SqT.of e), rfl, ?_, ?_⟩
    · have := flat_strs (xs.map fun x => x.1)
      rw [List.map_map] at this
      exact this
    · have e2 : inV (.str z) (xs.map fun x => V.str x.1) = named xs z := by
        have := inV_strs z (xs.map fun x => x.1)
        rw [List.map_map, List.any_map] at this
        exact this
      rw [if_neg Bool.false_ne_true, e2]
      exact k _ s'
def spPIx (C CU : Addr) : Sp := fun vs H Q E => ∃ (p : Addr) (z : Str) (xs : List Stay), vs = [.ref p, .str z] ∧ PartyAt C H p xs ∧ z.length ≤ 100000 ∧
  (∀ x, guest xs z = some x → ∀ H' t, Same H H' → H t = none → H' t = some (.tup [.int x.2.1, .int x.2.2]) → Q (.ref t) H') ∧
  (guest xs z = none → ∀ (H' : Hp) (d : Addr), Same H H' → H d = none → H' d = some (.xd [(("name" : Str), .str z)]) → E (.ref CU) (some d) H')
theorem scPIx : FnScope ["self", "name"] ["self", "name"] (defScope sPIx) := ⟨rfl, rfl, rfl, by decide +kernel, rfl, by decide +kernel, by decide +kernel⟩
theorem guest_at {C : Addr} {H : Hp} {p : Addr} {xs : List Stay} {z : Str} (h : PartyAt C H p xs) : ∀ {x : Stay}, guest xs z = some x → ∃ t, H t = some (.tup [.str x.1, .int x.2.1, .int x.2.2]) := by
  obtain ⟨dx, a, ws, _, _, h3⟩ := h
  intro x hx
  have key : ∀ {ws : List V} {xs : List Stay}, StaysV H ws xs → x ∈ xs → ∃ t, H t = some (.tup [.str x.1, .int x.2.1, .int x.2.2]) := by
    intro ws xs r
    induction r with
    | nil => intro hm; cases hm
    | cons h r ih =>
      intro hm
      rcases List.mem_cons.mp hm with rfl | hm
      · obtain ⟨t, _, ht⟩ := h
        exact ⟨t, ht⟩
      · exact ih hm
  exact key h3 (List.mem_of_find?_eq_some hx)
theorem ok_pix {f C CU fS : Addr} {fd fdS : FuncData} (F : Fun K "__getitem__" "Party.__getitem__" sPIx f fd) (PC : PartyC K mg C) (GS : FnOk P w K mg base (L2.CX P w) 3 fS fdS ["self", "name"] (spStayOf C CU)) (mS : Meth K C "_stay_of" fS) (bS : Binds K fdS ["self", "name"] []) :
    FnOk P w K mg base (L2.CX P w) 4 f fd ["self", "name"] (spPIx C CU) := by
  refine F.okX scPIx (fun vs H Q E h => ?_) (fun cdv A outer s H vs Q E hr h => ?_)
  · obtain ⟨p, z, xs, rfl, _⟩ := h
    rfl
  · obtain ⟨p, z, xs, rfl, PA, hz, kOk, kBad⟩ := h
    refine ⟨_, pss_one (ps_ret (pe_slice sl_tup (pe_meth (pv 0) PC.cl mS GS hr bS .nil (passes_call (takes_of rfl rfl rfl rfl) fun _ _ _ _ z => z) (pa_cons (pv 1) pa_nil)) (po_some pe_int) po_none)), ?_⟩
    obtain ⟨dx, a, ws, h1, h2, h3⟩ := id PA
    refine ⟨_, rfl, p, dx, _, rfl, h1, no_meth _ (by decide +kernel), _, rfl, p, z, xs, rfl, PA, hz, fun x t hx ht => ?_, kBad⟩
    refine ⟨1, rfl, t, _, rfl, SqT.of ht, ?_, fun q hq => ?_⟩
    · exact fun h => absurd h.1 (by show ¬ HT.sIx 3 0 (some 1) = 0; decide +kernel)
    · refine kOk x hx _ q (fun b o e => ?_) hq ?_
      · rw [upd_ne (ne_of_none e hq)]
        exact e
      · rw [upd_same]
        rfl
end
end Sh1
set_option Elab.async false
set_option linter.all false
set_option maxRecDepth 100000
set_option maxHeartbeats 4000000
/-! Party.__call__. -/
namespace Sh1
open PySem L2 Sho NdefX Shg
def rw3 (x : Stay) : Rw := ⟨x.1, x.2.1, x.2.2, []⟩
theorem above_len (x : Rw) : ∀ l : List Rw, (above x l).length ≤ l.length
  | [] => Nat.le_refl _
  | y :: l => by
    unfold above
    split
    · simp
    · exact Nat.le_trans (above_len x l) (by simp)
theorem lifted_len (rs : List Rw) (x : Rw) : (lifted rs x).length ≤ rs.length := by
  unfold lifted
  refine Nat.le_trans (List.length_filter_le ..) ?_
  rw [List.length_reverse, ← bot_length (rs := rs)]
  exact above_len x _
theorem rws_of {H : Hp} : ∀ {ws : List V} {xs : List Stay}, StaysV H ws xs → RwsV H ws (xs.map rw3)
  | _, _, .nil => .nil
  | _, _, .cons h r => .cons h (rws_of r)
section
variable {P : Program} {w : World} {K : PySem.W.Frag} {mg : Str → Option Value} {base : Heap}
def spCallP (C CU : Addr) (T : List (Addr × Str)) : Sp := fun vs H Q E => ∃ (p : Addr) (z : Str) (xs : List Stay), vs = [.ref p, .str z] ∧ PartyAt C H p xs ∧ Short xs ∧ xs.length ≤ 100 ∧ z.length ≤ 100000 ∧ LamX.Tabs T H ∧
  (∀ x, guest xs z = some x → ∀ H', Grows T H H' → Q (.int ((lifted (xs.map rw3) (rw3 x)).length : Nat)) H') ∧
  (guest xs z = none → ∀ (H' : Hp) (d : Addr), Same H H' → H d = none → H' d = some (.xd [(("name" : Str), .str z)]) → E (.ref CU) (some d) H')
theorem scCallP : FnScope ["self", "name"] ["self", "name"] (defScope sPCall) := ⟨rfl, rfl, rfl, by decide +kernel, rfl, by decide +kernel, by decide +kernel⟩
theorem rws_ok {xs : List Stay} (hs : Short xs) : ∀ r ∈ xs.map rw3, OkRw r := fun r hr => by
  obtain ⟨x, hx, rfl⟩ := List.mem_map.mp hr
  exact (hs x hx).2
theorem ok_callP {f C CU fS fL : Addr} {fd fdS fdL : FuncData} {T : List (Addr × Str)} (F : Fun K "__call__" "Party.__call__" sPCall f fd) (B : Shg.Blt mg) (PC : PartyC K mg C)
    (GS : FnOk P w K mg base (L2.CX P w) 3 fS fdS ["self", "name"] (spStayOf C CU)) (mS : Meth K C "_stay_of" fS) (bS : Binds K fdS ["self", "name"] [])
    (GL : FnOk P w K mg base CX0 6 fL fdL ["stays", "taker"] (spLifted K T)) (mL : mg "lifted_from" = some (.ref fL)) (kL : PySem.W.keepIn K (.ref fL) = true) (bL : Binds K fdL ["stays", "taker"] []) : FnOk P w K mg base (L2.CX P w) 8 f fd ["self", "name"] (spCallP C CU T) := by
  refine F.okX scCallP (fun vs H Q E h => ?_) (fun cdv A outer s H vs Q E hr h => ?_)
  · obtain ⟨p, z, xs, rfl, _⟩ := h
    rfl
  · obtain ⟨p, z, xs, rfl, PA, hs, hl, hz, hT, kOk, kBad⟩ := h
    have pass : Passes (L2.CX P w) (cxOf (L2.CX P w) P w K mg base ["self", "name"] "Party.__call__" (defScope sPCall) f cdv A outer s H E) E := passes_call (takes_of rfl rfl rfl rfl) fun _ _ _ _ z => z
    refine ⟨_, pss_one (ps_ret (pe_callB call_len_seq (by rfl) B.len PySem.boot_len (pa_cons (pe_call GL (hr.mono (by decide)) rfl mL kL bL .nil pass0
      (pa_cons (pe_fld (pv 0) rfl) (pa_cons (pe_meth (pv 0) PC.cl mS GS (hr.mono (by decide)) bS .nil pass (pa_cons (pv 1) pa_nil)) pa_nil))) pa_nil))), ?_⟩
    obtain ⟨dx, a, ws, h1, h2, h3⟩ := id PA
    refine ⟨_, rfl, p, C, dx, _, .ref a, rfl, h1, PC.cl, PC.nS, lk_stays _, _, rfl, p, dx, _, rfl, h1, no_meth _ (by decide +kernel), _, rfl, p, z, xs, rfl, PA, hz, fun x t hx ht => ?_, kBad⟩
    refine ⟨a, .ref t, ws, xs.map rw3, rw3 x, rfl, .inr (SqT.of h2), rws_of h3, ⟨t, rfl, ht⟩, List.mem_map.mpr ⟨x, List.mem_of_find?_eq_some hx, rfl⟩, rws_ok hs, by rw [List.length_map]; omega, hT, fun pl H' ys G e r => ⟨pl, _, rfl, .inl (SqL.of e), ?_⟩⟩
    rw [pair_len r]
    exact kOk x hx H' G
end
end Sh1
set_option Elab.async false
set_option linter.all false
set_option maxRecDepth 100000
set_option maxHeartbeats 1000000
set_option autoImplicit false
/-! What the rows of k10's law come to; numbers only. -/
namespace Jo
open PySem L2 Sho NdefX Shg Sh1 Sh4 Go
theorem badC_none : ∀ {cs : List (Str × Int)} {seen : List Str} {i : Nat}, (seen ++ cs.map fun c => c.1).Nodup → (∀ c ∈ cs, okName c.1 = true ∧ 0 ≤ c.2 ∧ c.2 ≤ 999999999) → badC seen i cs = none
  | [], _, _, _, _ => rfl
  | c :: cs, seen, i, nd, h => by
    obtain ⟨h1, h2, h3⟩ := h c List.mem_cons_self
    have nin : c.1 ∉ seen := fun z => (List.nodup_append.mp nd).2.2 _ z _ List.mem_cons_self rfl
    have ih := badC_none (cs := cs) (seen := seen ++ [c.1]) (i := i + 1) (by rw [List.append_assoc]; exact nd) fun x hx => h x (List.mem_cons_of_mem _ hx)
    unfold badC
    rw [if_neg]
    · exact ih
    · rw [h1, decide_eq_false nin]
      simp
      omega
theorem badG_none {cs : List (Str × Int)} : ∀ {gs : List Int} {e : Int} {i : Nat}, gs.Pairwise (fun a b => a < b) → (∀ g ∈ gs, e ≤ g ∧ g ≤ 1000000000) → (∀ j g, gs[j]? = some g → i + j < (cs.filter fun c => decide (c.2 < g)).length) → cs.length ≤ i + gs.length → badG cs e i gs = none
  | [], e, i, _, _, _, h => by
    unfold badG
    rw [if_neg (by rw [List.length_nil] at h; omega)]
  | g :: gs, e, i, rise, h1, h2, h3 => by
    rw [List.pairwise_cons] at rise
    have ih := badG_none (cs := cs) (gs := gs) (e := g + 1) (i := i + 1) rise.2 (fun x hx => ⟨by have := rise.1 x hx; omega, (h1 x (List.mem_cons_of_mem _ hx)).2⟩) (fun j x hx => by have := h2 (j + 1) x hx; omega) (by rw [List.length_cons] at h3; omega)
    have a := h1 g List.mem_cons_self
    have b := h2 0 g rfl
    unfold badG
    rw [if_neg]
    · exact ih
    · rw [decide_eq_true a.1, decide_eq_true a.2]
      simp
      omega
/-- from rows that go in different ticks: the plan -/
theorem plan_of {xs : List Stay} (nms : (xs.map fun x => x.1).Nodup) (gos : (xs.map fun x => x.2.2).Nodup) (tm : ∀ x ∈ xs, 0 ≤ x.2.1 ∧ x.2.1 < x.2.2) (len : xs.length ≤ 10) {gs : List Int} (pm : gs.Perm (xs.map fun x => x.2.2)) (srt : gs.Pairwise (fun a b => a ≤ b)) :
    ∃ ord : List Rw, Plan (xs.map rw3) gs ord := by
  have eg : (xs.map rw3).map Rw.go = xs.map fun x => x.2.2 := by
    rw [List.map_map]
    rfl
  have en : (xs.map rw3).map Rw.nm = xs.map fun x => x.1 := by
    rw [List.map_map]
    rfl
  have ndg : gs.Nodup := pm.nodup_iff.mpr gos
  have find : ∀ g ∈ gs, ∃ r ∈ xs.map rw3, r.go = g := fun g hg => by
    have := pm.mem_iff.mp hg
    rw [← eg] at this
    exact List.mem_map.mp this
  have mk : ∀ l : List Int, (∀ g ∈ l, g ∈ gs) → ∃ ord : List Rw, ord.map Rw.go = l ∧ ∀ x ∈ ord, x ∈ xs.map rw3 := by
    intro l
    induction l with
    | nil => exact fun _ => ⟨[], rfl, fun _ h => nomatch h⟩
    | cons g l ih =>
      intro h
      obtain ⟨ord, h1, h2⟩ := ih fun x hx => h x (List.mem_cons_of_mem _ hx)
      obtain ⟨r, h3, h4⟩ := find g (h g List.mem_cons_self)
      exact ⟨r :: ord, by rw [List.map_cons, h1, h4], fun x hx => (List.mem_cons.mp hx).elim (fun e => by rw [e]; exact h3) (h2 x)⟩
  obtain ⟨ord, o1, o2⟩ := mk gs fun _ h => h
  refine ⟨ord, ?_, by rw [eg]; exact gos, by rw [en]; exact nms, ?_, ?_, o1, o2, by rw [List.length_map]; exact len⟩
  · intro r hr
    obtain ⟨x, hx, rfl⟩ := List.mem_map.mp hr
    exact tm x hx
  · have both := srt.and ndg
    exact both.imp fun h => by
      have h1 := h.1
      have h2 := h.2
      omega
  · intro r hr
    refine pm.mem_iff.mpr ?_
    rw [← eg]
    exact List.mem_map.mpr ⟨r, hr, rfl⟩
/-- who goes as the k-th, found by their tick -/
theorem guest_at {xs : List Stay} {gs : List Int} {ord : List Rw} (P : Plan (xs.map rw3) gs ord) {k : Nat} {g : Int} (hg : gs[k]? = some g) : ∃ x ∈ xs, ord[k]? = some (rw3 x) ∧ (xs.filter fun y => decide (y.2.2 = g)) = [x] := by
  have lo : ord.length = gs.length := by rw [← P.og, List.length_map]
  have hk := (List.getElem?_eq_some_iff.mp hg).1
  have hko : ord[k]? = some (ord[k]'(by omega)) := List.getElem?_eq_getElem _
  have hgo : (ord[k]'(by omega)).go = g := by
    have : (ord.map Rw.go)[k]? = some g := by rw [P.og]; exact hg
    rw [List.getElem?_map, hko] at this
    exact Option.some.inj this
  obtain ⟨x, hx, e⟩ := List.mem_map.mp (P.om _ (List.getElem_mem (show k < ord.length by omega)))
  refine ⟨x, hx, by rw [hko, e], ?_⟩
  have hxg : x.2.2 = g := by
    rw [← e] at hgo
    exact hgo
  have nd : (xs.map fun y => y.2.2).Nodup := by
    have := P.gos
    rw [List.map_map] at this
    exact this
  have gen : ∀ {l : List Stay}, (l.map fun y => y.2.2).Nodup → x ∈ l → (l.filter fun y => decide (y.2.2 = g)) = [x] := by
    intro l
    induction l with
    | nil => intro _ h; cases h
    | cons y l ih =>
      intro nd hm
      rw [List.map_cons, List.nodup_cons] at nd
      have none : ∀ {m : List Stay}, (∀ z ∈ m, z.2.2 ≠ g) → (m.filter fun y => decide (y.2.2 = g)) = [] := fun h => List.filter_eq_nil_iff.mpr fun z hz q => h z hz (of_decide_eq_true q)
      rcases List.mem_cons.mp hm with rfl | hm
      · rw [List.filter_cons_of_pos (p := fun y : Stay => decide (y.2.2 = g)) (decide_eq_true hxg), none]
        intro z hz e
        exact nd.1 (List.mem_map.mpr ⟨z, hz, by rw [e, hxg]⟩)
      · rw [List.filter_cons_of_neg, ih nd.2 hm]
        intro q
        have q := of_decide_eq_true q
        exact nd.1 (List.mem_map.mpr ⟨x, hm, by rw [hxg, q]⟩)
  exact gen nd hx
end Jo
set_option Elab.async false
set_option linter.all false
set_option maxRecDepth 100000
set_option maxHeartbeats 8000000
set_option autoImplicit false
/-! _ways_to_go, whatever was seen. -/
namespace Jo
open PySem L2 Sho NdefX Shg Sh1 Go
def recV : Rec → List V
  | (i, .guest z) => [.str "guest", .int i, .str z]
  | (i, .lift n) => [.str "lift", .int i, .int n]
def RecAt (H : Hp) (v : V) (r : Rec) : Prop := ∃ t, v = .ref t ∧ H t = some (.tup (recV r))
theorem rel_app {H : Hp} {cc : List Str} {kvs : List (List L2.Key × V)} {D : List Ent} {e : Ent} {v : V} (h : RelD H kvs (D.map fun e => (e.1 ++ cc, e.2))) (nd : NdE (D ++ [e])) (he : EntV H (keyN (e.1 ++ cc), v) (e.1 ++ cc, e.2)) :
    RelD H (putK kvs (keyN (e.1 ++ cc)) v) ((D ++ [e]).map fun e => (e.1 ++ cc, e.2)) := by
  have no : ((D.map fun e => (e.1 ++ cc, e.2)).any fun x : Ent => decide (x.1 = e.1 ++ cc)) = false := by
    rw [Bool.eq_false_iff]
    intro k
    obtain ⟨x, hx, k⟩ := List.any_eq_true.mp k
    obtain ⟨y, hy, rfl⟩ := List.mem_map.mp hx
    have k := List.append_cancel_right (of_decide_eq_true k)
    unfold NdE at nd
    rw [List.map_append, List.nodup_append] at nd
    exact nd.2.2 _ (List.mem_map.mpr ⟨y, hy, rfl⟩) _ (List.mem_map.mpr ⟨e, List.mem_singleton.mpr rfl, rfl⟩) k
  unfold putK
  rcases rel_val (e.1 ++ cc) h with ⟨_, _, _, q⟩ | ⟨_, q, _⟩
  · rw [if_neg (by rw [q]; decide), List.map_append]
    exact pair_app h (.cons he .nil)
  · rw [no] at q
    cases q
theorem nd_take {D : List Ent} (nd : NdE D) (i : Nat) : NdE (D.take i) := by
  unfold NdE at *
  rw [List.map_take]
  exact nd.sublist (List.take_sublist ..)
section
variable {P : Program} {w : World} {K : PySem.W.Frag} {mg : Str → Option Value} {base : Heap}
def spWaysJ (T : List (Addr × Str)) : Sp := fun vs H Q _ => ∃ (Cm Gm Rc : Addr) (ws : List V) (cs : List (Str × Int)) (gs : List Int) (rv : List V) (rs : List Rec), vs = [.ref Cm, .ref Gm, .ref Rc] ∧ H Cm = some (.tup ws) ∧ PySem.Paired (fun v (c : Str × Int) => ∃ t, v = .ref t ∧ H t = some (.tup [.str c.1, .int c.2])) ws cs ∧ H Gm = some (.tup (gs.map V.int)) ∧ H Rc = some (.lst rv) ∧ PySem.Paired (RecAt H) rv rs ∧ rs.length ≤ 1000 ∧ Valid9 cs gs ∧ LamX.Tabs T H ∧
  ∀ (p wv : Addr) (way : List Str) H', Grows T H H' → H' p = some (.tup [.int (ways cs gs rs : Nat), .ref wv]) → H' wv = some (.tup (way.map V.str)) → (ways cs gs rs = 0 ∨ ∃ b, Lead (steps cs gs rs) [] way b) → Q (.ref p) H'
theorem ok_waysJ {f fT fA : Addr} {fd fdT fdA : FuncData} {T : List (Addr × Str)} (F : Fun K "_ways_to_go" "_ways_to_go" sWaysToGo f fd) (B : Shg.Blt mg)
    (GT : FnOk P w K mg base CX0 5 fT fdT ["stays"] (spBottom K T)) (mT : mg "bottom_up" = some (.ref fT)) (kT : PySem.W.keepIn K (.ref fT) = true) (bT : Binds K fdT ["stays"] [])
    (GA : FnOk P w K mg base CX0 1 fA fdA ["piles", "seen"] spAfterJ) (mA : mg "_after_going" = some (.ref fA)) (kA : PySem.W.keepIn K (.ref fA) = true) (bA : Binds K fdA ["piles", "seen"] []) :
    FnOk P w K mg base CX0 6 f fd ["comings", "goings", "records"] (spWaysJ T) := by
  refine F.ok scWays (fun vs H Q E h => ?_) (fun cdv A outer s H vs Q E hr h => ?_)
  · obtain ⟨Cm, Gm, Rc, ws, cs, gs, rv, rs, rfl, _⟩ := h
    rfl
  obtain ⟨Cm, Gm, Rc, ws, cs, gs, rv, rs, rfl, hC, pC, hG, hR, pR, lrs, va, hT, kk⟩ := h
  have nd := scWays.nd
  refine ⟨_, (pss_cons (ps_set (i := 3) nd rfl (Or.inl rfl) (pe_disp1T (Nat.lt_of_le_of_lt (Nat.le_add_right _ _) hr.units) (pe_tup pa_nil) (pe_tup (pa_cons pe_int (pa_cons (pe_tup pa_nil) pa_nil)))))
      (pss_cons (ps_set (i := 4) nd rfl (Or.inr rfl) pe_int)
      (pss_cons (ps_for PassesOwn.never rfl (pi_enumT (by rfl) B.enum (pa_cons (pv 1) pa_nil)) (pg_tup rfl (pgs_cons (pg_name (i := 5) nd rfl (Or.inr rfl)) (pgs_cons (pg_name (i := 6) nd rfl (Or.inr rfl)) pgs_nil))) (pss_cons (ps_set (i := 7) nd rfl (Or.inr rfl) (pe_callTy call_tuple_of (by rfl) B.tuple (by decide +kernel) (pa_cons (pe_lc (own := [("name", 9), ("come", 10)]) (g := gTup K 2 (gCons (gName 9) (gCons (gName 10) gNil))) (tt := tTest (tChain (rI0 fun i j => .bl (decide (i ≤ j))) (rI0 fun i j => .bl (decide (i < j))) (tVar 4) (tVar 10) (tVar 6))) (te := tVar 9) rfl nd (pi_list (pe_call GT (hr.mono (by decide)) rfl mT kT bT .nil pass0 (pa_cons (pv 0) pa_nil))) (blkOk_by (own := [("name", 9), ("come", 10)]) (N := NWG) (sc := defScope sWaysToGo) (by decide +kernel))
        (fun _ _ _ _ _ => (pg_tup rfl (pgs_cons (pg_name (i := 9) nd rfl (Or.inl rfl)) (pgs_cons (pg_name (i := 10) nd rfl (Or.inl rfl)) pgs_nil)))) (fun _ _ _ _ _ => pts_one (pt_chain op_le op_lt (pv 4) (pv 10) (pv 6))) (fun _ _ _ _ _ => (pv 9))) pa_nil)))
      (pss_cons (ps_lock (ps_setDcT (i := 3) (own := [("pile", 11), ("told", 12)]) (g := gTup K 2 (gCons (gName 11) (gCons (gName 12) gNil))) (tt := tYes) (tk := tOp (rCatA K) (tVar 11) (tVar 7)) (tv := tVar 12) (Nat.lt_of_le_of_lt (Nat.le_add_right _ _) hr.units) rfl nd rfl rfl (swD_true rfl rfl rfl (by decide +kernel)) (pi_itemsT (pv 3)) (blkOk_by (own := [("pile", 11), ("told", 12)]) (N := NWG) (sc := defScope sWaysToGo) (by decide +kernel))
        (fun _ _ _ _ _ => (pg_tup rfl (pgs_cons (pg_name (i := 11) nd rfl (Or.inl rfl)) (pgs_cons (pg_name (i := 12) nd rfl (Or.inl rfl)) pgs_nil)))) (fun _ _ _ _ _ => pts_nil) (fun _ _ _ _ _ => (pe_op op_catA (pv 11) (pv 7))) (fun _ _ _ _ _ => (pv 12))))
      (pss_cons (ps_setDcT (i := 8) (own := [("kind", 13), ("at", 14), ("fact", 15)]) (g := gTup K 3 (gCons (gName 13) (gCons (gName 14) (gCons (gName 15) gNil)))) (tt := tTest (tOp rEq (tVar 14) (tVar 5))) (tk := tTup (tCons (tVar 13) (tCons (tVar 15) tNil))) (tv := tC (.bl true)) (Nat.lt_of_le_of_lt (Nat.le_add_right _ _) hr.units) rfl nd rfl rfl (swD_true rfl rfl rfl (by decide +kernel)) (pi_list (pv 2)) (blkOk_by (own := [("kind", 13), ("at", 14), ("fact", 15)]) (N := NWG) (sc := defScope sWaysToGo) (by decide +kernel))
        (fun _ _ _ _ _ => (pg_tup rfl (pgs_cons (pg_name (i := 13) nd rfl (Or.inl rfl)) (pgs_cons (pg_name (i := 14) nd rfl (Or.inl rfl)) (pgs_cons (pg_name (i := 15) nd rfl (Or.inl rfl)) pgs_nil))))) (fun _ _ _ _ _ => pts_one (pt_cmpR op_eq (pv 14) (pv 5) (nomark _))) (fun _ _ _ _ _ => (pe_tup (pa_cons (pv 13) (pa_cons (pv 15) pa_nil)))) (fun _ _ _ _ _ => pe_bl))
      (pss_cons (ps_set (i := 3) nd rfl (Or.inl rfl) (pe_call GA (hr.mono (by decide)) rfl mA kA bA .nil pass0 (pa_cons (pv 3) (pa_cons (pv 8) pa_nil))))
      (pss_one (ps_set (i := 4) nd rfl (Or.inr rfl) (pv 6))))))))
      (pss_one (ps_ret (pe_dget2 (hu_of hr) (pv 3) (pe_tup pa_nil) (pe_tup (pa_cons pe_int (pa_cons (pe_tup pa_nil) pa_nil))) ⟨rfl, rfl, rfl, rfl⟩)))))), ?_⟩
  have lC := Shg.pair_len pC
  -- the first dict
  refine fun Dp hDp => ⟨Nat.zero_le _, fun k0 hk0 => ⟨Nat.zero_le _, fun w0 hw0 => ⟨by show 2 ≤ sizeLine; decide, fun t0 ht0 => ?_⟩⟩⟩
  have a0 := Shg.same_upd (o := .tup []) hk0
  have a1 := Shg.same_upd (o := .tup []) hw0
  have a2 := Shg.same_upd (o := .tup [.int 1, .ref w0]) ht0
  have eD := (a0.trans (a1.trans a2)) _ _ (upd_same (H := H) (a := Dp) (o := .dT []))
  have ek := (a1.trans a2) _ _ (upd_same (H := upd H Dp (.dT [])) (a := k0) (o := .tup []))
  have ew := a2 _ _ (upd_same (H := upd (upd H Dp (.dT [])) k0 (.tup [])) (a := w0) (o := .tup []))
  have et := upd_same (H := upd (upd (upd H Dp (.dT [])) k0 (.tup [])) w0 (.tup [])) (a := t0) (o := .tup [.int 1, .ref w0])
  have sH : ∀ b o, b ≠ Dp → H b = some o → (upd (upd (upd (upd H Dp (.dT [])) k0 (.tup [])) w0 (.tup [])) t0 (.tup [.int 1, .ref w0])) b = some o := fun b o n e => (a0.trans (a1.trans a2)) _ _ (by rw [upd_ne n]; exact e)
  generalize upd (upd (upd (upd H Dp (.dT [])) k0 (.tup [])) w0 (.tup [])) t0 (.tup [.int 1, .ref w0]) = Hc at *
  refine ⟨[], k0, rfl, ek, eD, name_of ?_⟩
  have s1 : Same H (upd Hc Dp (.dT [([], .ref t0)])) := fun b o e => by rw [upd_ne (ne_of_none e hDp)]; exact sH b o (ne_of_none e hDp) e
  have W1 : RelD (upd Hc Dp (.dT [([], .ref t0)])) [([], .ref t0)] D0 := by
    have tp : ∀ b vs, Hc b = some (.tup vs) → (upd Hc Dp (.dT [([], .ref t0)])) b = some (.tup vs) := fun b vs e => by rw [upd_ne fun z => by rw [z, eD] at e; cases e]; exact e
    exact .cons ⟨rfl, t0, w0, rfl, tp _ _ et, tp _ _ ew⟩ .nil
  have eD1 : (upd Hc Dp (.dT [([], .ref t0)])) Dp = some (.dT [([], .ref t0)]) := upd_same
  generalize upd Hc Dp (.dT [([], .ref t0)]) = H1 at *
  refine name_of ?_
  refine ⟨_, rfl, Gm, _, rfl, SqT.of (s1 _ _ hG), for_it walk_enumT (fun i σ H2 => ∃ (D : Addr) (o5 o6 o7 o8 o9 o10 o11 o12 o13 o14 o15 : Option V) (kvs : List (List L2.Key × V)), σ = [some (.ref Cm), some (.ref Gm), some (.ref Rc), some (.ref D), some (.int (prev gs i)), o5, o6, o7, o8, o9, o10, o11, o12, o13, o14, o15] ∧ Grows T H H2 ∧ H2 D = some (.dT kvs) ∧ RelD H2 kvs (runE ((steps cs gs rs).take i) D0))
    ⟨Dp, none, none, none, none, none, none, none, none, none, none, none, _, rfl, ⟨LamX.ExtN.of s1, fun t => LamX.Tabs.ext t s1⟩, eD1, W1⟩ (fun i σ H2 _ p => by obtain ⟨_, _, _, _, _, _, _, _, _, _, _, _, _, _, g, _⟩ := p; exact SqT.of (g.ext _ _ hG fun _ z => nomatch z)) ?_ ?_⟩
  · rintro i y σ H2' H2 hi ⟨D, o5, o6, o7, o8, o9, o10, o11, o12, o13, o14, o15, kvs, rfl, gr, eD2, W2⟩ ⟨T2, y1, y2, rfl, hT2, rfl, e1, e3⟩
    cases e1
    have e3 : (gs.map V.int)[i]? = some y2 := e3
    rw [List.getElem?_map] at e3
    obtain ⟨g, hg, rfl⟩ : ∃ g, gs[i]? = some g ∧ y2 = .int g := by
      cases e : gs[i]? with
      | none => rw [e] at e3; cases e3
      | some z => rw [e] at e3; cases e3; exact ⟨z, rfl, rfl⟩
    have hil : i < gs.length := (List.getElem?_eq_some_iff.mp hg).1
    have eg : gs.getD i 0 = g := by rw [List.getD_eq_getElem?_getD, hg]; rfl
    have okI := ok_run va rs i (Nat.le_of_lt hil)
    have nmI := step_nm va rs hil
    have stI := steps_take (cs := cs) (rs := rs) hil
    rw [prev_succ hg] at nmI
    refine ⟨T2, _, rfl, SqT.of upd_same, rfl, _, _, rfl, _, _, rfl, rfl, ?_⟩
    have s3 := Shg.same_upd (o := .tup [.int (i : Nat), .int g]) hT2
    have gr3 : Grows T H (upd H2' T2 (.tup [.int (i : Nat), .int g])) := gr.trans ⟨LamX.ExtN.of s3, fun t => LamX.Tabs.ext t s3⟩
    have eD3 := s3 _ _ eD2
    have W3 := rel_keep (fun b vs e => s3 _ _ e) W2
    generalize upd H2' T2 (.tup [.int (i : Nat), .int g]) = H3 at *
    have lS : (sortV (cs.map fun c => c.2) ws).length = (sb cs).length := Shg.pair_len (sb_rel pC)
    have lsb : (sb cs).length ≤ 10 := by
      rw [(sb_perm cs).length_eq]
      exact va.few
    have cc0 : (stepAt cs gs rs i).1 = came9 cs (prev gs i) g := by rw [← eg]; rfl
    have ss0 : (stepAt cs gs rs i).2 = seenOf (i : Nat) rs := rfl
    generalize hb : prev gs i = b at *
    -- those who came
    refine asg_rel (fun v H4 => Grows T H3 H4 ∧ ∃ cm, v = .ref cm ∧ H4 cm = some (.tup ((came9 cs b g).map V.str))) (fun R h => ?_) fun v H4 hv => name_at ?_
    · refine ⟨_, rfl, Cm, ws, cs.map (fun c => c.2), rfl, .inr (SqT.of (gr3.ext _ _ hC fun _ z => nomatch z)), by rw [List.length_map, lC], fun i' v' n hv hn => ?_, gr3.tab hT, fun p Hp Gr ep => ?_⟩
      · rw [List.getElem?_map] at hn
        obtain ⟨c, hc, t, rfl, ht⟩ := Shg.pair_get pC hv
        rw [hc] at hn
        cases hn
        exact ⟨t, _, rfl, gr3.ext _ _ ht (fun _ z => nomatch z), rfl⟩
      · have pS := sb_rel pC
        refine ⟨p, rfl, ⟨_, SqL.of ep⟩, fun D3 hD3 => ?_⟩
        refine lc_gather walk_list (fun i => ((sb cs)[i]?).bind fun c => if (decide (b ≤ c.2) && decide (c.2 < g)) = true then some (.str c.1) else none) hD3 (by rw [lS]; exact Nat.le_trans lsb (by decide)) (fun H s => SqL.of (s _ _ ep)) (fun j v H5 H6 hj s5 vv R2 k1 => ?_) fun H5 s5 e5 => ?_
        · obtain ⟨rfl, ev⟩ := vv
          obtain ⟨c, hc, t, rfl, ht⟩ := Shg.pair_get pS ev
          refine ⟨t, _, rfl, SqT.of (s5 _ _ ((gr3.trans Gr).ext _ _ ht fun _ z => nomatch z)), rfl, _, _, rfl, _, _, rfl, rfl, rfl, ?_⟩
          have k3 := k1 _ (Same.refl _)
          rw [hc] at k3
          have k4 : R2 (if (decide (b ≤ c.2) && decide (c.2 < g)) = true then some (V.str c.1) else none) _ := k3
          refine chainI b c.2 g (fun Q q => ⟨_, rfl, q⟩) (fun Q q => ⟨_, rfl, q⟩) (fun Q q => ⟨_, rfl, q⟩) ?_
          refine ite2 (fun q => ?_) (fun q => ?_)
          · rw [if_pos q] at k4
            exact ⟨_, rfl, k4⟩
          · rw [if_neg q] at k4
            exact k4
        · rw [lS, gather_filter (sb cs) (fun c => decide (b ≤ c.2) && decide (c.2 < g)) fun c => V.str c.1] at e5
          refine ⟨D3, _, rfl, .inl ⟨SqL.of e5, fun t ht => h _ _ ⟨Gr.trans ⟨LamX.ExtN.of (s5.trans (Shg.same_upd ht)), fun tb => LamX.Tabs.ext tb (s5.trans (Shg.same_upd ht))⟩, t, rfl, ?_⟩⟩⟩
          rw [upd_same]
          unfold came9
          rw [List.map_map]
          rfl
    obtain ⟨gr34, cm, rfl, ecm⟩ := hv
    have gr4 := gr3.trans gr34
    have tup34 : ∀ b vs, H3 b = some (.tup vs) → H4 b = some (.tup vs) := fun b vs e => gr34.ext _ _ e fun _ z => nomatch z
    have eD4 : H4 D = some (.dT kvs) := gr34.ext _ _ eD3 fun _ z => nomatch z
    have W4 := rel_keep tup34 W3
    clear W3 eD3 gr34 tup34 gr3 W2 eD2
    rw [← cc0] at ecm
    have stepE' : runE ((steps cs gs rs).take (i + 1)) D0 = stepE (stepAt cs gs rs i) (runE ((steps cs gs rs).take i) D0) := by rw [stI, run_snoc]
    generalize hst : stepAt cs gs rs i = st at *
    generalize runE ((steps cs gs rs).take i) D0 = Dm at *
    have lg : (nmB cs g).length ≤ 10 := Nat.le_trans (nmB_le cs g) va.few
    have okI2 : OkD (nmB cs g) i (Dm.map fun e => (e.1 ++ st.1, e.2)) := by
      rw [nmI]
      exact ⟨nd_app okI.nd, fun e he => by obtain ⟨x, hx, rfl⟩ := List.mem_map.mp he; exact List.Sublist.append (okI.sub x hx) (List.Sublist.refl _), fun e he => by obtain ⟨x, hx, rfl⟩ := List.mem_map.mp he; exact okI.len x hx⟩
    have lcc : st.1.length ≤ 10 := by
      have := congrArg List.length nmI
      rw [List.length_append] at this
      omega
    have lW := Shg.pair_len W4
    -- the piles with them
    refine ⟨D, .dT kvs, eD4, trivial, fun od => ⟨_, rfl, D, od, kvs, rfl, upd_same, fun D5 hD5 => ?_⟩⟩
    have nD5 : D5 ≠ D := fun z => by rw [z, upd_same] at hD5; cases hD5
    have hD54 : H4 D5 = none := by rw [upd_ne nD5] at hD5; exact hD5
    refine dcT_it walk_itemsT (fun j H6 => H6 D = some (.frz od (.dT kvs)) ∧ (∀ b o, b ≠ D → H4 b = some o → H6 b = some o) ∧ ∃ kvs6, H6 D5 = some (.dT kvs6) ∧ RelD H6 kvs6 ((Dm.take j).map fun e => (e.1 ++ st.1, e.2)))
      ⟨by rw [upd_ne (Ne.symm nD5)]; exact upd_same, fun b o n e => by rw [upd_ne (ne_of_none e hD54), upd_ne n]; exact e, [], upd_same, .nil⟩ (fun j H6 _ q => q.1) (fun j y H6 H6' hj q yy => ?_) fun H6 q => ?_
    · obtain ⟨eD6, keep6, kvs6, e6, rel6⟩ := q
      obtain ⟨T7, q7, kq, v, hkv, rfl, hT7, hq7, rfl⟩ := yy
      obtain ⟨⟨ns, c, wsn⟩, hent, ekk, t, wv, ev, ht, hwv⟩ := Shg.pair_get W4 hkv
      have ekk : kq = keyN ns := ekk
      have ev : v = .ref t := ev
      subst ekk ev
      rw [key_strs] at hq7
      have tD : ∀ b vs, H4 b = some (.tup vs) → H6 b = some (.tup vs) := fun b vs e => keep6 b _ (fun z => by rw [z, eD4] at e; cases e) e
      have s7 := Shg.same_upd (o := .tup [.ref q7, .ref t]) hT7
      have eT7 : (upd H6 T7 (.tup [.ref q7, .ref t])) T7 = some (.tup [.ref q7, .ref t]) := upd_same
      generalize upd H6 T7 (.tup [.ref q7, .ref t]) = H7 at *
      have lns : ns.length ≤ 10 := Nat.le_trans (okI.sub _ (List.mem_of_getElem? hent)).length_le (Nat.le_trans (nmB_le cs b) va.few)
      have few6 : kvs6.length ≤ 1024 := rel_few (M := i) rel6 ⟨nd_app (nd_take okI.nd j), fun e he => okI2.sub e (by rw [List.map_take] at he; exact List.mem_of_mem_take he), fun e he => okI2.len e (by rw [List.map_take] at he; exact List.mem_of_mem_take he)⟩ lg
      refine ⟨T7, _, rfl, SqT.of eT7, rfl, _, _, rfl, _, _, rfl, rfl, rfl, ?_⟩
      refine ⟨_, rfl, _, rfl, cat_tups (s7 _ _ hq7) (s7 _ _ (tD _ _ ecm)) (by rw [List.length_map, List.length_map]; exact Nat.le_trans (by omega : ns.length + st.1.length ≤ 20) (by decide)) fun p8 H8 s8 e8 => ⟨_, rfl, kvs6, keyN (ns ++ st.1), p8, rfl, by rw [e8, key_strs, List.map_append], s8 _ _ (s7 _ _ e6), Nat.lt_of_le_of_lt few6 (by decide), ?_⟩⟩
      have s68 := s7.trans s8
      have e68 := s68 _ _ e6
      have kt : ∀ b vs, H8 b = some (.tup vs) → (upd H8 D5 (.dT (putK kvs6 (keyN (ns ++ st.1)) (.ref t)))) b = some (.tup vs) := fun b vs e => by rw [upd_ne fun z => by rw [z, e68] at e; cases e]; exact e
      refine ⟨by rw [upd_ne (Ne.symm nD5)]; exact s68 _ _ eD6, fun b o n e => by rw [upd_ne fun z => by rw [z, hD54] at e; cases e]; exact s68 _ _ (keep6 b o n e), _, upd_same, ?_⟩
      have tk : Dm.take (j + 1) = Dm.take j ++ [(ns, c, wsn)] := by rw [List.take_succ, hent]; rfl
      have ndj := nd_take okI.nd (j + 1)
      rw [tk] at ndj ⊢
      exact rel_keep kt (rel_app (rel_keep (fun b vs e => s68 _ _ e) rel6) ndj ⟨rfl, t, wv, rfl, s68 _ _ (tD _ _ ht), s68 _ _ (tD _ _ hwv)⟩)
    · obtain ⟨eD6, keep6, kvs6, e6, rel6⟩ := q
      rw [lW, List.take_length] at rel6
      refine name_at ⟨eD6, ?_⟩
      have s47 : Same H4 (upd H6 D (.dT kvs)) := fun b o e => by
        by_cases z : b = D
        · rw [z, eD4] at e
          cases e
          rw [z]
          exact upd_same
        · rw [upd_ne z]
          exact keep6 b o z e
      have e67 : (upd H6 D (.dT kvs)) D5 = some (.dT kvs6) := by rw [upd_ne nD5]; exact e6
      have rel7 := rel_keep (H' := upd H6 D (.dT kvs)) (fun b vs e => by rw [upd_ne fun z => by rw [z, eD6] at e; cases e]; exact e) rel6
      generalize upd H6 D (.dT kvs) = H7 at *
      have hR7 := s47 _ _ (gr4.ext _ _ hR fun _ z => nomatch z)
      have pR7 : PySem.Paired (RecAt H7) rv rs := pair_mono (fun _ _ k => k.elim fun t k => ⟨t, k.1, s47 _ _ (gr4.ext _ _ k.2 fun _ z => nomatch z)⟩) pR
      have lR := Shg.pair_len pR
      -- what was seen
      refine ⟨_, rfl, Rc, rfl, ⟨_, SqL.of hR7⟩, fun D8 hD8 => ?_⟩
      have n0 : ∀ {Hx : Hp} {o : HO}, Same H7 Hx → Same H7 (upd Hx D8 o) := fun s b u e => by rw [upd_ne (ne_of_none e hD8)]; exact s b u e
      refine dcT_it (walk_list (K := K) (a := Rc) (xs := rv)) (fun j Hx => Same H7 Hx ∧ Hx D8 = some (.dT (kvsF (seenOf (i : Nat) (rs.take j))))) ⟨n0 (Same.refl _), upd_same⟩ (fun j Hx _ q => SqL.of (q.1 _ _ hR7)) (fun j x Hy Hx hj q yy => ?_) fun H9 q9 => name_at ?_
      · obtain ⟨sx, ex⟩ := q
        obtain ⟨rfl, e2⟩ := yy
        obtain ⟨⟨at_, fc⟩, hr2, t, rfl, ht⟩ := Shg.pair_get pR7 e2
        have htx := sx _ _ ht
        have tk : rs.take (j + 1) = rs.take j ++ [(at_, fc)] := by rw [List.take_succ, hr2]; rfl
        have lsz : (kvsF (seenOf (i : Nat) (rs.take j))).length < sizeLine := by
          unfold kvsF
          rw [List.length_map]
          have := seen_len (i : Nat) (rs.take j)
          rw [List.length_take] at this
          have : 2000 < sizeLine := by decide
          omega
        rw [tk, seen_snoc]
        obtain ⟨a, b9, e1, e3⟩ : ∃ a b : V, recV (at_, fc) = [a, .int at_, b] ∧ [a, b] = (fk fc).map kV := by
          cases fc with
          | guest z => exact ⟨_, _, rfl, rfl⟩
          | lift n => exact ⟨_, _, rfl, rfl⟩
        rw [e1] at htx
        refine ⟨t, _, rfl, SqT.of htx, rfl, _, _, rfl, _, _, rfl, _, _, rfl, rfl, rfl, ?_⟩
        refine ⟨_, rfl, _, rfl, rfl, _, rfl, ?_⟩
        have ed : decide (V.int at_ = V.int ((i : Nat) : Int)) = decide (at_ = ((i : Nat) : Int)) := decide_eq_decide.mpr ⟨fun e => by injection e, fun e => by rw [e]⟩
        rw [ed]
        by_cases c : at_ = ((i : Nat) : Int)
        · rw [decide_eq_true c, if_pos c]
          refine iteT ⟨_, rfl, _, rfl, by show 2 ≤ sizeLine; decide, fun q hq => ?_⟩
          have sq := Shg.same_upd (o := .tup [a, b9]) hq
          refine ⟨_, fk fc, q, rfl, by rw [upd_same, e3], sq _ _ ex, lsz, n0 (sx.trans sq), ?_⟩
          rw [upd_same, put_kvsF]
        · rw [decide_eq_false c, if_neg c]
          exact iteF ⟨sx, ex⟩
      obtain ⟨s9, e9⟩ := q9
      rw [lR, List.take_length] at e9
      have nD58 : D5 ≠ D8 := ne_of_none e67 hD8
      have lsn : (seenOf (i : Nat) rs).length ≤ 10000 := Nat.le_trans (seen_len _ _) (by omega)
      have i10 : i ≤ 1000 := by
        have := va.few
        have := va.all
        omega
      refine ⟨_, rfl, _, rfl, nmB cs g, D5, D8, i, kvs6, Dm.map (fun e => (e.1 ++ st.1, e.2)), seenOf (i : Nat) rs, rfl, s9 _ _ e67, e9, nD58, rel_keep (fun b vs e => s9 _ _ e) rel7, okI2, lg, i10, lsn, fun D9 H10 kvs10 hn10 keep10 e10 W10 => name_of ?_⟩
      have s410 : Same H4 H10 := fun b o e => keep10 b o (s9 _ _ (s47 _ _ e))
      refine ⟨_, rfl, ?_⟩
      refine ⟨D9, ?_⟩
      rw [prev_succ hg, stepE']
      unfold stepE
      rw [ss0]
      exact ⟨_, _, _, _, _, _, _, _, _, _, _, kvs10, rfl, gr4.trans ⟨LamX.ExtN.of s410, fun tb => LamX.Tabs.ext tb s410⟩, e10, W10⟩
  · rintro σ H2 ⟨D, o5, o6, o7, o8, o9, o10, o11, o12, o13, o14, o15, kvs, rfl, gr, eD2, W2⟩
    rw [List.length_map, steps_all] at W2
    refine ⟨_, rfl, D, rfl, .inr ⟨kvs, .inl eD2⟩, Nat.zero_le _, fun k9 hk9 => ⟨Nat.zero_le _, fun z0 hz0 => ⟨by show 2 ≤ sizeLine; decide, fun z1 hz1 => ?_⟩⟩⟩
    have b0 := Shg.same_upd (o := .tup []) hk9
    have b1 := Shg.same_upd (o := .tup []) hz0
    have b2 := Shg.same_upd (o := .tup [.int 0, .ref z0]) hz1
    have ek9 := (b1.trans b2) _ _ (upd_same (H := H2) (a := k9) (o := .tup []))
    have ez0 := b2 _ _ (upd_same (H := upd H2 k9 (.tup [])) (a := z0) (o := .tup []))
    have ez1 : upd (upd (upd H2 k9 (.tup [])) z0 (.tup [])) z1 (.tup [.int 0, .ref z0]) z1 = some (.tup [.int 0, .ref z0]) := upd_same
    have s2 := b0.trans (b1.trans b2)
    generalize upd (upd (upd H2 k9 (.tup [])) z0 (.tup [])) z1 (.tup [.int 0, .ref z0]) = H9 at *
    refine ⟨_, DGet.t (k := []) (s2 _ _ eD2) ek9, ?_⟩
    have gr9 : Grows T H H9 := gr.trans ⟨LamX.ExtN.of s2, fun tb => LamX.Tabs.ext tb s2⟩
    rcases rel_val [] W2 with ⟨g1, g2, _, _⟩ | ⟨⟨t2, w2, e2, g1, hm, h1, _, g2, g3⟩, _, _⟩
    · have g1 : valV kvs ([] : List L2.Key) = none := g1
      rw [g1]
      rw [ways_count va] at g2
      refine kk z1 z0 [] H9 gr9 ?_ ez0 (.inl g2)
      rw [g2]
      exact ez1
    · have g1 : valV kvs ([] : List L2.Key) = some (.ref t2) := g1
      rw [g1]
      rw [ways_count va] at g2
      exact kk t2 w2 e2.2.2 H9 gr9 (s2 _ _ g2) (s2 _ _ g3) (.inr ⟨_, ways_lead rs e2 hm⟩)
end
end Jo
set_option Elab.async false
set_option linter.all false
set_option maxRecDepth 100000
/-! One lemma for the loops of all comprehensions. -/
namespace Shg
open PySem L2
theorem loop_any {J : It} {n : Nat} {G : Hp → Prop} {Y : Nat → Hp → V → Hp → Prop} (w : Walk J n G Y) {H0 : Hp} {Qd : Hp → Prop} {B : V → Hp → (Hp → Prop) → Prop} (Pv : Nat → Hp → Prop) (h0 : Pv 0 H0) (hG : ∀ i H, i ≤ n → Pv i H → G H)
    (hs : ∀ i x H H', i < n → Pv i H → Y i H x H' → B x H' (Pv (i + 1))) (hd : ∀ H, Pv n H → Qd H) :
    ∃ W : Nat → Nat → Hp → Prop, (∃ m, W 0 m H0) ∧ ∀ i m H, W i m H →
      (J.stop i H ∧ Qd H) ∨ (J.go i H ∧ ∃ Nx : Hp → Prop, (∀ H', Nx H' → ∃ m', m' < m ∧ W (i + 1) m' H') ∧ ∀ x H', J.yld i H x H' → B x H' Nx) := by
  refine ⟨fun i m H => m = n - i ∧ i ≤ n ∧ Pv i H, ⟨n, (Nat.sub_zero n).symm, Nat.zero_le _, h0⟩, ?_⟩
  rintro i m H ⟨rfl, hi, p⟩
  have q := hG i H hi p
  rcases Nat.lt_or_ge i n with hlt | hge
  · exact .inr ⟨w.goes i H hlt q, Pv (i + 1), fun H' p' => ⟨n - (i + 1), by omega, rfl, hlt, p'⟩, fun x H' y => hs i x H H' hlt p (w.yields i H x H' hlt q y)⟩
  · obtain rfl : i = n := by omega
    exact .inl ⟨w.stops H q, hd H p⟩
end Shg
set_option Elab.async false
set_option linter.all false
set_option maxRecDepth 100000
set_option maxHeartbeats 8000000
set_option autoImplicit false
/-! GoingObserver: the methods, where nothing is refused. -/
namespace Jo
open PySem L2 Sho NdefX Shg Sh1 Go
/-- an observer with its records; its list of records stands at La -/
def ObsJ (C : Addr) (H : Hp) (x La : Addr) (cs : List (Str × Int)) (gs : List Int) (rs : List Rec) : Prop :=
  ∃ dx Cm Gm ws rv, H x = some (.ins C dx (obF Cm Gm La)) ∧ H Cm = some (.tup ws) ∧ PairsAt H ws cs ∧ H Gm = some (.tup (gs.map V.int)) ∧ H La = some (.lst rv) ∧ PySem.Paired (RecAt H) rv rs
theorem ObsJ.ext {C : Addr} {H H' : Hp} {x La : Addr} {cs : List (Str × Int)} {gs : List Int} {rs : List Rec} (h : ObsJ C H x La cs gs rs) (e : LamX.ExtN H H') : ObsJ C H' x La cs gs rs := by
  obtain ⟨dx, Cm, Gm, ws, rv, h1, h2, h3, h4, h5, h6⟩ := h
  have k : ∀ b vs, H b = some (.tup vs) → H' b = some (.tup vs) := fun b vs q => e _ _ q fun _ z => nomatch z
  exact ⟨dx, Cm, Gm, ws, rv, e _ _ h1 (fun _ z => nomatch z), k _ _ h2, pair_mono (fun _ _ ⟨t, a, b⟩ => ⟨t, a, k _ _ b⟩) h3, k _ _ h4, e _ _ h5 (fun _ z => nomatch z), pair_mono (fun _ _ ⟨t, a, b⟩ => ⟨t, a, k _ _ b⟩) h6⟩
theorem ObsJ.same {C : Addr} {H H' : Hp} {x La : Addr} {cs : List (Str × Int)} {gs : List Int} {rs : List Rec} (h : ObsJ C H x La cs gs rs) (s : Same H H') : ObsJ C H' x La cs gs rs := h.ext (LamX.ExtN.of s)
/-- one record more -/
theorem ObsJ.push {C : Addr} {H : Hp} {x La t : Addr} {cs : List (Str × Int)} {gs : List Int} {rs : List Rec} {r : Rec} {rv : List V} (h : ObsJ C H x La cs gs rs) (hl : H La = some (.lst rv)) (ht : H t = some (.tup (recV r))) : ObsJ C (upd H La (.lst (rv ++ [.ref t]))) x La cs gs (rs ++ [r]) := by
  obtain ⟨dx, Cm, Gm, ws, rv', h1, h2, h3, h4, h5, h6⟩ := h
  obtain rfl : rv' = rv := by
    rw [hl] at h5
    injection h5 with h5
    injection h5 with h5
    exact h5.symm
  have k : ∀ b vs, H b = some (.tup vs) → (upd H La (.lst (rv' ++ [.ref t]))) b = some (.tup vs) := fun b vs q => by rw [upd_ne fun z => by rw [z, hl] at q; cases q]; exact q
  exact ⟨dx, Cm, Gm, ws, rv' ++ [.ref t], by rw [upd_ne fun z => by rw [z, hl] at h1; cases h1]; exact h1, k _ _ h2, pair_mono (fun _ _ ⟨t, a, b⟩ => ⟨t, a, k _ _ b⟩) h3, k _ _ h4, upd_same, pair_app (pair_mono (fun _ _ ⟨t, a, b⟩ => ⟨t, a, k _ _ b⟩) h6) (.cons ⟨t, rfl, k _ _ ht⟩ .nil)⟩
/-- another observer's record -/
theorem ObsJ.other {C : Addr} {H : Hp} {x La Lb : Addr} {cs : List (Str × Int)} {gs : List Int} {rs : List Rec} {rv ys : List V} (h : ObsJ C H x La cs gs rs) (n : La ≠ Lb) (hl : H Lb = some (.lst rv)) : ObsJ C (upd H Lb (.lst ys)) x La cs gs rs := by
  obtain ⟨dx, Cm, Gm, ws, rv', h1, h2, h3, h4, h5, h6⟩ := h
  have k : ∀ b vs, H b = some (.tup vs) → (upd H Lb (.lst ys)) b = some (.tup vs) := fun b vs q => by rw [upd_ne fun z => by rw [z, hl] at q; cases q]; exact q
  exact ⟨dx, Cm, Gm, ws, rv', by rw [upd_ne fun z => by rw [z, hl] at h1; cases h1]; exact h1, k _ _ h2, pair_mono (fun _ _ ⟨t, a, b⟩ => ⟨t, a, k _ _ b⟩) h3, k _ _ h4, by rw [upd_ne n]; exact h5, pair_mono (fun _ _ ⟨t, a, b⟩ => ⟨t, a, k _ _ b⟩) h6⟩
theorem same_grows {T : List (Addr × Str)} {H H' : Hp} (s : Same H H') : Grows T H H' := ⟨LamX.ExtN.of s, fun tb => LamX.Tabs.ext tb s⟩
section
variable {P : Program} {w : World} {K : PySem.W.Frag} {mg : Str → Option Value} {base : Heap} {C fI : Addr} {T : List (Addr × Str)}
theorem ok_wayCountJ_sc : FnScope ["self"] ["self"] (defScope sGoingObserver_WayCount) := scWay
def spWayCountJ (C : Addr) (T : List (Addr × Str)) : Sp := fun vs H Q _ => ∃ (x La : Addr) (cs : List (Str × Int)) (gs : List Int) (rs : List Rec), vs = [.ref x] ∧ ObsJ C H x La cs gs rs ∧ rs.length ≤ 1000 ∧ Valid9 cs gs ∧ LamX.Tabs T H ∧ ∀ H', Grows T H H' → Q (.int (ways cs gs rs : Nat)) H'
theorem ok_wayCountJ {f fW : Addr} {fd fdW : FuncData} (F : Fun K "way_count" "GoingObserver.way_count" sGoingObserver_WayCount f fd) (OC : ObsC K mg C fI)
    (GW : FnOk P w K mg base CX0 6 fW fdW ["comings", "goings", "records"] (spWaysJ T)) (mW : mg "_ways_to_go" = some (.ref fW)) (kW : PySem.W.keepIn K (.ref fW) = true) (bW : Binds K fdW ["comings", "goings", "records"] []) :
    FnOk P w K mg base CX0 7 f fd ["self"] (spWayCountJ C T) := by
  refine F.ok scWay (fun vs H Q E h => ?_) (fun cdv A outer s H vs Q E hr h => ?_)
  · obtain ⟨x, La, cs, gs, rs, rfl, _⟩ := h
    rfl
  obtain ⟨x, La, cs, gs, rs, rfl, ⟨dx, Cm, Gm, ws, rv, hx, hC, pC, hG, hA, pR⟩, lrs, va, hT, kk⟩ := h
  refine ⟨_, (pss_one (ps_ret (pe_ix ix_tup (pe_call GW (hr.mono (by decide)) rfl mW kW bW .nil pass0 (pa_cons (pe_fld (pv 0) rfl) (pa_cons (pe_fld (pv 0) rfl) (pa_cons (pe_fld (pv 0) rfl) pa_nil)))) pe_int (fun _ _ => rfl)))), ?_⟩
  refine ⟨_, rfl, x, C, dx, _, _, rfl, hx, OC.cl, OC.n1, lk_c .., _, rfl, x, C, dx, _, _, rfl, hx, OC.cl, OC.n2, lk_g .., _, rfl, x, C, dx, _, _, rfl, hx, OC.cl, OC.n3, lk_a .., Cm, Gm, La, ws, cs, gs, rv, rs, rfl, hC, pC, hG, hA, pR, lrs, va, hT, fun p wv way H' gr e _ _ => ?_⟩
  exact ⟨p, _, 0, .int (ways cs gs rs : Nat), rfl, rfl, SqT.of e, atI_nat (j := 0) rfl, kk H' gr⟩
def spRecJ (C : Addr) : Sp := fun vs H Q _ => ∃ (x La : Addr) (cs : List (Str × Int)) (gs : List Int) (rs : List Rec), vs = [.ref x] ∧ ObsJ C H x La cs gs rs ∧ ∀ l rv, H La = some (.lst rv) → H l = none → Q (.ref l) (upd H l (.lst rv))
theorem ok_recordsJ {f : Addr} {fd : FuncData} (F : Fun K "records" "GoingObserver.records" sGoingObserver_Records f fd) (B : Shg.Blt mg) (OC : ObsC K mg C fI) : FnOk P w K mg base CX0 1 f fd ["self"] (spRecJ C) := by
  refine F.ok scRec (fun vs H Q E h => ?_) (fun cdv A outer s H vs Q E hr h => ?_)
  · obtain ⟨x, La, cs, gs, rs, rfl, _⟩ := h
    rfl
  obtain ⟨x, La, cs, gs, rs, rfl, ⟨dx, Cm, Gm, ws, rv, hx, hC, pC, hG, hA, pR⟩, kk⟩ := h
  refine ⟨_, (pss_one (ps_ret (pe_callTy call_list_of (by rfl) B.list (by decide +kernel) (pa_cons (pe_fld (pv 0) rfl) pa_nil)))), ?_⟩
  exact ⟨_, rfl, x, C, dx, _, _, rfl, hx, OC.cl, OC.n3, lk_a .., La, rv, rfl, .inl (SqL.of hA), fun l hl => kk l rv hA hl⟩
/-- with one record more -/
def spWith (C : Addr) (T : List (Addr × Str)) : Sp := fun vs H Q _ => ∃ (x La t : Addr) (cs : List (Str × Int)) (gs : List Int) (rs : List Rec) (r : Rec), vs = [.ref x, .ref t] ∧ ObsJ C H x La cs gs rs ∧ H t = some (.tup (recV r)) ∧ rs.length < 1000 ∧ Valid9 cs gs ∧ LamX.Tabs T H ∧ ∀ H', Grows T H H' → Q (.int (ways cs gs (rs ++ [r]) : Nat)) H'
theorem scWith : FnScope ["self", "record"] ["self", "record"] (defScope sGoingObserver_WaysWith) := ⟨rfl, rfl, rfl, by decide +kernel, rfl, by decide +kernel, by decide +kernel⟩
theorem ok_with {f fW : Addr} {fd fdW : FuncData} (F : Fun K "_ways_with" "GoingObserver._ways_with" sGoingObserver_WaysWith f fd) (OC : ObsC K mg C fI)
    (GW : FnOk P w K mg base CX0 6 fW fdW ["comings", "goings", "records"] (spWaysJ T)) (mW : mg "_ways_to_go" = some (.ref fW)) (kW : PySem.W.keepIn K (.ref fW) = true) (bW : Binds K fdW ["comings", "goings", "records"] []) :
    FnOk P w K mg base CX0 7 f fd ["self", "record"] (spWith C T) := by
  refine F.ok scWith (fun vs H Q E h => ?_) (fun cdv A outer s H vs Q E hr h => ?_)
  · obtain ⟨x, La, t, cs, gs, rs, r, rfl, _⟩ := h
    rfl
  obtain ⟨x, La, t, cs, gs, rs, r, rfl, ⟨dx, Cm, Gm, ws, rv, hx, hC, pC, hG, hA, pR⟩, ht, lrs, va, hT, kk⟩ := h
  refine ⟨_, (pss_one (ps_ret (pe_ix ix_tup (pe_call GW (hr.mono (by decide)) rfl mW kW bW .nil pass0 (pa_cons (pe_fld (pv 0) rfl) (pa_cons (pe_fld (pv 0) rfl) (pa_cons (pe_lst (StX.pa_star (pe_fld (pv 0) rfl) (pa_cons (pv 1) pa_nil))) pa_nil)))) pe_int (fun _ _ => rfl)))), ?_⟩
  have lR := Shg.pair_len pR
  refine ⟨_, rfl, x, C, dx, _, _, rfl, hx, OC.cl, OC.n1, lk_c .., _, rfl, x, C, dx, _, _, rfl, hx, OC.cl, OC.n2, lk_g .., _, rfl, x, C, dx, _, _, rfl, hx, OC.cl, OC.n3, lk_a .., La, rv, rfl, .inr (SqL.of hA), _, rfl, ?_, fun l hl => ?_⟩
  · rw [List.length_append]
    exact Nat.le_trans (by show rv.length + 1 ≤ 1000; omega) (by decide)
  have s1 := Shg.same_upd (o := .lst (rv ++ [.ref t])) hl
  refine ⟨Cm, Gm, l, ws, cs, gs, rv ++ [.ref t], rs ++ [r], rfl, s1 _ _ hC, pair_mono (fun _ _ ⟨t, a, b⟩ => ⟨t, a, s1 _ _ b⟩) pC, s1 _ _ hG, upd_same, pair_app (pair_mono (fun _ _ ⟨t, a, b⟩ => ⟨t, a, s1 _ _ b⟩) pR) (.cons ⟨t, rfl, s1 _ _ ht⟩ .nil), by rw [List.length_append]; exact lrs, va, LamX.Tabs.ext hT s1, fun p wv way H' gr e _ _ => ?_⟩
  exact ⟨p, _, 0, .int (ways cs gs (rs ++ [r]) : Nat), rfl, rfl, SqT.of e, atI_nat (j := 0) rfl, kk H' ((same_grows s1).trans gr)⟩
/-- accepted -/
def Accepts (C : Addr) (T : List (Addr × Str)) (H : Hp) (x La : Addr) (cs : List (Str × Int)) (gs : List Int) (rs : List Rec) (r : Rec) (Q : VK) : Prop :=
  ObsJ C H x La cs gs rs ∧ rs.length < 1000 ∧ Valid9 cs gs ∧ LamX.Tabs T H ∧ 0 < ways cs gs (rs ++ [r]) ∧
  ∀ (H1 : Hp) (t : Addr) (rv : List V), Grows T H H1 → H1 La = some (.lst rv) → H1 t = some (.tup (recV r)) → Q (.int (ways cs gs (rs ++ [r]) : Nat)) (upd H1 La (.lst (rv ++ [.ref t])))
def spAccept (C : Addr) (T : List (Addr × Str)) : Sp := fun vs H Q _ => ∃ (x La t : Addr) (cs : List (Str × Int)) (gs : List Int) (rs : List Rec) (r : Rec), vs = [.ref x, .ref t] ∧ H t = some (.tup (recV r)) ∧ Accepts C T H x La cs gs rs r Q
theorem scAccept : FnScope ["self", "record", "ways"] ["self", "record"] (defScope sGoingObserver_Accept) := ⟨rfl, rfl, rfl, by decide +kernel, rfl, by decide +kernel, by decide +kernel⟩
theorem no_f {m : Str} (a b c : V) (h1 : (m == ("_comings" : Str)) = false) (h2 : (m == ("_goings" : Str)) = false) (h3 : (m == ("_accepted" : Str)) = false) : List.lookup m [(("_comings" : Str), a), ("_goings", b), ("_accepted", c)] = none := by simp [List.lookup, h1, h2, h3]
theorem ok_accept {f fW : Addr} {fd fdW : FuncData} (F : Fun K "_accept" "GoingObserver._accept" sGoingObserver_Accept f fd) (OC : ObsC K mg C fI)
    (GW : FnOk P w K mg base CX0 7 fW fdW ["self", "record"] (spWith C T)) (hW : Meth K C "_ways_with" fW) (bW : Binds K fdW ["self", "record"] []) :
    FnOk P w K mg base CX0 8 f fd ["self", "record"] (spAccept C T) := by
  refine F.ok scAccept (fun vs H Q E h => ?_) (fun cdv A outer s H vs Q E hr h => ?_)
  · obtain ⟨x, La, t, cs, gs, rs, r, rfl, _⟩ := h
    rfl
  obtain ⟨x, La, t, cs, gs, rs, r, rfl, ht, O, lrs, va, hT, pos, kk⟩ := h
  have nd := scAccept.nd
  refine ⟨_, pss_cons (ps_set (i := 2) nd rfl (Or.inl rfl) (pe_meth (pv 0) OC.cl hW GW hr bW .nil pass0 (pa_cons (pv 1) pa_nil)))
    (pss_cons (ps_if (pt_cmpR op_eq (pv 2) pe_int (nomark _)) (pss_one ps_never) pss_nil)
    (pss_cons (ps_expr (pe_bm PySem.F.plainAttrs_list PySem.F.slot_list_append PySem.F.type_list_append mt_append (pe_fld (pv 0) rfl) (pa_cons (pv 1) pa_nil)))
    (pss_one (ps_ret (pv 2))))), ?_⟩
  obtain ⟨dx, Cm, Gm, ws, rv, hx, hC, pC, hG, hA, pR⟩ := id O
  refine ⟨_, rfl, x, dx, _, rfl, hx, no_f _ _ _ (by decide +kernel) (by decide +kernel) (by decide +kernel), _, rfl, x, La, t, cs, gs, rs, r, rfl, O, ht, lrs, va, hT, fun H1 gr => ?_⟩
  refine name_at ⟨_, rfl, rfl, _, rfl, ?_⟩
  rw [show decide (V.int (ways cs gs (rs ++ [r]) : Nat) = V.int 0) = false from decide_eq_false fun e => by injection e; omega]
  refine iteF ?_
  have hx1 := gr.ext _ _ hx fun _ z => nomatch z
  have hA1 := gr.ext _ _ hA fun _ z => nomatch z
  refine ⟨_, rfl, x, C, dx, _, _, rfl, hx1, OC.cl, OC.n3, lk_a .., .inl ⟨rfl, _, SqL.of hA1⟩, _, rfl, La, rv, _, rfl, rfl, hA1, ?_, _, rfl, kk H1 t rv gr hA1 (gr.ext _ _ ht fun _ z => nomatch z)⟩
  have := Shg.pair_len pR
  have h2 : 2000 < sizeLine := by decide
  omega
end
end Jo
set_option Elab.async false
set_option linter.all false
set_option maxRecDepth 100000
set_option maxHeartbeats 8000000
set_option autoImplicit false
/-! GoingObserver: see_lift, see_guest, possible_guests, where nothing is refused. -/
namespace Jo
open PySem L2 Sho NdefX Shg Sh1 Sh4 Go PyProof.Rows
theorem grows_lst {T : List (Addr × Str)} {H H1 : Hp} {D : Addr} {xs ys : List V} (hD : H D = none) (G : Grows T H H1) (e : H1 D = some (.lst xs)) : Grows T H (upd H1 D (.lst ys)) := by
  refine ⟨fun b u h n => ?_, fun t q hq => ?_⟩
  · rw [upd_ne (ne_of_none h hD)]
    exact G.ext b u h n
  · obtain ⟨qs, q1, q2, q3⟩ := G.tab t q hq
    have ne : ∀ {b : Addr} {u : HO}, H1 b = some u → (∀ zs, HO.lst zs ≠ u) → b ≠ D := fun h n z => by
      rw [z, e] at h
      exact n xs (Option.some.inj h)
    refine ⟨qs, by rw [upd_ne (ne q1 fun _ z => nomatch z)]; exact q1, q2, fun p' cv h => ?_⟩
    obtain ⟨c, e1, e2⟩ := q3 p' cv h
    exact ⟨c, e1, by rw [upd_ne (ne e2 fun _ z => nomatch z)]; exact e2⟩
section
variable {P : Program} {w : World} {K : PySem.W.Frag} {mg : Str → Option Value} {base : Heap} {C fI : Addr} {T : List (Addr × Str)}
def spIndex0 (C : Addr) : Sp := fun vs H Q _ => ∃ (x La : Addr) (i : Int) (cs : List (Str × Int)) (gs : List Int) (rs : List Rec), vs = [.ref x, .int i] ∧ ObsJ C H x La cs gs rs ∧ 0 ≤ i ∧ i < (gs.length : Nat) ∧ Q .non H
theorem scIndex : FnScope ["self", "index"] ["self", "index"] (defScope sGoingObserver_CheckIndex) := ⟨rfl, rfl, rfl, by decide +kernel, rfl, by decide +kernel, by decide +kernel⟩
theorem ok_index0 {f fW : Addr} {fd fdW : FuncData} (F : Fun K "_check_index" "GoingObserver._check_index" sGoingObserver_CheckIndex f fd) (B : Shg.Blt mg) (OC : ObsC K mg C fI)
    (GW : FnOk P w K mg base CX0 1 fW fdW ["number", "low", "high"] Sh4.spIsWithin) (mW : mg "is_within" = some (.ref fW)) (kW : PySem.W.keepIn K (.ref fW) = true) (bW : Binds K fdW ["number", "low", "high"] []) :
    FnOk P w K mg base CX0 2 f fd ["self", "index"] (spIndex0 C) := by
  refine F.ok scIndex (fun vs H Q E h => ?_) (fun cdv A outer s H vs Q E hr h => ?_)
  · obtain ⟨x, La, i, cs, gs, rs, rfl, _⟩ := h
    rfl
  obtain ⟨x, La, i, cs, gs, rs, rfl, ⟨dx, Cm, Gm, ws, rv, hx, hC, pC, hG, hA, pR⟩, i0, i1, kk⟩ := h
  refine ⟨_, pss_one (ps_if (pt_not (pt_val (pe_call GW (hr.mono (by decide)) rfl mW kW bW .nil pass0 (pa_cons (pv 1) (pa_cons pe_int (pa_cons (pe_op op_sub (pe_callB call_len_seq (by rfl) B.len PySem.boot_len (pa_cons (pe_fld (pv 0) rfl) pa_nil)) pe_int) pa_nil)))))) (pss_one ps_never) pss_nil), ?_⟩
  refine ⟨_, rfl, _, rfl, x, C, dx, _, _, rfl, hx, OC.cl, OC.n2, lk_g .., Gm, _, rfl, .inr (SqT.of hG), _, _, rfl, rfl, i, 0, _, rfl, ?_⟩
  rw [show (decide (0 ≤ i) && decide (i ≤ (((gs.map V.int).length : Nat) : Int) - 1)) = true by rw [List.length_map, decide_eq_true i0, decide_eq_true (by omega)]; rfl]
  exact ⟨_, rfl, iteF kk⟩
def spNamesJ (C : Addr) : Sp := fun vs H Q _ => ∃ (x La : Addr) (cs : List (Str × Int)) (gs : List Int) (rs : List Rec), vs = [.ref x] ∧ ObsJ C H x La cs gs rs ∧ cs.length ≤ 1000 ∧ ∀ L H', Same H H' → H L = none → H' L = some (.lst ((cs.map fun c => c.1).map V.str)) → Q (.ref L) H'
theorem scNames : FnScope ["self", "name", "come"] ["self"] (defScope sGoingObserver_Names) := ⟨rfl, rfl, rfl, by decide +kernel, rfl, by decide +kernel, by decide +kernel⟩
theorem ok_namesJ {f : Addr} {fd : FuncData} (F : Fun K "_names" "GoingObserver._names" sGoingObserver_Names f fd) (OC : ObsC K mg C fI) : FnOk P w K mg base CX0 1 f fd ["self"] (spNamesJ C) := by
  refine F.ok scNames (fun vs H Q E h => ?_) (fun cdv A outer s H vs Q E hr h => ?_)
  · obtain ⟨x, La, cs, gs, rs, rfl, _⟩ := h
    rfl
  obtain ⟨x, La, cs, gs, rs, rfl, ⟨dx, Cm, Gm, ws, rv, hx, hC, pC, hG, hA, pR⟩, lc, kk⟩ := h
  have nd := scNames.nd
  have lw := Shg.pair_len pC
  refine ⟨_, pss_one (ps_ret (pe_lc (own := [("name", 1), ("come", 2)]) (g := gTup K 2 (gCons (gName 1) (gCons (gName 2) gNil))) (tt := tYes) (te := tVar 1) rfl nd (pi_tup (pe_fld (pv 0) rfl)) (blkOk_by (own := [("name", 1), ("come", 2)]) (N := ["self", "name", "come"]) (sc := defScope sGoingObserver_Names) (by decide +kernel))
    (fun _ _ _ _ _ => pg_tup rfl (pgs_cons (pg_name (i := 1) nd rfl (Or.inl rfl)) (pgs_cons (pg_name (i := 2) nd rfl (Or.inl rfl)) pgs_nil))) (fun _ _ _ _ _ => pts_nil) (fun _ _ _ _ _ => pv 1))), ?_⟩
  refine ⟨_, rfl, x, C, dx, _, _, rfl, hx, OC.cl, OC.n1, lk_c .., Cm, rfl, ⟨_, SqT.of hC⟩, fun D hD => ?_⟩
  refine lc_map walk_tup (fun i => (cs[i]?).map fun c => V.str c.1) hD (by rw [lw]; exact Nat.le_trans lc (by decide)) (fun H1 s1 => SqT.of (s1 _ _ hC)) (fun i v H1 H' hi s1 y R k1 => ?_) (fun i hi => ⟨_, by rw [List.getElem?_eq_getElem (by rw [← lw]; exact hi)]; rfl⟩) fun H1 s1 e1 => ?_
  · obtain ⟨rfl, e2⟩ := y
    obtain ⟨c, hc, t, rfl, ht⟩ := Shg.pair_get pC e2
    exact ⟨t, _, rfl, SqT.of (s1 _ _ ht), rfl, _, _, rfl, _, _, rfl, rfl, rfl, _, rfl, k1 _ _ (Same.refl _) (by rw [hc]; rfl)⟩
  · rw [lw, gather_map cs fun c => V.str c.1] at e1
    refine kk D H1 s1 hD ?_
    rw [List.map_map]
    exact e1
def spSeeLift0 (C : Addr) (T : List (Addr × Str)) : Sp := fun vs H Q _ => ∃ (x La : Addr) (i n : Int) (cs : List (Str × Int)) (gs : List Int) (rs : List Rec), vs = [.ref x, .int i, .int n] ∧ 0 ≤ i ∧ i < (gs.length : Nat) ∧ Accepts C T H x La cs gs rs (i, .lift n) Q
theorem scSeeLift : FnScope ["self", "index", "count"] ["self", "index", "count"] (defScope sGoingObserver_SeeLift) := ⟨rfl, rfl, rfl, by decide +kernel, rfl, by decide +kernel, by decide +kernel⟩
theorem acc_same {H H' : Hp} {x La : Addr} {cs : List (Str × Int)} {gs : List Int} {rs : List Rec} {r : Rec} {Q : VK} (h : Accepts C T H x La cs gs rs r Q) (s : Same H H') : Accepts C T H' x La cs gs rs r Q := by
  obtain ⟨O, l, va, hT, p, k⟩ := h
  exact ⟨O.same s, l, va, LamX.Tabs.ext hT s, p, fun H1 t rv g => k H1 t rv ((same_grows s).trans g)⟩
theorem ok_seeLift0 {f fX fA : Addr} {fd fdX fdA : FuncData} (F : Fun K "see_lift" "GoingObserver.see_lift" sGoingObserver_SeeLift f fd) (OC : ObsC K mg C fI)
    (GX : FnOk P w K mg base CX0 2 fX fdX ["self", "index"] (spIndex0 C)) (hX : Meth K C "_check_index" fX) (bX : Binds K fdX ["self", "index"] [])
    (GA : FnOk P w K mg base CX0 8 fA fdA ["self", "record"] (spAccept C T)) (hA : Meth K C "_accept" fA) (bA : Binds K fdA ["self", "record"] []) :
    FnOk P w K mg base CX0 9 f fd ["self", "index", "count"] (spSeeLift0 C T) := by
  refine F.ok scSeeLift (fun vs H Q E h => ?_) (fun cdv A outer s H vs Q E hr h => ?_)
  · obtain ⟨x, La, i, n, cs, gs, rs, rfl, _⟩ := h
    rfl
  obtain ⟨x, La, i, n, cs, gs, rs, rfl, i0, i1, ac⟩ := h
  refine ⟨_, pss_cons (ps_expr (pe_meth (pv 0) OC.cl hX GX (hr.mono (by decide)) bX .nil pass0 (pa_cons (pv 1) pa_nil)))
    (pss_one (ps_ret (pe_meth (pv 0) OC.cl hA GA hr bA .nil pass0 (pa_cons (pe_tup (pa_cons pe_str (pa_cons (pv 1) (pa_cons (pv 2) pa_nil)))) pa_nil)))), ?_⟩
  obtain ⟨dx, Cm, Gm, ws, rv, hx, _⟩ := id ac.1
  refine ⟨_, rfl, x, dx, _, rfl, hx, no_f _ _ _ (by decide +kernel) (by decide +kernel) (by decide +kernel), _, rfl, x, La, i, cs, gs, rs, rfl, ac.1, i0, i1, ?_⟩
  refine ⟨_, rfl, x, dx, _, rfl, hx, no_f _ _ _ (by decide +kernel) (by decide +kernel) (by decide +kernel), _, rfl, _, rfl, by show 3 ≤ sizeLine; decide, fun t ht => ?_⟩
  exact ⟨x, La, t, cs, gs, rs, (i, .lift n), rfl, upd_same, acc_same ac (Shg.same_upd ht)⟩
def spSeeGuest0 (C : Addr) (T : List (Addr × Str)) : Sp := fun vs H Q _ => ∃ (x La : Addr) (i : Int) (z : Str) (cs : List (Str × Int)) (gs : List Int) (rs : List Rec), vs = [.ref x, .int i, .str z] ∧ 0 ≤ i ∧ i < (gs.length : Nat) ∧ z ∈ cs.map (fun c => c.1) ∧ Accepts C T H x La cs gs rs (i, .guest z) Q
theorem scSeeGuest : FnScope ["self", "index", "name"] ["self", "index", "name"] (defScope sGoingObserver_SeeGuest) := ⟨rfl, rfl, rfl, by decide +kernel, rfl, by decide +kernel, by decide +kernel⟩
theorem flat_strs' (xs : List Str) : (xs.map V.str).all flatV = true := by
  rw [List.all_eq_true]
  intro v hv
  obtain ⟨z, _, rfl⟩ := List.mem_map.mp hv
  rfl
theorem ok_seeGuest0 {f fX fA fN : Addr} {fd fdX fdA fdN : FuncData} (F : Fun K "see_guest" "GoingObserver.see_guest" sGoingObserver_SeeGuest f fd) (OC : ObsC K mg C fI)
    (GX : FnOk P w K mg base CX0 2 fX fdX ["self", "index"] (spIndex0 C)) (hX : Meth K C "_check_index" fX) (bX : Binds K fdX ["self", "index"] [])
    (GN : FnOk P w K mg base CX0 1 fN fdN ["self"] (spNamesJ C)) (hN : Meth K C "_names" fN) (bN : Binds K fdN ["self"] [])
    (GA : FnOk P w K mg base CX0 8 fA fdA ["self", "record"] (spAccept C T)) (hA : Meth K C "_accept" fA) (bA : Binds K fdA ["self", "record"] []) :
    FnOk P w K mg base CX0 9 f fd ["self", "index", "name"] (spSeeGuest0 C T) := by
  refine F.ok scSeeGuest (fun vs H Q E h => ?_) (fun cdv A outer s H vs Q E hr h => ?_)
  · obtain ⟨x, La, i, z, cs, gs, rs, rfl, _⟩ := h
    rfl
  obtain ⟨x, La, i, z, cs, gs, rs, rfl, i0, i1, hz, ac⟩ := h
  refine ⟨_, pss_cons (ps_expr (pe_meth (pv 0) OC.cl hX GX (hr.mono (by decide)) bX .nil pass0 (pa_cons (pv 1) pa_nil)))
    (pss_cons (ps_if (pt_cmpR op_notIn_seq (pv 2) (pe_meth0 (pv 0) OC.cl hN GN (hr.mono (by decide)) bN .nil pass0) rfl) (pss_one ps_never) pss_nil)
    (pss_one (ps_ret (pe_meth (pv 0) OC.cl hA GA hr bA .nil pass0 (pa_cons (pe_tup (pa_cons pe_str (pa_cons (pv 1) (pa_cons (pv 2) pa_nil)))) pa_nil))))), ?_⟩
  obtain ⟨dx, Cm, Gm, ws, rv, hx, _⟩ := id ac.1
  have few := ac.2.2.1.few
  refine ⟨_, rfl, x, dx, _, rfl, hx, no_f _ _ _ (by decide +kernel) (by decide +kernel) (by decide +kernel), _, rfl, x, La, i, cs, gs, rs, rfl, ac.1, i0, i1, ?_⟩
  refine ⟨_, rfl, _, rfl, x, dx, _, rfl, hx, no_f _ _ _ (by decide +kernel) (by decide +kernel) (by decide +kernel), x, La, cs, gs, rs, rfl, ac.1, by omega, fun L H1 s1 _ e1 => ?_⟩
  refine ⟨L, _, rfl, .inl (SqL.of e1), rfl, flat_strs' _, _, rfl, ?_⟩
  have e : (if true = true then !inV (.str z) ((cs.map fun c => c.1).map V.str) else inV (.str z) ((cs.map fun c => c.1).map V.str)) = false := by
    rw [if_pos rfl, Go.inV_strs, decide_eq_true hz]
    rfl
  rw [e]
  refine iteF ?_
  have hx1 := s1 _ _ hx
  refine ⟨_, rfl, x, dx, _, rfl, hx1, no_f _ _ _ (by decide +kernel) (by decide +kernel) (by decide +kernel), _, rfl, _, rfl, by show 3 ≤ sizeLine; decide, fun t ht => ?_⟩
  exact ⟨x, La, t, cs, gs, rs, (i, .guest z), rfl, upd_same, acc_same ac (s1.trans (Shg.same_upd ht))⟩
/-- who can have gone -/
def canGo (cs : List (Str × Int)) (gs : List Int) (rs : List Rec) (i : Int) (ys : List Str) : List Str := ys.filter fun z => decide (0 < ways cs gs (rs ++ [(i, .guest z)]))
def spPossible0 (C : Addr) (T : List (Addr × Str)) : Sp := fun vs H Q _ => ∃ (x La : Addr) (i : Int) (cs : List (Str × Int)) (gs : List Int) (rs : List Rec), vs = [.ref x, .int i] ∧ 0 ≤ i ∧ i < (gs.length : Nat) ∧ ObsJ C H x La cs gs rs ∧ rs.length < 1000 ∧ Valid9 cs gs ∧ LamX.Tabs T H ∧
  ∀ (H' : Hp) (L : Addr) (ys : List Str), Grows T H H' → H L = none → ys.Perm (cs.map fun c => c.1) → sortedS ys = true → H' L = some (.lst ((canGo cs gs rs i ys).map V.str)) → Q (.ref L) H'
theorem scPossible : FnScope ["self", "index", "name"] ["self", "index"] (defScope sGoingObserver_PossibleGuests) := ⟨rfl, rfl, rfl, by decide +kernel, rfl, by decide +kernel, by decide +kernel⟩
theorem ok_possible0 {f fX fW fN : Addr} {fd fdX fdW fdN : FuncData} (F : Fun K "possible_guests" "GoingObserver.possible_guests" sGoingObserver_PossibleGuests f fd) (B : Shg.Blt mg) (OC : ObsC K mg C fI)
    (GX : FnOk P w K mg base CX0 2 fX fdX ["self", "index"] (spIndex0 C)) (hX : Meth K C "_check_index" fX) (bX : Binds K fdX ["self", "index"] [])
    (GN : FnOk P w K mg base CX0 1 fN fdN ["self"] (spNamesJ C)) (hN : Meth K C "_names" fN) (bN : Binds K fdN ["self"] [])
    (GW : FnOk P w K mg base CX0 7 fW fdW ["self", "record"] (spWith C T)) (hW : Meth K C "_ways_with" fW) (bW : Binds K fdW ["self", "record"] []) :
    FnOk P w K mg base CX0 8 f fd ["self", "index"] (spPossible0 C T) := by
  refine F.ok scPossible (fun vs H Q E h => ?_) (fun cdv A outer s H vs Q E hr h => ?_)
  · obtain ⟨x, La, i, cs, gs, rs, rfl, _⟩ := h
    rfl
  obtain ⟨x, La, i, cs, gs, rs, rfl, i0, i1, O, lrs, va, hT, kk⟩ := h
  have nd := scPossible.nd
  refine ⟨_, pss_cons (ps_expr (pe_meth (pv 0) OC.cl hX GX (hr.mono (by decide)) bX .nil pass0 (pa_cons (pv 1) pa_nil)))
    (pss_one (ps_ret (pe_lc (own := [("name", 2)]) (g := gName 2) (tt := tTest (tOp (rI0 fun i j => .bl (decide (j < i))) (tMeth C "_ways_with" (spWith C T) [] (fun _ _ _ => False) (tVar 0) (tCons (tTup (tCons (tC (.str "guest")) (tCons (tVar 1) (tCons (tVar 2) tNil)))) tNil)) (tC (.int 0)))) (te := tVar 2) rfl nd (pi_list (pe_callB cr_sortedS (by rfl) B.sorted (by decide +kernel) (pa_cons (pe_meth0 (pv 0) OC.cl hN GN (hr.mono (by decide)) bN .nil pass0) pa_nil))) (blkOk_by (own := [("name", 2)]) (N := ["self", "index", "name"]) (sc := defScope sGoingObserver_PossibleGuests) (by decide +kernel))
    (fun _ _ _ _ _ => pg_name (i := 2) nd rfl (Or.inl rfl)) (fun _ _ _ _ _ => pts_one (pt_cmpR op_gt (pe_meth (pv 0) OC.cl hW GW hr bW .nil pass0 (pa_cons (pe_tup (pa_cons pe_str (pa_cons (pv 1) (pa_cons (pv 2) pa_nil)))) pa_nil)) pe_int (nomark _))) (fun _ _ _ _ _ => pv 2)))), ?_⟩
  obtain ⟨dx, Cm, Gm, ws, rv, hx, _⟩ := id O
  have few := va.few
  refine ⟨_, rfl, x, dx, _, rfl, hx, no_f _ _ _ (by decide +kernel) (by decide +kernel) (by decide +kernel), _, rfl, x, La, i, cs, gs, rs, rfl, O, i0, i1, ?_⟩
  refine ⟨_, rfl, x, dx, _, rfl, hx, no_f _ _ _ (by decide +kernel) (by decide +kernel) (by decide +kernel), x, La, cs, gs, rs, rfl, O, by omega, fun L H1 s1 hL e1 => ?_⟩
  refine ⟨L, _, rfl, SqL.of e1, by rw [List.length_map]; omega, fun ys p pm srt hp => ?_⟩
  have s2 := Shg.same_upd (o := .lst (ys.map V.str)) hp
  have ep : upd H1 p (.lst (ys.map V.str)) p = some (.lst (ys.map V.str)) := upd_same
  have s12 := s1.trans s2
  generalize upd H1 p (.lst (ys.map V.str)) = H2 at s2 ep s12 ⊢
  refine ⟨p, rfl, ⟨_, SqL.of ep⟩, fun D hD => ?_⟩
  have hD0 : H D = none := by
    cases e : H D with
    | none => rfl
    | some o => rw [s12 _ _ e] at hD; cases hD
  have lys : ys.length ≤ 10 := by
    rw [pm.length_eq, List.length_map]
    exact few
  refine loop_any (walk_list (K := K) (a := p) (xs := ys.map V.str)) (fun j H' => Grows T H2 H' ∧ H' D = some (.lst ((canGo cs gs rs i (ys.take j)).map V.str))) ⟨same_grows (Shg.same_upd hD), upd_same⟩ (fun j H' _ q => SqL.of (q.1.ext _ _ ep fun _ z => nomatch z)) (fun j y H5 H4 hj q yy => ?_) fun H4 q => ?_
  · obtain ⟨g4, e4⟩ := q
    obtain ⟨rfl, e2⟩ := yy
    rw [List.getElem?_map] at e2
    obtain ⟨z, hz, rfl⟩ := Option.map_eq_some_iff.mp e2
    refine ⟨rfl, ?_⟩
    have g04 := (same_grows (T := T) s12).trans g4
    have O4 := O.ext g04.ext
    obtain ⟨dx4, _, _, _, _, hx4, _⟩ := id O4
    refine ⟨_, rfl, x, dx4, _, rfl, hx4, no_f _ _ _ (by decide +kernel) (by decide +kernel) (by decide +kernel), _, rfl, _, rfl, by show 3 ≤ sizeLine; decide, fun t ht => ?_⟩
    have s5 := Shg.same_upd (o := .tup [.str "guest", .int i, .str z]) ht
    refine ⟨x, La, t, cs, gs, rs, (i, .guest z), rfl, O4.same s5, upd_same, lrs, va, LamX.Tabs.ext (g04.tab hT) s5, fun H6 g6 => ?_⟩
    have g46 := (same_grows s5).trans g6
    have e6 := g46.ext _ _ e4 fun _ z => nomatch z
    have g26 := g4.trans g46
    have tk : canGo cs gs rs i (ys.take (j + 1)) = canGo cs gs rs i (ys.take j) ++ if 0 < ways cs gs (rs ++ [(i, .guest z)]) then [z] else [] := by
      unfold canGo
      rw [List.take_succ, hz, List.filter_append]
      congr 1
      by_cases c : 0 < ways cs gs (rs ++ [(i, .guest z)])
      · simp [c]
      · simp [c]
    refine ⟨_, _, rfl, rfl, _, rfl, ?_⟩
    by_cases c : 0 < ways cs gs (rs ++ [(i, .guest z)])
    · rw [show decide ((0 : Int) < (ways cs gs (rs ++ [(i, .guest z)]) : Nat)) = true from decide_eq_true (by omega)]
      refine iteT ⟨_, rfl, _, e6, ?_, grows_lst hD g26 e6, ?_⟩
      · rw [List.length_map]
        refine Nat.lt_of_le_of_lt (List.length_filter_le _ _) ?_
        rw [List.length_take]
        have : 100 < sizeLine := by decide
        omega
      · rw [upd_same, tk, if_pos c, List.map_append]
        rfl
    · rw [show decide ((0 : Int) < (ways cs gs (rs ++ [(i, .guest z)]) : Nat)) = false from decide_eq_false (by omega)]
      refine iteF ⟨g26, ?_⟩
      rw [e6, tk, if_neg c, List.append_nil]
  · obtain ⟨g4, e4⟩ := q
    rw [List.length_map, List.take_length] at e4
    exact kk H4 D ys ((same_grows s12).trans g4) hD0 pm srt e4
end
end Jo
set_option Elab.async false
set_option linter.all false
set_option maxRecDepth 100000
set_option maxHeartbeats 4000000
set_option autoImplicit false
/-! dict(zip(tuple, tuple)) with texts or ints as keys. -/
namespace Sho
open PySem PySem.Spec PyProof.Rows L2 RZ
section
variable {prog : Program} {w : World} {A : Around} {E : Value → Shared → Prop} {s : Shared}
/-- what a zip of two tuples is between two turns: its first pair still out, or none yet -/
def ZipOn (h : Heap) (z TI TO i1 i2 l1 l2 : Addr) (xs ys : Array Value) (d : Addr) (i : Nat) : Prop :=
  IsPair h TI (.ref i1) (.ref i2) ∧ (h.IsTupleIter i1 l1 i ∧ h.IsTupleIter i2 l2 i) ∧ (h.IsTuple l1 xs ∧ h.IsTuple l2 ys) ∧
  ((IsZip h z TI TO .none ∧ ∃ a b, IsPair h TO a b) ∨ ∃ T f oT, IsZipHeld h z TI TO T f ∧ h.get? T = some oT ∧ (T ≠ z ∧ T ≠ i1 ∧ T ≠ i2) ∧ T ≠ d)
/-- one more pair of a zip whose first pair is out -/
theorem heldT_item {z TI TO T i1 i2 l1 l2 : Addr} {f : Bool} {oT : Obj} {k : Nat} {xs ys : Array Value} {x y : Value} {Q : Option Value → Shared → Prop} (D : ZipApart z TI TO i1 i2 l1 l2)
    (hz : IsZipHeld s.heap z TI TO T f) (hT : s.heap.get? T = some oT) (hTI : IsPair s.heap TI (.ref i1) (.ref i2)) (it : s.heap.IsTupleIter i1 l1 k ∧ s.heap.IsTupleIter i2 l2 k) (tp : s.heap.IsTuple l1 xs ∧ s.heap.IsTuple l2 ys) (hx : xs[k]? = some x) (hy : ys[k]? = some y)
    (hQ : ∀ h', IsZipHeld h' z TI TO T true → (h'.IsTupleIter i1 l1 (k + 1) ∧ h'.IsTupleIter i2 l2 (k + 1)) → IsPair h' s.heap.objs.size x y →
      (∀ c o, c ≠ z → c ≠ i1 → c ≠ i2 → s.heap.get? c = some o → h'.get? c = some o) → Q (some (.ref s.heap.objs.size)) { s with heap := h' }) : wpAny (model prog w) A (pyNext (.ref z)) Q E s := by
  have ty : s.TypeIs (.ref z) "zip" := ⟨_, hz, rfl⟩
  unfold pyNext
  refine wpAny_bind (wpAny_attempt (wpAny_callSpecial?_slot (name := Str.ofString "__next__") ty PySem.F.slot_zip_next (wpAny_call_entry PySem.F.slot_zip_next ty PySem.F.entry_zip_next ?_ (PySem.F.args_zip_next_1 _))))
  show wpAny _ _ (field (.ref z) 2 >>= _) _ _ _
  refine wpAny_bind (wpAny_field hz rfl (x := .bool false) rfl ?_)
  show wpAny _ _ (field (.ref z) 3 >>= _) _ _ _
  refine wpAny_bind (wpAny_field hz rfl (x := .ref TI) rfl ?_)
  refine wpAny_bind (wpAny_seqItems hTI rfl ?_)
  show wpAny _ _ (Builtin.SmallTypes.ownedTupleIsFree (.ref z) >>= _) _ _ _
  refine wpAny_bind (wpAny_tupleHeld_zip hz hT fun ha za ka => ?_)
  simp only [Bool.false_eq_true, if_false]
  refine wpAny_bind ?_
  rw [← Array.forIn_toList]
  simp only [List.forIn_cons, List.forIn_nil]
  have a1 := it.1.extBut ka.extBut D.i1z
  have a2 := it.2.extBut ka.extBut D.i2z
  have b1 := tp.1.extBut ka.extBut D.l1z
  have b2 := tp.2.extBut ka.extBut D.l2z
  refine wpAny_bind (wpAny_bind (wpAny_holding ?_))
  show wpAny _ _ (Builtin.SmallTypes.nextOf (.ref i1) >>= _) _ _ _
  refine wpAny_bind (nextOf_tuple_item (s := { s with heap := ha }) a1 b1 hx fun hb c1 kb => wpAny_pure (wpAny_pure ?_))
  refine wpAny_bind (wpAny_bind (wpAny_holding ?_))
  show wpAny _ _ (Builtin.SmallTypes.nextOf (.ref i2) >>= _) _ _ _
  refine wpAny_bind (nextOf_tuple_item (s := { s with heap := hb }) (a2.extBut kb.extBut D.i12.symm) (b2.extBut kb.extBut D.l2i1) hy fun hc c2 kc => wpAny_pure (wpAny_pure (wpAny_pure ?_)))
  show wpAny _ _ (newTuple [x, y] >>= _) _ _ _
  refine wpAny_bind (wpAny_newTuple ?_)
  have size : hc.objs.size = s.heap.objs.size := by rw [kc.1, kb.1, ka.1]
  have zc : IsZipHeld hc z TI TO T true := kc.extBut _ _ D.i2z.symm (kb.extBut _ _ D.i1z.symm za)
  have all : ∀ c o, c ≠ z → c ≠ i1 → c ≠ i2 → s.heap.get? c = some o → hc.get? c = some o := fun c o n1 n2 n3 e => kc.extBut _ _ n3 (kb.extBut _ _ n2 (ka.extBut _ _ n1 e))
  have c1' := c1.extBut kc.extBut D.i12
  have pr : IsPair (hc.push { cls := .type "tuple", data := .seq #[x, y] }) hc.objs.size x y := Heap.get?_push_size _ rfl
  refine wpAny_pure ⟨_, rfl, wpAny_pure ?_⟩
  show Q (some (.ref hc.objs.size)) _
  rw [size] at pr ⊢
  exact hQ _ (Heap.get?_push_of_some _ zc) ⟨c1'.at fun o e => Heap.get?_push_of_some _ e, c2.at fun o e => Heap.get?_push_of_some _ e⟩ pr fun c o n1 n2 n3 e => Heap.get?_push_of_some _ (all c o n1 n2 n3 e)
theorem heldT_end {z TI TO T i1 i2 l1 l2 : Addr} {f : Bool} {oT : Obj} {k : Nat} {xs ys : Array Value} {Q : Option Value → Shared → Prop} (hh : A.handled = none) (D : ZipApart z TI TO i1 i2 l1 l2)
    (hz : IsZipHeld s.heap z TI TO T f) (hT : s.heap.get? T = some oT) (hTI : IsPair s.heap TI (.ref i1) (.ref i2)) (it : s.heap.IsTupleIter i1 l1 k ∧ s.heap.IsTupleIter i2 l2 k) (tp : s.heap.IsTuple l1 xs ∧ s.heap.IsTuple l2 ys) (he : xs[k]? = none ∨ ys[k]? = none)
    (hQ : ∀ h', (∀ c o, c ≠ z → c ≠ i1 → c ≠ i2 → s.heap.get? c = some o → h'.get? c = some o) → Q none { s with heap := h' }) : wpAny (model prog w) A (pyNext (.ref z)) Q E s := by
  have ty : s.TypeIs (.ref z) "zip" := ⟨_, hz, rfl⟩
  have last : ∀ (h' : Heap) (e : Addr), (∀ c o, c ≠ z → c ≠ i1 → c ≠ i2 → s.heap.get? c = some o → h'.get? c = some o) → (∃ o, h'.get? e = some o ∧ o.cls = .type "StopIteration") →
      wpAny (model prog w) A (isInstance (.ref e) (.type "StopIteration") >>= fun b => if b = true then pure none else throw (.ref e)) Q E { s with heap := h' } := fun h' e hk ho => by
    obtain ⟨o, ho, hc⟩ := ho
    refine wpAny_bind (wpAny_isInstance (T := "StopIteration") (b := true) ⟨o, ho, hc⟩ isSubtype_stop ?_)
    exact wpAny_pure (hQ _ hk)
  unfold pyNext
  refine wpAny_bind (wpAny_attempt (wpAny_callSpecial?_slot (name := Str.ofString "__next__") ty PySem.F.slot_zip_next (wpAny_call_entry PySem.F.slot_zip_next ty PySem.F.entry_zip_next ?_ (PySem.F.args_zip_next_1 _))))
  show wpAny _ _ (field (.ref z) 2 >>= _) _ _ _
  refine wpAny_bind (wpAny_field hz rfl (x := .bool false) rfl ?_)
  show wpAny _ _ (field (.ref z) 3 >>= _) _ _ _
  refine wpAny_bind (wpAny_field hz rfl (x := .ref TI) rfl ?_)
  refine wpAny_bind (wpAny_seqItems hTI rfl ?_)
  show wpAny _ _ (Builtin.SmallTypes.ownedTupleIsFree (.ref z) >>= _) _ _ _
  refine wpAny_bind (wpAny_tupleHeld_zip hz hT fun ha za ka => ?_)
  simp only [Bool.false_eq_true, if_false]
  refine wpAny_bind ?_
  rw [← Array.forIn_toList]
  simp only [List.forIn_cons, List.forIn_nil]
  have a1 := it.1.extBut ka.extBut D.i1z
  have a2 := it.2.extBut ka.extBut D.i2z
  have b1 := tp.1.extBut ka.extBut D.l1z
  have b2 := tp.2.extBut ka.extBut D.l2z
  refine wpAny_bind (wpAny_bind (wpAny_holding ?_))
  show wpAny _ _ (Builtin.SmallTypes.nextOf (.ref i1) >>= _) _ _ _
  cases hx : xs[k]? with
  | none =>
    refine wpAny_bind (nextOf_tuple_end (s := { s with heap := ha }) hh a1 b1 hx fun hb e kb ho => ?_)
    exact last hb e (fun c o n1 n2 _ q => kb _ _ n2 (ka.extBut _ _ n1 q)) ho
  | some x =>
    have hy : ys[k]? = none := he.resolve_left (by rw [hx]; exact fun q => nomatch q)
    refine wpAny_bind (nextOf_tuple_item (s := { s with heap := ha }) a1 b1 hx fun hb c1 kb => wpAny_pure (wpAny_pure ?_))
    refine wpAny_bind (wpAny_bind (wpAny_holding ?_))
    show wpAny _ _ (Builtin.SmallTypes.nextOf (.ref i2) >>= _) _ _ _
    refine wpAny_bind (nextOf_tuple_end (s := { s with heap := hb }) hh (a2.extBut kb.extBut D.i12.symm) (b2.extBut kb.extBut D.l2i1) hy fun hc e kc ho => ?_)
    exact last hc e (fun c o n1 n2 n3 q => kc _ _ n3 (kb.extBut _ _ n2 (ka.extBut _ _ n1 q))) ho
/-- as the argument of dict -/
theorem argT {prog : Program} {w : World} (z TI TO i1 i2 l1 l2 : Addr) (D : ZipApart z TI TO i1 i2 l1 l2) (xs ys : Array Value) (hl : xs.size = ys.size) :
    PairArg prog w "zip" z [z, TI, TO, i1, i2, l1, l2] [z, TO, i1, i2] xs.size (fun i k v => xs[i]? = some k ∧ ys[i]? = some v)
      (fun h => IsPair h TI (.ref i1) (.ref i2) ∧ (h.IsTupleIter i1 l1 0 ∧ h.IsTupleIter i2 l2 0) ∧ (h.IsTuple l1 xs ∧ h.IsTuple l2 ys) ∧ IsZip h z TI TO .none ∧ ∃ a b, IsPair h TO a b) where
  type := fun s ok => ⟨_, ok.2.2.2.1, rfl⟩
  notDict := by decide
  keep := fun h h' ⟨o1, o2, o3, o4, a, b, o5⟩ k => ⟨k _ _ o1, ⟨o2.1.at fun o e => k _ o e, o2.2.at fun o e => k _ o e⟩, ⟨o3.1.at fun o e => k _ o e, o3.2.at fun o e => k _ o e⟩, k _ _ o4, a, b, k _ _ o5⟩
  there := fun h ok b hb => by
    obtain ⟨o1, ⟨⟨p1, q1, _⟩, ⟨p2, q2, _⟩⟩, ⟨⟨p3, q3, _⟩, ⟨p4, q4, _⟩⟩, o4, a, c, o5⟩ := ok
    simp only [List.mem_cons, List.not_mem_nil, or_false] at hb
    rcases hb with rfl | rfl | rfl | rfl | rfl | rfl | rfl
    · exact ⟨_, o4⟩
    · exact ⟨_, o1⟩
    · exact ⟨_, o5⟩
    · exact ⟨_, q1⟩
    · exact ⟨_, q2⟩
    · exact ⟨_, q3⟩
    · exact ⟨_, q4⟩
  sub := fun b hb => by
    simp only [List.mem_cons, List.not_mem_nil, or_false] at hb ⊢
    rcases hb with q | q | q | q
    · exact .inl q
    · exact .inr (.inr (.inl q))
    · exact .inr (.inr (.inr (.inl q)))
    · exact .inr (.inr (.inr (.inr (.inl q))))
  noKeys := fun A s Q E hA ok h => getAttrOr_miss_zip ok.2.2.2.1 rfl rfl rfl zip_no_keys (by decide +kernel) hA h
  iter := fun A s d Q E hA ok hd hdf h => by
    obtain ⟨o1, o2, o3, o4, o5⟩ := ok
    simp only [List.mem_cons, List.not_mem_nil, or_false, not_or] at hdf
    obtain ⟨n1, n2, n3, n4, n5, n6, n7⟩ := hdf
    refine wpAny_pyIter_zip o4 (h z [z, TO, i1, i2] (fun i h => ZipOn h z TI TO i1 i2 l1 l2 xs ys d i) s.heap s.toks ?_ ⟨o1, o2, o3, .inl ⟨o4, o5⟩⟩ (fun _ _ e => e) fun b hb => .inl hb)
    have out : ∀ {c : Addr}, c ∉ [z, TO, i1, i2] → c ≠ z ∧ c ≠ TO ∧ c ≠ i1 ∧ c ≠ i2 := fun hc => by
      simp only [List.mem_cons, List.not_mem_nil, or_false, not_or] at hc
      exact hc
    refine { off := fun hm => ?_, frame := fun i h1 h2 st k => ?_, item := fun i s1 Q1 E1 hi st hds hQ => ?_, done := fun s1 Q1 E1 st hQ => ?_ }
    · simp only [List.mem_cons, List.not_mem_nil, or_false] at hm
      exact hm.elim n1 fun q => q.elim n3 fun q => q.elim n4 n5
    · obtain ⟨r1, r2, r3, r4⟩ := st
      refine ⟨k _ _ (Ne.symm n2) r1, ⟨r2.1.at fun o e => k _ o (Ne.symm n4) e, r2.2.at fun o e => k _ o (Ne.symm n5) e⟩, ⟨r3.1.at fun o e => k _ o (Ne.symm n6) e, r3.2.at fun o e => k _ o (Ne.symm n7) e⟩, ?_⟩
      rcases r4 with ⟨q1, a, b, q2⟩ | ⟨T, f, oT, q1, q2, q3, q4⟩
      · exact .inl ⟨k _ _ (Ne.symm n1) q1, a, b, k _ _ (Ne.symm n3) q2⟩
      · exact .inr ⟨T, f, oT, k _ _ (Ne.symm n1) q1, k _ _ q4 q2, q3, q4⟩
    · obtain ⟨r1, r2, r3, r4⟩ := st
      have ex := Array.getElem?_eq_getElem hi
      have ey := Array.getElem?_eq_getElem (show i < ys.size by omega)
      have new : ∀ {c : Addr} {o : Obj}, s1.heap.get? c = some o → s1.heap.objs.size ≠ c := fun e => Nat.ne_of_gt (Heap.lt_size e)
      have m1 : s1.heap.objs.size ≠ i1 := let ⟨_, e, _⟩ := r2.1; new e
      have m2 : s1.heap.objs.size ≠ i2 := let ⟨_, e, _⟩ := r2.2; new e
      rcases r4 with ⟨q1, a, b, q2⟩ | ⟨T, f, oT, q1, q2, q3, q4⟩
      · refine pyNext_zipT_item D q1 r1 q2 r2.1 r2.2 r3.1 r3.2 ex ey fun h' z' t' a1 a2 pr _ k => ?_
        exact hQ s1.heap.objs.size _ _ h' s1.toks ⟨ex, ey⟩ (.inl ⟨_, pr, rfl, _, rfl⟩)
          ⟨k _ _ D.TIz D.TITO D.TIi1 D.TIi2 r1, ⟨a1, a2⟩, ⟨r3.1.at fun o e => k _ o D.l1z D.l1TO D.l1i1 D.l1i2 e, r3.2.at fun o e => k _ o D.l2z D.l2TO D.l2i1 D.l2i2 e⟩, .inr ⟨s1.heap.objs.size, false, _, z', pr, ⟨new q1, m1, m2⟩, Nat.ne_of_gt hds⟩⟩
          fun c o hc e => k c o (out hc).1 (out hc).2.1 (out hc).2.2.1 (out hc).2.2.2 e
      · refine heldT_item D q1 q2 r1 r2 r3 ex ey fun h' z' it' pr k => ?_
        exact hQ s1.heap.objs.size _ _ h' s1.toks ⟨ex, ey⟩ (.inl ⟨_, pr, rfl, _, rfl⟩)
          ⟨k _ _ D.TIz D.TIi1 D.TIi2 r1, it', ⟨r3.1.at fun o e => k _ o D.l1z D.l1i1 D.l1i2 e, r3.2.at fun o e => k _ o D.l2z D.l2i1 D.l2i2 e⟩, .inr ⟨T, true, oT, z', k _ _ q3.1 q3.2.1 q3.2.2 q2, q3, q4⟩⟩
          fun c o hc e => k c o (out hc).1 (out hc).2.2.1 (out hc).2.2.2 e
    · obtain ⟨r1, r2, r3, r4⟩ := st
      have last : xs[xs.size]? = none ∨ ys[xs.size]? = none := .inl (Array.getElem?_eq_none (Nat.le_refl _))
      rcases r4 with ⟨q1, a, b, q2⟩ | ⟨T, f, oT, q1, q2, q3, q4⟩
      · exact pyNext_zipT_end hA D q1 r1 q2 r2.1 r2.2 r3.1 r3.2 last fun h' k => hQ h' s1.toks fun c o hc e => k c o (out hc).1 (out hc).2.1 (out hc).2.2.1 (out hc).2.2.2 e
      · exact heldT_end hA D q1 q2 r1 r2 r3 last fun h' k => hQ h' s1.toks fun c o hc e => k c o (out hc).1 (out hc).2.2.1 (out hc).2.2.2 e
end
/-- dict(zip(a, b)) of two tuples of one length -/
def tDictZip (K : PySem.W.Frag) (ta : TA) : TE := fun σ H Q => ta σ H fun vs H1 => ∃ (a b : Addr) (ks : List L2.Key) (ys : List V), vs = [.ref a, .ref b] ∧ SqT K H1 a (ks.map kV) ∧ SqT K H1 b ys ∧ ks.length = ys.length ∧ ∀ p, H1 p = none → Q (.ref p) (upd H1 p (.dK (mergeK [] (ks.zip ys))))
theorem kv_zip : ∀ {ks : List L2.Key} {ys : List V} {us vs : List Value}, Vals (ks.map kV) us → Vals ys vs → ks.length = ys.length → KV (ks.zip ys) (ks.zip vs)
  | [], _, _, _, _, _, _ => by
    rw [List.zip_nil_left, List.zip_nil_left]
    exact .nil
  | k :: ks, [], _, _, _, _, h => by cases h
  | k :: ks, y :: ys, _, _, .cons _ ra, .cons ry rb, h => by
    rw [List.zip_cons_cons, List.zip_cons_cons]
    exact .cons ⟨rfl, ry⟩ (kv_zip ra rb (by simpa using h))
theorem pe_dictZip {X : Cx} {e e2 : Expr} {ta : TA} {p p2 pos pos2 : Pos} (hc : X.calm = true) (hg : Gl X "zip") (hm : X.mg "zip" = none) (hgd : Gl X "dict") (hmd : X.mg "dict" = none) (ha : PA X [e, e2] ta)
    (hs : starEach [e, e2] X.env = (false, eval e X.env) :: starEach [e2] X.env := by rfl) (hpl : (backTo pos (starEach [e2] X.env)).any (·.1) = false := by rfl)
    (hs2 : starEach [.Call (.Name "zip" p) [e, e2] [] pos] X.env = (false, eval (.Call (.Name "zip" p) [e, e2] [] pos) X.env) :: starEach [] X.env := by rfl) : PE X (.Call (.Name "dict" p2) [.Call (.Name "zip" p) [e, e2] [] pos] [] pos2) (tDictZip X.K ta) := by
  refine ⟨fun pins s σ H Q I h => ?_⟩
  refine wpAny_Call_Name_kw (ld_blt I hgd hmd (show bootBuiltins ("dict" : Str) = some (.type "dict") from by decide +kernel) ?_)
  refine PyProof.Rows.callWith_type1 ?_ hs2 rfl
  rw [hs2]
  show wpAny _ _ (spliced ((false, eval (.Call (.Name "zip" p) [e, e2] [] pos) X.env) :: backTo pos2 (starEach [] X.env))) _ _ s
  refine Calls.spliced_cons ?_
  refine Call_ (ld_blt I hg hm PyProof.Rows.boot_zip (PyProof.Rows.callWith_type1 (thn (ha.run pos pins s σ H _ I h) fun us s1 ⟨vs, H1, I1, r1, q1⟩ => ?_) hs hpl))
  obtain ⟨a, b, ks, ys, rfl, hqx, hqy, hl, q⟩ := q1
  obtain ⟨u1, u2, eu, ra, rb⟩ := vals2 r1
  subst eu
  cases (show u1 = Value.ref a from ra)
  cases (show u2 = Value.ref b from rb)
  obtain ⟨its, rv, p1, _⟩ := I1.tuple hqx
  obtain ⟨its2, rv2, p2', hz2⟩ := I1.tuple hqy
  obtain ⟨o1, ho1, _⟩ := id p1
  obtain ⟨o2, ho2, _⟩ := id p2'
  have e1 := rv.length
  have e2' := rv2.length
  rw [List.length_map] at e1
  refine call_zipT (show s1.heap.IsTuple a its.toArray from p1) (show s1.heap.IsTuple b its2.toArray from p2') fun h' hz hTI hTO h1 h2 hsz hk => ?_
  refine Calls.spliced_nil ?_
  have D := PySem.W.ktu_apart s1.heap.objs.size a b (Heap.lt_size ho1) (Heap.lt_size ho2)
  have lz : its.toArray.size = its2.toArray.size := by
    rw [List.size_toArray, List.size_toArray]
    omega
  refine call_dict_pairs (knd := mixKind X.prog X.w) (kvs := ks.zip its2) (argT (prog := X.prog) (w := X.w) _ _ _ _ _ a b D its.toArray its2.toArray lz) (I.ok.hd hc)
    ⟨hTI, ⟨h1, h2⟩, ⟨(show s1.heap.IsTuple a its.toArray from p1).at fun o e => hk _ o e, (show s1.heap.IsTuple b its2.toArray from p2').at fun o e => hk _ o e⟩, hz, _, _, hTO⟩ ⟨?_, fun i key v hr => ?_⟩ ?_ fun h2' tk hd' k2 => ?_
  · rw [List.length_zip, List.size_toArray]
    omega
  · obtain ⟨x1, x2⟩ := hr
    rw [List.getElem?_toArray] at x1 x2
    have il : i < ks.length := by
      have := (List.getElem?_eq_some_iff.mp x1).1
      omega
    obtain ⟨k, hk2⟩ : ∃ k, ks[i]? = some k := ⟨_, List.getElem?_eq_getElem il⟩
    refine ⟨k, ?_, ?_⟩
    · rw [List.getElem?_zip_eq_some]
      exact ⟨hk2, x2⟩
    · obtain ⟨u, hu, ru⟩ := rv.get (show (ks.map kV)[i]? = some (kV k) by rw [List.getElem?_map, hk2]; rfl)
      rw [x1] at hu
      rw [Option.some.inj hu]
      exact kV_is (P := X.prog) (w := X.w) ru
  · rw [List.size_toArray]
    omega
  · have old : ∀ c o, s1.heap.get? c = some o → h2'.get? c = some o := fun c o e => k2 c o (fun hm => by
      have lt := Heap.lt_size e
      simp only [List.mem_cons, List.not_mem_nil, or_false] at hm
      have ge : s1.heap.objs.size ≤ c := by
        rcases hm with q | q | q | q
        · rw [q]; exact Nat.le_add_right _ _
        · rw [q]; exact Nat.le_add_right _ _
        · rw [q]; exact Nat.le_refl _
        · rw [q]; exact Nat.le_add_right _ _
      exact absurd lt (Nat.not_lt.mpr ge)) (hk c o e)
    have big : s1.heap.objs.size ≤ h'.objs.size := by omega
    have fr : H1 h'.objs.size = none := I1.hok.fresh big
    have hm : (h'.objs.size == sysModules) = false := beq_eq_false_iff_ne.mpr (Nat.ne_of_gt (Nat.lt_of_lt_of_le I1.big big))
    have kv := kv_zip rv rv2 hl
    have hlen : (mergeK [] (ks.zip ys)).length ≤ sizeLine := by
      refine Nat.le_trans (length_mergeK _ []) ?_
      rw [List.length_nil, Nat.zero_add, List.length_zip]
      omega
    exact ⟨.ref h'.objs.size, upd H1 h'.objs.size (.dK (mergeK [] (ks.zip ys))), I1.laid (t' := tk) old big (show ObjOk X.prog X.w _ _ _ (.dK (mergeK [] (ks.zip ys))) from ⟨hlen, hm, merged [] (ks.zip its2), KV.merge kv .nil, hd'⟩), rfl, q _ fr⟩
end Sho
set_option Elab.async false
set_option linter.all false
set_option maxRecDepth 100000
set_option maxHeartbeats 2000000
namespace Sh1
open PySem L2 Sho NdefX
/-! ### stays compared -/
def stayD (x : Stay) : PyData := .tuple [.str x.1, .int x.2.1, .int x.2.2]
theorem dp_stays {K : PySem.W.Frag} {H : Hp} : ∀ {ws : List V} {xs : List Stay}, StaysV H ws xs → DpAll K H ws (xs.map stayD)
  | _, _, .nil => .nil
  | _, _, .cons ⟨t, e, ht⟩ r => by
    subst e
    exact .cons (.tup (SqT.of ht) (.cons (.str _) (.cons (.int _) (.cons (.int _) .nil)))) (dp_stays r)
theorem lay_stays : ∀ {xs : List Stay}, Short xs → PyData.canLayAll0 (xs.map stayD) = true
  | [], _ => rfl
  | x :: xs, h => by
    have h1 := (h x List.mem_cons_self).2
    have h2 := lay_stays (xs := xs) fun y hy => h y (List.mem_cons_of_mem _ hy)
    show (PyData.canLay0 (stayD x) && PyData.canLayAll0 (xs.map stayD)) = true
    rw [h2, Bool.and_true]
    show (PyData.canLay0 (.str x.1) && (true && (true && true))) = true
    simp only [Bool.and_true]
    exact h1
theorem depth_stays : ∀ xs : List Stay, PyData.depthAll (xs.map stayD) ≤ 1
  | [] => Nat.zero_le _
  | x :: xs => by
    have h := depth_stays xs
    show max (PyData.depth (stayD x)) (PyData.depthAll (xs.map stayD)) ≤ 1
    have e : PyData.depth (stayD x) = 1 := rfl
    rw [e]
    omega
theorem shaped_tup {xs : List Stay} (h : Short xs) : SeqAt.shaped (.tuple (xs.map stayD)) = true := by
  unfold SeqAt.shaped
  have h1 : PyData.canLay0 (.tuple (xs.map stayD)) = true := lay_stays h
  have h2 : PyData.depth (.tuple (xs.map stayD)) ≤ 64 := Nat.le_trans (Nat.succ_le_succ (depth_stays xs)) (by decide)
  rw [h1, decide_eq_true h2]
  rfl
theorem shaped_lst {xs : List Stay} (h : Short xs) : SeqAt.shaped (.list (xs.map stayD)) = true := by
  unfold SeqAt.shaped
  have h1 : PyData.canLay0 (.list (xs.map stayD)) = true := lay_stays h
  have h2 : PyData.depth (.list (xs.map stayD)) ≤ 64 := Nat.le_trans (Nat.succ_le_succ (depth_stays xs)) (by decide)
  rw [h1, decide_eq_true h2]
  rfl
theorem shaped_stay {x : Stay} (h : x.1.cps.all (· < 0x110000) = true) : SeqAt.shaped (stayD x) = true := by
  unfold SeqAt.shaped
  have h1 : PyData.canLay0 (stayD x) = true := by
    show (PyData.canLay0 (.str x.1) && (true && (true && true))) = true
    simp only [Bool.and_true]
    exact h
  rw [h1]
  rfl
theorem eqv_stay (x y : Stay) : PyData.eqv (stayD x) (stayD y) = decide (x = y) := by
  obtain ⟨x1, x2, x3⟩ := x
  obtain ⟨y1, y2, y3⟩ := y
  show ((x1 == y1) && ((x2 == y2) && ((x3 == y3) && true))) = _
  rw [Bool.eq_iff_iff]
  simp
theorem eqv_stays : ∀ xs ys : List Stay, PyData.eqvAll (xs.map stayD) (ys.map stayD) = decide (xs = ys)
  | [], [] => rfl
  | [], y :: ys => by
    rw [decide_eq_false (by simp)]
    rfl
  | x :: xs, [] => by
    rw [decide_eq_false (by simp)]
    rfl
  | x :: xs, y :: ys => by
    show (PyData.eqv (stayD x) (stayD y) && PyData.eqvAll (xs.map stayD) (ys.map stayD)) = _
    rw [eqv_stay, eqv_stays xs ys, Bool.eq_iff_iff]
    simp
section
variable {P : Program} {w : World} {K : PySem.W.Frag} {mg : Str → Option Value} {base : Heap}
/-! ### __eq__ -/
def spPEq (C : Addr) : Sp := fun vs H Q _ => ∃ (p : Addr) (xs : List Stay) (y : V), vs = [.ref p, y] ∧ PartyAt C H p xs ∧ Short xs ∧
  ((∃ q ys, y = .ref q ∧ PartyAt C H q ys ∧ Short ys ∧ Q (.bl (decide (xs = ys))) H) ∨ ∃ b zs, y = .ref b ∧ H b = some (.tup zs) ∧ Q (.bl false) H)
theorem scPEq : FnScope ["self", "other"] ["self", "other"] (defScope sPEq) := ⟨rfl, rfl, rfl, by decide +kernel, rfl, by decide +kernel, by decide +kernel⟩
theorem ok_peq {f C : Addr} {fd : FuncData} (F : Fun K "__eq__" "Party.__eq__" sPEq f fd) (B : Blt mg) (PC : PartyC K mg C) : FnOk P w K mg base CX0 1 f fd ["self", "other"] (spPEq C) := by
  refine F.ok scPEq (fun vs H Q E h => ?_) (fun cdv A outer s H vs Q E hr h => ?_)
  · obtain ⟨p, xs, y, rfl, _⟩ := h
    rfl
  · obtain ⟨p, xs, y, rfl, ⟨dx, a, ws, h1, h2, h3⟩, hsx, k⟩ := h
    refine ⟨_, pss_one (ps_ret (pe_and (pe_callB call_isi (by rfl) B.isi (by decide +kernel) (pa_cons (pv 1) (pa_cons (pe_glob (v := .ref C) rfl PC.gm rfl) pa_nil)))
      (pe_one (pe_cmpR (op_eqD hr.units) (pe_fld (pv 0) rfl) (pe_fld (pv 1) rfl) (nomark _))))), ?_⟩
    rcases k with ⟨q, ys, rfl, ⟨dy, b, zs, g1, g2, g3⟩, hsy, k⟩ | ⟨b, zs, rfl, hb, k⟩
    · refine ⟨_, rfl, .ref q, .ref C, .ref C, .ref C, true, rfl, .own C, .base (.ins g1 PC.cl PC.ca PC.cn PC.ct PC.mo), PC.kS, _, rfl, iteT ?_⟩
      refine ⟨_, rfl, p, C, dx, _, .ref a, rfl, h1, PC.cl, PC.nS, lk_stays _, _, rfl, q, C, dy, _, .ref b, rfl, g1, PC.cl, PC.nS, lk_stays _, ?_⟩
      refine ⟨.tuple (xs.map stayD), .tuple (ys.map stayD), .tup (SqT.of h2) (dp_stays h3), .tup (SqT.of g2) (dp_stays g3), shaped_tup hsx, shaped_tup hsy, ?_⟩
      have e : PyData.eqv (.tuple (xs.map stayD)) (.tuple (ys.map stayD)) = decide (xs = ys) := eqv_stays xs ys
      rw [e]
      exact k
    · refine ⟨_, rfl, .ref b, .ref C, .type "tuple", .ref C, false, rfl, .own C, .base (.tup hb), PC.kT, _, rfl, iteF k⟩
end
end Sh1
set_option Elab.async false
set_option linter.all false
set_option maxRecDepth 100000
set_option maxHeartbeats 2000000
namespace Sh1
open PySem L2 Sho NdefX
/-! ### valid lists of stays -/
structure Valid (xs : List Stay) : Prop where
  len : xs.length ≤ 24
  nd : (xs.map fun x => x.1).Nodup
  ok : ∀ x ∈ xs, okStay x.1 x.2.1 x.2.2 = true
theorem any_mem {l : List Str} {z : Str} : l.any (fun y => y == z) = true ↔ z ∈ l := by
  rw [List.any_eq_true]
  constructor
  · rintro ⟨y, hy, e⟩
    have := eq_of_beq e
    rw [← this]
    exact hy
  · intro h
    exact ⟨z, h, by simp⟩
theorem fbf_none : ∀ (xs : List Stay) (i : Nat) (seen : List Str), i ≤ 24 → firstBadFrom i seen xs = none →
    i + xs.length ≤ 24 ∧ (∀ x ∈ xs, x.1 ∉ seen) ∧ (xs.map fun x => x.1).Nodup ∧ ∀ x ∈ xs, okStay x.1 x.2.1 x.2.2 = true
  | [], i, seen, hi, _ => ⟨hi, by simp, by simp, by simp⟩
  | x :: r, i, seen, hi, h => by
    unfold firstBadFrom at h
    by_cases hb : badStay i seen x = true
    · rw [if_pos hb] at h
      cases h
    · rw [if_neg hb] at h
      have hb2 := Bool.eq_false_iff.mpr hb
      unfold badStay at hb2
      rw [Bool.or_eq_false_iff, Bool.or_eq_false_iff] at hb2
      obtain ⟨b1, b2, b3⟩ := hb2
      have n24 : (i : Int) ≠ 24 := of_decide_eq_false b1
      have ns : x.1 ∉ seen := fun m => by
        rw [any_mem.mpr m] at b2
        cases b2
      have ok1 : okStay x.1 x.2.1 x.2.2 = true := by
        cases e : okStay x.1 x.2.1 x.2.2 with
        | true => rfl
        | false => rw [e] at b3; cases b3
      obtain ⟨c1, c2, c3, c4⟩ := fbf_none r (i + 1) (seen ++ [x.1]) (by omega) h
      refine ⟨by rw [List.length_cons]; omega, fun y hy => ?_, ?_, fun y hy => ?_⟩
      · rcases List.mem_cons.mp hy with rfl | hy
        · exact ns
        · exact fun m => c2 y hy (List.mem_append_left _ m)
      · rw [List.map_cons, List.nodup_cons]
        refine ⟨fun m => ?_, c3⟩
        obtain ⟨y, hy, e⟩ := List.mem_map.mp m
        exact c2 y hy (by rw [e]; simp)
      · rcases List.mem_cons.mp hy with rfl | hy
        · exact ok1
        · exact c4 y hy
theorem fbf_of : ∀ (xs : List Stay) (i : Nat) (seen : List Str), i + xs.length ≤ 24 → (∀ x ∈ xs, x.1 ∉ seen) → (xs.map fun x => x.1).Nodup → (∀ x ∈ xs, okStay x.1 x.2.1 x.2.2 = true) → firstBadFrom i seen xs = none
  | [], _, _, _, _, _, _ => rfl
  | x :: r, i, seen, h1, h2, h3, h4 => by
    rw [List.length_cons] at h1
    have hb : badStay i seen x = false := by
      unfold badStay
      rw [h4 x List.mem_cons_self, decide_eq_false (by omega)]
      have e : seen.any (fun y => y == x.1) = false := by
        rw [Bool.eq_false_iff]
        exact fun q => h2 x List.mem_cons_self (any_mem.mp q)
      rw [e]
      rfl
    unfold firstBadFrom
    rw [if_neg (by rw [hb]; exact Bool.false_ne_true)]
    rw [List.map_cons, List.nodup_cons] at h3
    refine fbf_of r (i + 1) _ (by omega) (fun y hy m => ?_) h3.2 fun y hy => h4 y (List.mem_cons_of_mem _ hy)
    rcases List.mem_append.mp m with m | m
    · exact h2 y (List.mem_cons_of_mem _ hy) m
    · rw [List.mem_singleton] at m
      exact h3.1 (List.mem_map.mpr ⟨y, hy, m⟩)
theorem valid_iff {xs : List Stay} : firstBad xs = none ↔ Valid xs := by
  constructor
  · intro h
    obtain ⟨a, _, b, c⟩ := fbf_none xs 0 [] (by decide) h
    exact ⟨by omega, b, c⟩
  · intro h
    exact fbf_of xs 0 [] (by have := h.len; omega) (by simp) h.nd h.ok
theorem Valid.filter {xs : List Stay} (h : Valid xs) (p : Stay → Bool) : Valid (xs.filter p) :=
  ⟨Nat.le_trans (List.length_filter_le ..) h.len, (List.Nodup.sublist (List.Sublist.map _ List.filter_sublist) h.nd), fun x hx => h.ok x (List.mem_filter.mp hx).1⟩
theorem Short.filter {xs : List Stay} (h : Short xs) (p : Stay → Bool) : Short (xs.filter p) := fun x hx => h x (List.mem_filter.mp hx).1
/-- what is kept of paired lists -/
theorem stays_filter {H : Hp} (p : Stay → Bool) : ∀ {ws : List V} {xs : List Stay}, StaysV H ws xs → StaysV H ((ws.zip xs).filterMap fun q => if p q.2 = true then some q.1 else none) (xs.filter p)
  | _, _, .nil => .nil
  | _, _, .cons (a := v) (b := x) h r => by
    have ih := stays_filter p r
    rw [List.zip_cons_cons, List.filterMap_cons, List.filter_cons]
    by_cases e : p x = true
    · simp only [e, if_true]
      exact .cons h ih
    · simp only [e, if_false]
      exact ih
section
variable {P : Program} {w : World} {K : PySem.W.Frag} {mg : Str → Option Value} {base : Heap}
/-! ### __sub__ -/
def without (xs : List Stay) (x : Stay) : List Stay := xs.filter fun y => !decide (y = x)
def spPSub (C CU : Addr) : Sp := fun vs H Q E => ∃ (p : Addr) (z : Str) (xs : List Stay), vs = [.ref p, .str z] ∧ PartyAt C H p xs ∧ Short xs ∧ Valid xs ∧ z.length ≤ 100000 ∧
  (∀ x, guest xs z = some x → ∀ q H', Same H H' → H q = none → PartyAt C H' q (without xs x) → Q (.ref q) H') ∧
  (guest xs z = none → ∀ (H' : Hp) (d : Addr), Same H H' → H d = none → H' d = some (.xd [(("name" : Str), .str z)]) → E (.ref CU) (some d) H')
theorem scPSub : FnScope ["self", "name", "gone", "stays", "stay"] ["self", "name"] (defScope sPSub) := ⟨rfl, rfl, rfl, by decide +kernel, rfl, by decide +kernel, by decide +kernel⟩
theorem ok_psub {f C CI CU fS fI : Addr} {fd fdS : FuncData} (F : Fun K "__sub__" "Party.__sub__" sPSub f fd) (PC : PartyC K mg C)
    (GS : FnOk P w K mg base (L2.CX P w) 3 fS fdS ["self", "name"] (spStayOf C CU)) (mS : Meth K C "_stay_of" fS) (bS : Binds K fdS ["self", "name"] [])
    (M : Mk K C fI) (GI : FnR P w K mg base (L2.CX P w) 5 fI (spPNew C CI)) : FnOk P w K mg base (L2.CX P w) 7 f fd ["self", "name"] (spPSub C CU) := by
  refine F.okX scPSub (fun vs H Q E h => ?_) (fun cdv A outer s H vs Q E hr h => ?_)
  · obtain ⟨p, z, xs, rfl, _⟩ := h
    rfl
  · obtain ⟨p, z, xs, rfl, PA, hsh, hv, hz, kOk, kBad⟩ := h
    have nd := scPSub.nd
    have pass : Passes (L2.CX P w) (cxOf (L2.CX P w) P w K mg base ["self", "name", "gone", "stays", "stay"] "Party.__sub__" (defScope sPSub) f cdv A outer s H E) E := passes_call (takes_of rfl rfl rfl rfl) fun _ _ _ _ z => z
    refine ⟨_, pss_cons (ps_set (i := 2) nd rfl (Or.inr rfl) (pe_meth (pv 0) PC.cl mS GS (hr.mono (by decide)) bS .nil pass (pa_cons (pv 1) pa_nil)))
      (pss_cons (ps_setLc (i := 3) (own := [("stay", 4)]) (g := gName 4) (tt := tTest (tOp (rNeD K) (tVar 4) (tVar 2))) rfl nd rfl rfl (sw_true rfl rfl rfl (by decide +kernel)) (pi_tup (pe_fld (pv 0) rfl)) (blkOk_by (own := [("stay", 4)]) (N := ["self", "name", "gone", "stays", "stay"]) (sc := defScope sPSub) (by decide +kernel))
        (fun _ _ _ _ _ => pg_name (i := 4) nd rfl (Or.inl rfl)) (fun _ _ _ _ _ => pts_one (pt_cmpR (op_neD hr.units) (pv 4) (pv 2) (nomark _))) (fun _ _ _ _ _ => pv 4))
      (pss_one (ps_ret (pe_makeS M GI hr rfl PC.gm pass (pv 3))))), ?_⟩
    obtain ⟨dx, a, ws, h1, h2, h3⟩ := id PA
    refine ⟨_, rfl, p, dx, _, rfl, h1, no_meth _ (by decide +kernel), _, rfl, p, z, xs, rfl, PA, hz, fun x t hx ht => ?_, kBad⟩
    refine ⟨_, rfl, p, C, dx, _, .ref a, rfl, h1, PC.cl, PC.nS, lk_stays _, a, rfl, ⟨_, SqT.of h2⟩, fun D hD => ?_⟩
    have lenE := pair_len h3
    have hz24 : ws.length ≤ sizeLine := by
      rw [lenE]
      exact Nat.le_trans hv.len (by decide)
    have hxs : x.1.cps.all (· < 0x110000) = true := (hsh x (List.mem_of_find?_eq_some hx)).2
    have dpx : ∀ {t : Addr} {y : Stay} {H1 : Hp}, H1 t = some (.tup [.str y.1, .int y.2.1, .int y.2.2]) → Dp K H1 (.ref t) (stayD y) := fun {t y H1} e => .tup (SqT.of e) (.cons (.str _) (.cons (.int _) (.cons (.int _) .nil)))
    refine lc_gather walk_tup (fun i => ((ws.zip xs)[i]?).bind fun q => if (!decide (q.2 = x)) = true then some q.1 else none) hD hz24 (fun H1 s1 => SqT.of (s1 _ _ h2)) (fun i v H1 H' hi s1 y R k1 => ?_) fun H1 s1 e1 => ?_
    · obtain ⟨rfl, e2⟩ := y
      obtain ⟨y, hy, t', rfl, ht'⟩ := pair_get h3 e2
      have k2 := k1 _ (Same.refl _)
      have ez : (ws.zip xs)[i]? = some (.ref t', y) := by
        rw [List.getElem?_zip_eq_some]
        exact ⟨e2, hy⟩
      rw [ez] at k2
      refine ⟨rfl, _, rfl, _, rfl, stayD y, stayD x, dpx (s1 _ _ ht'), dpx (s1 _ _ ht), shaped_stay (hsh y (List.mem_of_getElem? hy)).2, shaped_stay hxs, _, rfl, ?_⟩
      rw [eqv_stay]
      by_cases e : y = x
      · have : decide (y = x) = true := decide_eq_true e
        rw [this]
        refine iteF ?_
        simp only [Option.bind_some, this] at k2
        exact k2
      · have : decide (y = x) = false := decide_eq_false e
        rw [this]
        refine iteT ⟨_, rfl, ?_⟩
        simp only [Option.bind_some, this] at k2
        exact k2
    · have e2 : (ws.zip xs).length = ws.length := by
        rw [List.length_zip, lenE]
        exact Nat.min_self _
      rw [← e2, gather_list] at e1
      have sv := stays_filter (fun y => !decide (y = x)) (h3.same s1)
      refine ⟨_, rfl, D, _, rfl, .inr (SqL.of e1), ?_⟩
      refine party_new sv (hsh.filter _) ?_ (fun _ q H' s' hq PQ => ?_) (fun i hi => ?_)
      · rw [pair_len sv]
        exact Nat.le_trans (hv.filter _).len (by decide)
      · exact kOk x hx q H' (s1.trans s') (s1.free hq) PQ
      · rw [valid_iff.mpr (hv.filter _)] at hi
        cases hi
end
end Sh1
set_option Elab.async false
set_option linter.all false
set_option maxRecDepth 100000
set_option maxHeartbeats 2000000
namespace Sh1
open PySem L2 Sho NdefX
theorem cat_one {K : PySem.W.Frag} {H : Hp} {a b : Addr} {xs ys : List V} {Q : VK} (ha : SqT K H a xs) (hb : SqT K H b ys) (hz : xs.length + ys.length ≤ sizeLine) (h : ∀ c H', Same H H' → SqT K H' c (xs ++ ys) → Q (.ref c) H') : rCatA K (.ref a) (.ref b) H Q := by
  refine ⟨a, b, xs, ys, rfl, rfl, ha, hb, hz, fun e => ?_, fun _ e => ?_, fun _ _ p hp => ?_⟩
  · exact h b H (Same.refl _) (by rw [e]; exact hb)
  · exact h a H (Same.refl _) (by rw [e, List.append_nil]; exact ha)
  · refine h p _ (fun c o e => ?_) (SqT.of upd_same)
    rw [upd_ne (ne_of_none e hp)]
    exact e
theorem paired_append {α β : Type} {R : α → β → Prop} : ∀ {a c : List α} {b d : List β}, PySem.Paired R a b → PySem.Paired R c d → PySem.Paired R (a ++ c) (b ++ d)
  | _, _, _, _, .nil, h => h
  | _, _, _, _, .cons x r, h => .cons x (paired_append r h)
theorem Short.append {xs ys : List Stay} (h : Short xs) (k : Short ys) : Short (xs ++ ys) := fun x hx => (List.mem_append.mp hx).elim (h x) (k x)
/-- stays moved -/
def moved (n : Int) (xs : List Stay) : List Stay := xs.map fun x => (x.1, x.2.1 + n, x.2.2 + n)
theorem Short.moved {xs : List Stay} (h : Short xs) (n : Int) : Short (moved n xs) := fun x hx => by
  obtain ⟨y, hy, e⟩ := List.mem_map.mp hx
  subst e
  exact h y hy
theorem stays_of {H : Hp} : ∀ {ys : List V} {xs : List Stay}, ys.length = xs.length → (∀ (i : Nat) (y : V), ys[i]? = some y → ∃ x, xs[i]? = some x ∧ StayV H y x) → StaysV H ys xs
  | [], [], _, _ => .nil
  | [], _ :: _, h, _ => by simp at h
  | _ :: _, [], h, _ => by simp at h
  | y :: ys, x :: xs, h, k => by
    obtain ⟨x', e, r⟩ := k 0 y rfl
    simp at e
    subst e
    exact .cons r (stays_of (by simpa using h) fun i y' e => by
      obtain ⟨x', e2, r2⟩ := k (i + 1) y' (by simpa using e)
      exact ⟨x', by simpa using e2, r2⟩)
section
variable {P : Program} {w : World} {K : PySem.W.Frag} {mg : Str → Option Value} {base : Heap}
/-- what making a Party of xs may end in -/
def Making (C CI : Addr) (H : Hp) (xs : List Stay) (Q : VK) (E : XK) : Prop :=
  (firstBad xs = none → ∀ (p : Addr) (H' : Hp), Same H H' → H p = none → PartyAt C H' p xs → Q (.ref p) H') ∧
  ∀ i, firstBad xs = some i → ∀ (H' : Hp) (d : Addr), Same H H' → H d = none → H' d = some (.xd [(("index" : Str), .int (i : Nat))]) → E (.ref CI) (some d) H'
theorem Making.after {C CI : Addr} {H H1 : Hp} {xs : List Stay} {Q : VK} {E : XK} (m : Making C CI H xs Q E) (s : Same H H1) : Making C CI H1 xs Q E :=
  ⟨fun h p H' s' hp P => m.1 h p H' (s.trans s') (s.free hp) P, fun i h H' d s' hd e => m.2 i h H' d (s.trans s') (s.free hd) e⟩
def spPAdd (C CI : Addr) : Sp := fun vs H Q E => ∃ (p q : Addr) (xs ys : List Stay), vs = [.ref p, .ref q] ∧ PartyAt C H p xs ∧ PartyAt C H q ys ∧ Short xs ∧ Short ys ∧ xs.length + ys.length ≤ 1000 ∧ Making C CI H (xs ++ ys) Q E
theorem scPAdd : FnScope ["self", "other", "stays"] ["self", "other"] (defScope sPAdd) := ⟨rfl, rfl, rfl, by decide +kernel, rfl, by decide +kernel, by decide +kernel⟩
theorem ok_padd {f C CI fI : Addr} {fd : FuncData} (F : Fun K "__add__" "Party.__add__" sPAdd f fd) (PC : PartyC K mg C) (M : Mk K C fI) (GI : FnR P w K mg base (L2.CX P w) 5 fI (spPNew C CI)) :
    FnOk P w K mg base (L2.CX P w) 7 f fd ["self", "other"] (spPAdd C CI) := by
  refine F.okX scPAdd (fun vs H Q E h => ?_) (fun cdv A outer s H vs Q E hr h => ?_)
  · obtain ⟨p, q, xs, ys, rfl, _⟩ := h
    rfl
  · obtain ⟨p, q, xs, ys, rfl, ⟨dx, a, ws, h1, h2, h3⟩, ⟨dy, b, zs, g1, g2, g3⟩, hsx, hsy, hz, k⟩ := h
    have nd := scPAdd.nd
    have pass : Passes (L2.CX P w) (cxOf (L2.CX P w) P w K mg base ["self", "other", "stays"] "Party.__add__" (defScope sPAdd) f cdv A outer s H E) E := passes_call (takes_of rfl rfl rfl rfl) fun _ _ _ _ z => z
    refine ⟨_, pss_cons (ps_set (i := 2) nd rfl (Or.inl rfl) (pe_op op_catA (pe_fld (pv 0) rfl) (pe_fld (pv 1) rfl))) (pss_one (ps_ret (pe_makeS M GI hr rfl PC.gm pass (pv 2)))), ?_⟩
    refine ⟨_, rfl, p, C, dx, _, .ref a, rfl, h1, PC.cl, PC.nS, lk_stays _, _, rfl, q, C, dy, _, .ref b, rfl, g1, PC.cl, PC.nS, lk_stays _, ?_⟩
    have l1 := pair_len h3
    have l2 := pair_len g3
    have l3 : ws.length + zs.length ≤ 1000 := by omega
    refine cat_one (SqT.of h2) (SqT.of g2) (Nat.le_trans l3 (by decide)) fun c H' s' hc => ?_
    have k' := k.after s'
    refine ⟨_, rfl, c, ws ++ zs, rfl, .inl hc, ?_⟩
    exact party_new (paired_append (h3.same s') (g3.same s')) (hsx.append hsy) (by rw [List.length_append]; exact Nat.le_trans l3 (by decide)) k'.1 k'.2
def spPShift (C CI : Addr) : Sp := fun vs H Q E => ∃ (p : Addr) (n : Int) (xs : List Stay), vs = [.ref p, .int n] ∧ PartyAt C H p xs ∧ Short xs ∧ xs.length ≤ 1000 ∧ Making C CI H (moved n xs) Q E
theorem scPShift : FnScope ["self", "ticks", "stays", "name", "come", "go"] ["self", "ticks"] (defScope sPShift) := ⟨rfl, rfl, rfl, by decide +kernel, rfl, by decide +kernel, by decide +kernel⟩
theorem ok_pshift {f C CI fI : Addr} {fd : FuncData} (F : Fun K "__rshift__" "Party.__rshift__" sPShift f fd) (PC : PartyC K mg C) (M : Mk K C fI) (GI : FnR P w K mg base (L2.CX P w) 5 fI (spPNew C CI)) :
    FnOk P w K mg base (L2.CX P w) 7 f fd ["self", "ticks"] (spPShift C CI) := by
  refine F.okX scPShift (fun vs H Q E h => ?_) (fun cdv A outer s H vs Q E hr h => ?_)
  · obtain ⟨p, n, xs, rfl, _⟩ := h
    rfl
  · obtain ⟨p, n, xs, rfl, ⟨dx, a, ws, h1, h2, h3⟩, hsx, hz, k⟩ := h
    have nd := scPShift.nd
    have pass : Passes (L2.CX P w) (cxOf (L2.CX P w) P w K mg base ["self", "ticks", "stays", "name", "come", "go"] "Party.__rshift__" (defScope sPShift) f cdv A outer s H E) E := passes_call (takes_of rfl rfl rfl rfl) fun _ _ _ _ z => z
    refine ⟨_, pss_cons (ps_setLc (i := 2) (own := [("name", 3), ("come", 4), ("go", 5)]) (g := gTup K 3 (gCons (gName 3) (gCons (gName 4) (gCons (gName 5) gNil)))) (tt := tYes) rfl nd rfl rfl (sw_true rfl rfl rfl (by decide +kernel))
        (pi_tup (pe_fld (pv 0) rfl)) (blkOk_by (own := [("name", 3), ("come", 4), ("go", 5)]) (N := ["self", "ticks", "stays", "name", "come", "go"]) (sc := defScope sPShift) (by decide +kernel))
        (fun _ _ _ _ _ => pg_tup rfl (pgs_cons (pg_name (i := 3) nd rfl (Or.inl rfl)) (pgs_cons (pg_name (i := 4) nd rfl (Or.inl rfl)) (pgs_cons (pg_name (i := 5) nd rfl (Or.inl rfl)) pgs_nil))))
        (fun _ _ _ _ _ => pts_nil) (fun _ _ _ _ _ => pe_tup (pa_cons (pv 3) (pa_cons (pe_op op_add (pv 4) (pv 1)) (pa_cons (pe_op op_add (pv 5) (pv 1)) pa_nil)))))
      (pss_one (ps_ret (pe_makeS M GI hr rfl PC.gm pass (pv 2)))), ?_⟩
    have l1 := pair_len h3
    refine ⟨_, rfl, p, C, dx, _, .ref a, rfl, h1, PC.cl, PC.nS, lk_stays _, a, rfl, ⟨_, SqT.of h2⟩, fun D hD => ?_⟩
    refine lc_rel walk_tup (fun i y H => ∃ x, (moved n xs)[i]? = some x ∧ StayV H y x) hD (by rw [l1]; exact Nat.le_trans hz (by decide)) (fun H1 s1 => SqT.of (s1 _ _ h2)) (fun i y H H' st r => ?_) (fun i v H1 H' hi s1 y R k1 => ?_) fun H1 ys s1 e1 e2 e3 => ?_
    · obtain ⟨x, e, t, e2, e3⟩ := r
      exact ⟨x, e, t, e2, st _ _ e3⟩
    · obtain ⟨rfl, e2⟩ := y
      obtain ⟨x, hx, t, rfl, ht⟩ := pair_get h3 e2
      refine ⟨t, _, rfl, SqT.of (s1 _ _ ht), rfl, _, _, rfl, _, _, rfl, _, _, rfl, rfl, rfl, _, rfl, _, rfl, _, rfl, _, _, rfl, rfl, _, rfl, _, rfl, _, _, rfl, rfl, by show 3 ≤ sizeLine; decide, fun q hq => ?_⟩
      refine k1 _ _ (fun b o e => by rw [upd_ne (ne_of_none e hq)]; exact e) ⟨(x.1, x.2.1 + n, x.2.2 + n), ?_, q, rfl, upd_same⟩
      unfold moved
      rw [List.getElem?_map, hx]
      rfl
    · have lm : (moved n xs).length = xs.length := by
        unfold moved
        rw [List.length_map]
      have sv : StaysV H1 ys (moved n xs) := stays_of (by rw [e2, lm, l1]) e3
      have k' := k.after s1
      refine ⟨_, rfl, D, ys, rfl, .inr (SqL.of e1), ?_⟩
      exact party_new sv (hsx.moved n) (by rw [e2, l1]; exact Nat.le_trans hz (by decide)) k'.1 k'.2
end
end Sh1
set_option Elab.async false
set_option linter.all false
set_option maxRecDepth 100000
set_option maxHeartbeats 8000000
set_option autoImplicit false
/-! GoingObserver.find_party. -/
namespace Jo
open PySem L2 Sho NdefX Shg Sh1 Go
abbrev NFP : List Str := ["self", "ways", "way", "ticks", "stays", "name", "come"]
section
variable {P : Program} {w : World} {K : PySem.W.Frag} {mg : Str → Option Value} {base : Heap} {C fI CP : Addr} {T : List (Addr × Str)}
/-- the ticks, by the names on the way -/
def ticksK (w : List Str) (gs : List Int) : List (Key × V) := mergeK [] ((w.map fun z => (Sum.inr z : Key)).zip (gs.map V.int))
def spFind (C CP : Addr) (T : List (Addr × Str)) : Sp := fun vs H Q _ => ∃ (x La : Addr) (cs : List (Str × Int)) (gs : List Int) (rs : List Rec) (tk : Str → Int), vs = [.ref x] ∧ ObsJ C H x La cs gs rs ∧ rs.length ≤ 1000 ∧ Valid9 cs gs ∧ LamX.Tabs T H ∧ 1 ≤ ways cs gs rs ∧
  (1 < ways cs gs rs → ∀ H', Grows T H H' → Q .non H') ∧
  (ways cs gs rs = 1 → (∀ w b, Lead (steps cs gs rs) [] w b → w.length = gs.length ∧ ∀ c ∈ cs, valV (ticksK w gs) (.inr c.1) = some (.int (tk c.1))) ∧ Short (cs.map fun c => (c.1, c.2, tk c.1)) ∧ Valid (cs.map fun c => (c.1, c.2, tk c.1)) ∧
    ∀ (g : Addr) H', Grows T H H' → PartyAt CP H' g (cs.map fun c => (c.1, c.2, tk c.1)) → Q (.ref g) H')
theorem scFind : FnScope NFP ["self"] (defScope sGoingObserver_FindParty) := ⟨rfl, rfl, rfl, by decide +kernel, rfl, by decide +kernel, by decide +kernel⟩
theorem ok_find {f fW fP CI : Addr} {fd fdW : FuncData} (F : Fun K "find_party" "GoingObserver.find_party" sGoingObserver_FindParty f fd) (B : Shg.Blt mg) (mZ : mg "zip" = none) (OC : ObsC K mg C fI) (PC : PartyC K mg CP)
    (GW : FnOk P w K mg base CX0 6 fW fdW ["comings", "goings", "records"] (spWaysJ T)) (mW : mg "_ways_to_go" = some (.ref fW)) (kW : PySem.W.keepIn K (.ref fW) = true) (bW : Binds K fdW ["comings", "goings", "records"] [])
    (M : Mk K CP fP) (GI : FnR P w K mg base (L2.CX P w) 5 fP (spPNew CP CI)) : FnOk P w K mg base (L2.CX P w) 7 f fd ["self"] (spFind C CP T) := by
  refine F.okX scFind (fun vs H Q E h => ?_) (fun cdv A outer s H vs Q E hr h => ?_)
  · obtain ⟨x, La, cs, gs, rs, tk, rfl, _⟩ := h
    rfl
  obtain ⟨x, La, cs, gs, rs, tk, rfl, O, lrs, va, hT, pos, kMany, kOne⟩ := h
  have nd := scFind.nd
  have pass : Passes (L2.CX P w) (cxOf (L2.CX P w) P w K mg base NFP "GoingObserver.find_party" (defScope sGoingObserver_FindParty) f cdv A outer s H E) E := passes_call (takes_of rfl rfl rfl rfl) fun _ _ _ _ z => z
  refine ⟨_, pss_cons (ps_asg (pe_call GW (hr.mono (by decide)) rfl mW kW bW .nil pass0 (pa_cons (pe_fld (pv 0) rfl) (pa_cons (pe_fld (pv 0) rfl) (pa_cons (pe_fld (pv 0) rfl) pa_nil)))) (pg_tup rfl (pgs_cons (pg_name (i := 1) nd rfl (Or.inl rfl)) (pgs_cons (pg_name (i := 2) nd rfl (Or.inl rfl)) pgs_nil))))
    (pss_cons (ps_if (pt_cmpR op_gt (pv 1) pe_int (nomark _)) (pss_one (ps_ret pe_non)) pss_nil)
    (pss_cons (ps_set (i := 3) nd rfl (Or.inr rfl) (pe_dictZip rfl (by rfl) mZ (by rfl) B.dict (pa_cons (pv 2) (pa_cons (pe_fld (pv 0) rfl) pa_nil))))
    (pss_cons (ps_setLc (i := 4) (own := [("name", 5), ("come", 6)]) (g := gTup K 2 (gCons (gName 5) (gCons (gName 6) gNil))) (tt := tYes) (te := tTup (tCons (tVar 5) (tCons (tVar 6) (tCons (tDGet (tVar 3) (tVar 5)) tNil)))) rfl nd rfl rfl (sw_true rfl rfl rfl (by decide +kernel)) (pi_tup (pe_fld (pv 0) rfl)) (blkOk_by (own := [("name", 5), ("come", 6)]) (N := NFP) (sc := defScope sGoingObserver_FindParty) (by decide +kernel))
      (fun _ _ _ _ _ => pg_tup rfl (pgs_cons (pg_name (i := 5) nd rfl (Or.inl rfl)) (pgs_cons (pg_name (i := 6) nd rfl (Or.inl rfl)) pgs_nil))) (fun _ _ _ _ _ => pts_nil) (fun _ _ _ _ _ => pe_tup (pa_cons (pv 5) (pa_cons (pv 6) (pa_cons (pe_dget (hu_of hr) (pv 3) (pv 5) (fun _ _ => rfl)) pa_nil)))))
    (pss_one (ps_ret (pe_makeS M GI (hr.mono (by decide)) rfl PC.gm pass (pv 4))))))), ?_⟩
  obtain ⟨dx, Cm, Gm, ws, rv, hx, hC, pC, hG, hA, pR⟩ := id O
  refine ⟨_, rfl, x, C, dx, _, _, rfl, hx, OC.cl, OC.n1, lk_c .., _, rfl, x, C, dx, _, _, rfl, hx, OC.cl, OC.n2, lk_g .., _, rfl, x, C, dx, _, _, rfl, hx, OC.cl, OC.n3, lk_a .., Cm, Gm, La, ws, cs, gs, rv, rs, rfl, hC, pC, hG, hA, pR, lrs, va, hT, fun p wv way H1 g1 e1 e2 hway => ?_⟩
  refine ⟨p, _, rfl, SqT.of e1, rfl, _, _, rfl, _, _, rfl, rfl, ?_⟩
  refine ⟨_, rfl, _, _, rfl, rfl, _, rfl, ?_⟩
  by_cases c : 1 < ways cs gs rs
  · rw [show decide ((1 : Int) < (ways cs gs rs : Nat)) = true from decide_eq_true (by omega)]
    exact iteT (kMany c H1 g1)
  rw [show decide ((1 : Int) < (ways cs gs rs : Nat)) = false from decide_eq_false (by omega)]
  refine iteF ?_
  obtain ⟨kw, sh, vl, kk⟩ := kOne (by omega)
  obtain ⟨b, hb⟩ := hway.resolve_left (by omega)
  obtain ⟨lw, tv⟩ := kw way b hb
  have up : ∀ b vs, H b = some (.tup vs) → H1 b = some (.tup vs) := fun b vs e => g1.ext _ _ e fun _ z => nomatch z
  have hx1 := g1.ext _ _ hx fun _ z => nomatch z
  have ek : way.map V.str = (way.map fun z => (Sum.inr z : Key)).map kV := by
    rw [List.map_map]
    rfl
  rw [ek] at e2
  -- the ticks
  refine ⟨_, rfl, _, rfl, x, C, dx, _, _, rfl, hx1, OC.cl, OC.n2, lk_g .., wv, Gm, way.map (fun z => (Sum.inr z : Key)), gs.map V.int, rfl, SqT.of e2, SqT.of (up _ _ hG), by rw [List.length_map, List.length_map]; exact lw, fun pd hpd => name_at ?_⟩
  have s2 := Shg.same_upd (o := .dK (ticksK way gs)) hpd
  have ed : upd H1 pd (.dK (ticksK way gs)) pd = some (.dK (ticksK way gs)) := upd_same
  have g2 := g1.trans (same_grows s2)
  have hx2 := s2 _ _ hx1
  have up2 : ∀ b vs, H b = some (.tup vs) → upd H1 pd (.dK (ticksK way gs)) b = some (.tup vs) := fun b vs e => s2 _ _ (up b vs e)
  show _
  have lC := Shg.pair_len pC
  generalize hH2 : upd H1 pd (.dK (ticksK way gs)) = H2 at s2 ed g2 hx2 up2
  have hH2' : upd H1 pd (.dK (mergeK [] ((way.map fun z => (Sum.inr z : Key)).zip (gs.map V.int)))) = H2 := hH2
  rw [hH2']
  -- the stays
  refine ⟨_, rfl, x, C, dx, _, _, rfl, hx2, OC.cl, OC.n1, lk_c .., Cm, rfl, ⟨_, SqT.of (up2 _ _ hC)⟩, fun D hD => ?_⟩
  have n0 : ∀ {H4 : Hp} {o : HO}, Same H2 H4 → Same H2 (upd H4 D o) := fun s b u e => by rw [upd_ne (ne_of_none e hD)]; exact s b u e
  refine loop_any (walk_tup (xs := ws)) (fun j H' => Same H2 H' ∧ ∃ ys, H' D = some (.lst ys) ∧ StaysV H' ys ((cs.take j).map fun c => (c.1, c.2, tk c.1))) ⟨n0 (Same.refl _), [], upd_same, .nil⟩ (fun j H' _ q => SqT.of (q.1 _ _ (up2 _ _ hC))) (fun j y H5 H4 hj q yy => ?_) fun H4 q => ?_
  · obtain ⟨s4, ys, e4, r4⟩ := q
    obtain ⟨rfl, e5⟩ := yy
    obtain ⟨c, hc, t, rfl, ht⟩ := Shg.pair_get pC e5
    have ht4 := s4 _ _ (up2 _ _ ht)
    have ly := Shg.pair_len r4
    have gt := DGet.k (k := .inr c.1) (s4 _ _ ed)
    rw [tv c (List.mem_of_getElem? hc)] at gt
    refine ⟨t, _, rfl, SqT.of ht4, rfl, _, _, rfl, _, _, rfl, rfl, rfl, ?_⟩
    refine ⟨_, rfl, _, rfl, _, rfl, _, rfl, pd, _, rfl, gt, by show 3 ≤ sizeLine; decide, fun t2 ht2 => ?_⟩
    have s5 := Shg.same_upd (o := .tup [.str c.1, .int c.2, .int (tk c.1)]) ht2
    have e6 : upd H4 t2 (.tup [.str c.1, .int c.2, .int (tk c.1)]) t2 = some (.tup [.str c.1, .int c.2, .int (tk c.1)]) := upd_same
    generalize upd H4 t2 (.tup [.str c.1, .int c.2, .int (tk c.1)]) = H6 at s5 e6 ⊢
    have eD6 := s5 _ _ e4
    have kt : ∀ b vs (o : HO), H6 b = some (.tup vs) → upd H6 D o b = some (.tup vs) := fun b vs o e => by rw [upd_ne fun z => by rw [z, eD6] at e; cases e]; exact e
    refine ⟨ys, eD6, ?_, n0 (s4.trans s5), _, upd_same, ?_⟩
    · rw [ly, List.length_map, List.length_take]
      have h1 := va.few
      have : 100 < sizeLine := by decide
      omega
    · rw [List.take_succ, hc, List.map_append]
      exact pair_app (pair_mono (fun v r k => k.elim fun t k => ⟨t, k.1, kt _ _ _ (s5 _ _ k.2)⟩) r4) (.cons ⟨t2, rfl, kt _ _ _ e6⟩ .nil)
  · obtain ⟨s4, ys, e4, r4⟩ := q
    rw [lC, List.take_length] at r4
    have ly := Shg.pair_len r4
    refine name_at ⟨_, rfl, D, _, rfl, .inr (SqL.of e4), ?_⟩
    have g4 := g2.trans (same_grows (T := T) s4)
    refine party_new r4 sh ?_ (fun _ q H' s' hq PQ => kk q H' (g4.trans (same_grows s')) PQ) (fun i hi => ?_)
    · rw [ly, List.length_map]
      exact Nat.le_trans va.few (by decide)
    · rw [valid_iff.mpr vl] at hi
      cases hi
end
end Jo
set_option Elab.async false
set_option linter.all false
set_option maxRecDepth 100000
set_option maxHeartbeats 2000000
/-! Parties without stays and of one. -/
namespace Sh1
open PySem L2 Sho NdefX
theorem ins_party {C : Addr} {H : Hp} {p : Addr} {xs : List Stay} (h : PartyAt C H p xs) : InsAt H p C := by
  obtain ⟨dx, a, ws, h1, _⟩ := h
  exact ⟨dx, _, h1⟩
theorem Valid.take {xs : List Stay} (h : Valid xs) (n : Nat) : Valid (xs.take n) :=
  ⟨Nat.le_trans (List.length_take_le' ..) h.len, h.nd.sublist (List.Sublist.map _ (List.take_sublist ..)), fun x hx => h.ok x (List.mem_of_mem_take hx)⟩
theorem Valid.one {x : Stay} (h : okStay x.1 x.2.1 x.2.2 = true) : Valid [x] :=
  ⟨by simp, by simp, fun y hy => by rw [List.mem_singleton] at hy; rw [hy]; exact h⟩
theorem Short.take {xs : List Stay} (h : Short xs) (n : Nat) : Short (xs.take n) := fun x hx => h x (List.mem_of_mem_take hx)
theorem new0 {C CI : Addr} {E : XK} {σ : L2.St} {H : Hp} {Q : VK} (h : ∀ (p : Addr) (H' : Hp), Same H H' → H p = none → PartyAt C H' p [] → Q (.ref p) H') : StX.tMakeR C (spPNew C CI) E tNil σ H Q := by
  intro x0 d0 n1 n2 n3
  exact party_new (C := C) (CI := CI) (H := H) (xs := []) (ys := []) .nil (by intro x hx; cases hx) (Nat.zero_le _) (fun _ => h) (fun i hi => nomatch hi) x0 d0 n1 n2 n3
theorem new1 {C CI : Addr} {E : XK} {σ : L2.St} {H : Hp} {Q : VK} {i : Nat} {v : V} {x : Stay} (e : σ[i]? = some (some v)) (hv : StayV H v x) (hs : Short [x]) (h : Making C CI H [x] Q E) : StX.tMakeR C (spPNew C CI) E (tCons (tVar i) tNil) σ H Q :=
  ⟨v, e, party_new (C := C) (CI := CI) (H := H) (xs := [x]) (ys := [v]) (.cons hv .nil) hs (by show 1 ≤ sizeLine; decide) h.1 h.2⟩
end Sh1
set_option Elab.async false
set_option linter.all false
set_option maxRecDepth 100000
set_option maxHeartbeats 8000000
set_option autoImplicit false
/-! GoingObserver.__init__ where nothing is refused (its list of records is a new one), and what stands of an observer. -/
namespace Jo
open PySem L2 Sho NdefX Shg Sh1 Sh4 Go Dw
section
variable {P : Program} {w : World} {K : PySem.W.Frag} {mg : Str → Option Value} {base : Heap}
def spObsJ (C : Addr) : Sp := fun vs H Q _ => ∃ (x dx Cm Gm : Addr) (ws : List V) (cs : List (Str × Int)) (gs : List Int), vs = [.ref x, .ref Cm, .ref Gm] ∧ H x = some (.ins C dx []) ∧ H Cm = some (.tup ws) ∧ PairsAt H ws cs ∧ H Gm = some (.tup (gs.map V.int)) ∧ cs.length ≤ 10 ∧ gs.length ≤ 1000 ∧ (∀ c ∈ cs, c.1.length ≤ 1000) ∧ badC [] 0 cs = none ∧ badG cs 0 0 gs = none ∧
  ∀ (La : Addr) H', H La = none → La ≠ x → ObsJ C H' x La cs gs [] → (∀ b o, b ≠ x → H b = some o → H' b = some o) → Q .non H'
theorem ok_obsJ {f C CT CI CG fC fG : Addr} {fd fdC fdG : FuncData} (F : Fun K "__init__" "GoingObserver.__init__" sGoingObserver_Init f fd) (OC : ObsC K mg C f)
    (GC : FnOk P w K mg base (L2.CX P w) 3 fC fdC ["comings"] (spCC CT CI)) (mC : mg "_check_comings" = some (.ref fC)) (kC : PySem.W.keepIn K (.ref fC) = true) (bC : Binds K fdC ["comings"] [])
    (GG : FnOk P w K mg base (L2.CX P w) 3 fG fdG ["comings", "goings"] (spCG CG)) (mG : mg "_check_goings" = some (.ref fG)) (kG : PySem.W.keepIn K (.ref fG) = true) (bG : Binds K fdG ["comings", "goings"] []) :
    FnOk P w K mg base (L2.CX P w) 4 f fd ["self", "comings", "goings"] (spObsJ C) := by
  refine F.okX scObs (fun vs H Q E h => ?_) (fun cdv A outer s H vs Q E hr h => ?_)
  · obtain ⟨x, dx, Cm, Gm, ws, cs, gs, rfl, _⟩ := h
    rfl
  · obtain ⟨x, dx, Cm, Gm, ws, cs, gs, rfl, hx, hC, pC, hG, lc, lg, short, bc, bg, kOk⟩ := h
    have nd := scObs.nd
    have pass : Passes (L2.CX P w) (cxOf (L2.CX P w) P w K mg base ["self", "comings", "goings"] "GoingObserver.__init__" (defScope sGoingObserver_Init) f cdv A outer s H E) E := passes_call (takes_of rfl rfl rfl rfl) fun _ _ _ _ z => z
    refine ⟨_, (pss_cons (ps_expr (pe_call GC (hr.mono (by decide)) rfl mC kC bC .nil pass (pa_cons (pv 1) pa_nil)))
      (pss_cons (ps_expr (pe_call GG (hr.mono (by decide)) rfl mG kG bG .nil pass (pa_cons (pv 1) (pa_cons (pv 2) pa_nil))))
      (pss_cons (ps_fld (pv 0) (pv 1) rfl)
      (pss_cons (ps_fld (pv 0) (pv 2) rfl)
      (pss_one (ps_fld (pv 0) (pe_lst pa_nil) rfl)))))), ?_⟩
    refine ⟨_, rfl, Cm, ws, cs, rfl, hC, pC, by omega, short, (fun q => absurd lc (by omega)), fun c10 => ⟨fun bc' H1 s1 => ?_, fun i e => by rw [bc] at e; cases e⟩⟩
    refine ⟨_, rfl, _, rfl, Cm, Gm, ws, cs, gs, rfl, s1 _ _ hC, pair_mono (fun v c ⟨t, e, h⟩ => ⟨t, e, s1 _ _ h⟩) pC, s1 _ _ hG, by omega, lg, fun bg' H2 s2 => ?_, fun i e => by rw [bg] at e; cases e⟩
    have s02 := s1.trans s2
    have hx2 := s02 _ _ hx
    refine ⟨_, rfl, _, rfl, x, C, dx, _, rfl, hx2, OC.cl, OC.n1, by decide, ?_⟩
    refine ⟨_, rfl, _, rfl, x, C, dx, _, rfl, upd_same, OC.cl, OC.n2, by show 1 < 1000; decide, ?_⟩
    rw [upd_upd]
    refine ⟨Nat.zero_le _, fun La hLa => ⟨_, rfl, x, C, dx, [("_comings", .ref Cm), ("_goings", .ref Gm)], rfl, (same_upd hLa) _ _ upd_same, OC.cl, OC.n3, by show 2 < 1000; decide, ?_⟩⟩
    have nLx : La ≠ x := fun z => by rw [z, upd_same] at hLa; cases hLa
    have hLa2 : H2 La = none := by rw [upd_ne nLx] at hLa; exact hLa
    have hLa0 : H La = none := by
      cases e : H La with
      | none => rfl
      | some o => rw [s02 _ _ e] at hLa2; cases hLa2
    have other : ∀ b o, b ≠ x → H2 b = some o → (upd (upd (upd H2 x (.ins C dx (putF "_goings" (.ref Gm) (putF "_comings" (.ref Cm) [])))) La (.lst [])) x (.ins C dx (obF Cm Gm La))) b = some o := fun b o n e => by rw [upd_ne n, upd_ne (ne_of_none e hLa2), upd_ne n]; exact e
    have tups : ∀ b vs, H b = some (.tup vs) → (upd (upd (upd H2 x (.ins C dx (putF "_goings" (.ref Gm) (putF "_comings" (.ref Cm) [])))) La (.lst [])) x (.ins C dx (obF Cm Gm La))) b = some (.tup vs) := fun b vs e => other b _ (fun z => by rw [z, hx] at e; cases e) (s02 _ _ e)
    exact kOk La _ hLa0 nLx ⟨dx, Cm, Gm, ws, [], upd_same, tups _ _ hC, pair_mono (fun v c ⟨t, e, h⟩ => ⟨t, e, tups _ _ h⟩) pC, tups _ _ hG, by rw [upd_ne nLx]; exact upd_same, .nil⟩ fun b o n e => other b o n (s02 _ _ e)
/-- an observer is made: its object and its list are new -/
theorem make_obs {C fI : Addr} {H : Hp} {Cm Gm : Addr} {ws : List V} {cs : List (Str × Int)} {gs : List Int} {Q : V → Hp → Prop} {x dx : Addr} {E : XK} (hx : H x = none) (hdx : H dx = none) (ne : dx ≠ x) (hC : H Cm = some (.tup ws)) (pC : PairsAt H ws cs) (hG : H Gm = some (.tup (gs.map V.int))) (lc : cs.length ≤ 10) (lg : gs.length ≤ 1000) (short : ∀ c ∈ cs, c.1.length ≤ 1000) (bc : badC [] 0 cs = none) (bg : badG cs 0 0 gs = none)
    (k : ∀ (La : Addr) H', H La = none → Same H H' → ObsJ C H' x La cs gs [] → Q .non H') : spObsJ C [.ref x, .ref Cm, .ref Gm] (upd (upd H dx (.own x)) x (.ins C dx [])) Q E := by
  have same : Same H (upd (upd H dx (.own x)) x (.ins C dx [])) := fun b o e => by
    rw [upd_ne (ne_of_none e hx), upd_ne (ne_of_none e hdx)]
    exact e
  refine ⟨x, dx, Cm, Gm, ws, cs, gs, rfl, upd_same, same _ _ hC, pair_mono (fun v c ⟨t, e, h⟩ => ⟨t, e, same _ _ h⟩) pC, same _ _ hG, lc, lg, short, bc, bg, fun La H' h1 n1 O oth => ?_⟩
  have h0 : H La = none := by
    cases e : H La with
    | none => rfl
    | some o => rw [same _ _ e] at h1; cases h1
  exact k La H' h0 (fun b o e => oth b o (ne_of_none e hx) (same _ _ e)) O
end
section
variable {K : PySem.W.Frag} {T : List (Addr × Str)} {C CP l a : Addr} {ns : List Int} {H H' : Hp} {La : Addr} {gs : List Int}
/-- a list read elsewhere than at La, or one of the pinned -/
def Apart (K : PySem.W.Frag) (La a : Addr) (vs : List V) : Prop := La ≠ a ∨ ∃ (o : Obj) (its : Array Value) (n : Nat), K.lookup a = some o ∧ o.cls = .type "list" ∧ o.dict = none ∧ o.data = .seq its n ∧ its.size ≤ sizeLine ∧ Vals vs its.toList
theorem Apart.new {La a : Addr} {vs : List V} (h : SqL K H a vs) (n : H La = none) : Apart K La a vs := by
  rcases h with (h | ⟨o, h⟩) | h
  · exact .inl fun z => by rw [← z, n] at h; cases h
  · exact .inl fun z => by rw [← z, n] at h; cases h
  · exact .inr h
theorem Apart.upd {La a : Addr} {vs : List V} {o : HO} (p : Apart K La a vs) (h : SqL K H a vs) : SqL K (upd H La o) a vs := by
  rcases p with p | p
  · rcases h with (h | ⟨o, h⟩) | h
    · exact .inl (.inl (by rw [upd_ne (Ne.symm p)]; exact h))
    · exact .inl (.inr ⟨o, by rw [upd_ne (Ne.symm p)]; exact h⟩)
    · exact .inr h
  · exact .inr p
theorem tabs_upd {o : HO} {rv : List V} (t : LamX.Tabs T H) (h : H La = some (.lst rv)) : LamX.Tabs T (upd H La o) := fun tq q => by
  obtain ⟨qs, q1, q2, q3⟩ := t tq q
  have ne : ∀ {b : Addr} {u : HO}, H b = some u → (∀ zs, HO.lst zs ≠ u) → b ≠ La := fun h' n z => by
    rw [z, h] at h'
    exact n _ (Option.some.inj h')
  refine ⟨qs, by rw [upd_ne (ne q1 fun _ z => nomatch z)]; exact q1, q2, fun p' cv h' => ?_⟩
  obtain ⟨c, e1, e2⟩ := q3 p' cv h'
  exact ⟨c, e1, by rw [upd_ne (ne e2 fun _ z => nomatch z)]; exact e2⟩
theorem tabs_but {zs : List V} (t : LamX.Tabs T H) (h : H l = some (.lst zs)) (b : But l H H') : LamX.Tabs T H' := fun tq q => by
  obtain ⟨qs, q1, q2, q3⟩ := t tq q
  refine ⟨qs, b _ _ q1 (Dw.ne_at h q1 fun z => nomatch z), q2, fun p' cv h' => ?_⟩
  obtain ⟨c, e1, e2⟩ := q3 p' cv h'
  exact ⟨c, e1, b _ _ e2 (Dw.ne_at h e2 fun z => nomatch z)⟩
/-- an observer through a draw -/
theorem ObsJ.draw {x : Addr} {cs : List (Str × Int)} {rs : List Rec} {zs : List V} (h : ObsJ C H x La cs gs rs) (hl : H l = some (.lst zs)) (n : La ≠ l) (b : But l H H') : ObsJ C H' x La cs gs rs := by
  obtain ⟨dx, Cm, Gm, ws, rv, h1, h2, h3, h4, h5, h6⟩ := h
  have k : ∀ c vs, H c = some (.tup vs) → H' c = some (.tup vs) := fun c vs q => b _ _ q (Dw.ne_at hl q fun z => nomatch z)
  exact ⟨dx, Cm, Gm, ws, rv, b _ _ h1 (Dw.ne_at hl h1 fun z => nomatch z), k _ _ h2, pair_mono (fun _ _ ⟨t, q, h⟩ => ⟨t, q, k _ _ h⟩) h3, k _ _ h4, b _ _ h5 n, pair_mono (fun _ _ ⟨t, q, h⟩ => ⟨t, q, k _ _ h⟩) h6⟩
end
end Jo
set_option Elab.async false
set_option linter.all false
set_option maxRecDepth 100000
set_option maxHeartbeats 8000000
set_option autoImplicit false
/-! GoingObserver's methods with what they refuse. -/
namespace Jo
open PySem L2 Sho NdefX Shg Sh1 Sh4 Go PyProof.Rows
section
variable {P : Program} {w : World} {K : PySem.W.Frag} {mg : Str → Option Value} {base : Heap} {C fI : Addr} {T : List (Addr × Str)}
def spIndexQ (C CN : Addr) : Sp := fun vs H Q E => ∃ (x La : Addr) (i : Int) (cs : List (Str × Int)) (gs : List Int) (rs : List Rec), vs = [.ref x, .int i] ∧ ObsJ C H x La cs gs rs ∧ i.natAbs.log2 < 1920 ∧ ((0 ≤ i ∧ i < (gs.length : Nat)) → Q .non H) ∧ (¬ (0 ≤ i ∧ i < (gs.length : Nat)) → E (.ref CN) none H)
theorem ok_indexQ {f fW CN : Addr} {fd fdW : FuncData} (F : Fun K "_check_index" "GoingObserver._check_index" sGoingObserver_CheckIndex f fd) (B : Shg.Blt mg) (OC : ObsC K mg C fI) (EC : Sho.ErrO K mg "InvalidNumber" CN)
    (GW : FnOk P w K mg base CX0 1 fW fdW ["number", "low", "high"] Sh4.spIsWithin) (mW : mg "is_within" = some (.ref fW)) (kW : PySem.W.keepIn K (.ref fW) = true) (bW : Binds K fdW ["number", "low", "high"] []) :
    FnOk P w K mg base (L2.CX P w) 3 f fd ["self", "index"] (spIndexQ C CN) := by
  refine F.okX scIndex (fun vs H Q E h => ?_) (fun cdv A outer s H vs Q E hr h => ?_)
  · obtain ⟨x, La, i, cs, gs, rs, rfl, _⟩ := h
    rfl
  obtain ⟨x, La, i, cs, gs, rs, rfl, ⟨dx, Cm, Gm, ws, rv, hx, hC, pC, hG, hA, pR⟩, hl, kk, kBad⟩ := h
  refine ⟨_, pss_one (ps_if (pt_not (pt_val (pe_call GW (hr.mono (by decide)) rfl mW kW bW .nil pass0 (pa_cons (pv 1) (pa_cons pe_int (pa_cons (pe_op op_sub (pe_callB call_len_seq (by rfl) B.len PySem.boot_len (pa_cons (pe_fld (pv 0) rfl) pa_nil)) pe_int) pa_nil))))))
    (pss_one (ps_raise rfl (takes_of rfl rfl rfl rfl) (SkE.pmk_own1 PySem.F.excBase_ValueError EC.ex EC.gm EC.kp (raises_own EC.be EC.ty) (by rfl) (pe_joined (.cons pe_str (.cons (pe_fmt (pv 1)) .nil)))))) pss_nil), ?_⟩
  refine ⟨_, rfl, _, rfl, x, C, dx, _, _, rfl, hx, OC.cl, OC.n2, lk_g .., Gm, _, rfl, .inr (SqT.of hG), _, _, rfl, rfl, i, 0, _, rfl, ?_⟩
  by_cases c : 0 ≤ i ∧ i < (gs.length : Nat)
  · rw [show (decide (0 ≤ i) && decide (i ≤ (((gs.map V.int).length : Nat) : Int) - 1)) = true by rw [List.length_map, decide_eq_true c.1, decide_eq_true (by omega)]; rfl]
    exact ⟨_, rfl, iteF (kk c)⟩
  · rw [show (decide (0 ≤ i) && decide (i ≤ (((gs.map V.int).length : Nat) : Int) - 1)) = false by
      rw [List.length_map, Bool.and_eq_false_iff]
      by_cases c0 : 0 ≤ i
      · exact .inr (decide_eq_false (by omega))
      · exact .inl (decide_eq_false c0)]
    refine ⟨_, rfl, iteT ⟨_, rfl, ?_, _, rfl, .inr ⟨i, rfl, hl, _, rfl, ?_, kBad c⟩⟩⟩
    · exact Nat.le_trans (Sho.cat_le (n := 0) (m := 100) (by decide) (by decide +kernel)) (by decide)
    · exact Nat.le_trans (Sho.cat_le (n := 100) (m := 1921) (Sho.cat_le (n := 0) (m := 100) (by decide) (by decide +kernel)) (PyProof.Rows.int_text_len_1921 hl)) (by decide)
/-- accepted, or refused since no way is left -/
def Judged (C CC : Addr) (T : List (Addr × Str)) (H : Hp) (x La : Addr) (cs : List (Str × Int)) (gs : List Int) (rs : List Rec) (r : Rec) (Q : VK) (E : XK) : Prop :=
  ObsJ C H x La cs gs rs ∧ rs.length < 1000 ∧ Valid9 cs gs ∧ LamX.Tabs T H ∧
  (0 < ways cs gs (rs ++ [r]) → ∀ (H1 : Hp) (t : Addr) (rv : List V), Grows T H H1 → H1 La = some (.lst rv) → H1 t = some (.tup (recV r)) → Q (.int (ways cs gs (rs ++ [r]) : Nat)) (upd H1 La (.lst (rv ++ [.ref t])))) ∧
  (ways cs gs (rs ++ [r]) = 0 → ∀ H1, Grows T H H1 → E (.ref CC) none H1)
theorem judged_same {CC : Addr} {H H' : Hp} {x La : Addr} {cs : List (Str × Int)} {gs : List Int} {rs : List Rec} {r : Rec} {Q : VK} {E : XK} (h : Judged C CC T H x La cs gs rs r Q E) (s : Same H H') : Judged C CC T H' x La cs gs rs r Q E := by
  obtain ⟨O, l, va, hT, k, kb⟩ := h
  exact ⟨O.same s, l, va, LamX.Tabs.ext hT s, fun p H1 t rv g => k p H1 t rv ((same_grows s).trans g), fun z H1 g => kb z H1 ((same_grows s).trans g)⟩
def spAcceptQ (C CC : Addr) (T : List (Addr × Str)) : Sp := fun vs H Q E => ∃ (x La t : Addr) (cs : List (Str × Int)) (gs : List Int) (rs : List Rec) (r : Rec), vs = [.ref x, .ref t] ∧ H t = some (.tup (recV r)) ∧ Judged C CC T H x La cs gs rs r Q E
theorem ok_acceptQ {f fW CC : Addr} {fd fdW : FuncData} (F : Fun K "_accept" "GoingObserver._accept" sGoingObserver_Accept f fd) (OC : ObsC K mg C fI) (EC : Sho.ErrO K mg "Contradiction" CC)
    (GW : FnOk P w K mg base CX0 7 fW fdW ["self", "record"] (spWith C T)) (hW : Meth K C "_ways_with" fW) (bW : Binds K fdW ["self", "record"] []) :
    FnOk P w K mg base (L2.CX P w) 8 f fd ["self", "record"] (spAcceptQ C CC T) := by
  refine F.okX scAccept (fun vs H Q E h => ?_) (fun cdv A outer s H vs Q E hr h => ?_)
  · obtain ⟨x, La, t, cs, gs, rs, r, rfl, _⟩ := h
    rfl
  obtain ⟨x, La, t, cs, gs, rs, r, rfl, ht, O, lrs, va, hT, kk, kBad⟩ := h
  have nd := scAccept.nd
  refine ⟨_, pss_cons (ps_set (i := 2) nd rfl (Or.inl rfl) (pe_meth (pv 0) OC.cl hW GW hr bW .nil pass0 (pa_cons (pv 1) pa_nil)))
    (pss_cons (ps_if (pt_cmpR op_eq (pv 2) pe_int (nomark _)) (pss_one (ps_raise rfl (takes_of rfl rfl rfl rfl) (SkE.pmk_own1 PySem.F.excBase_ValueError EC.ex EC.gm EC.kp (raises_own EC.be EC.ty) (by rfl) pe_str))) pss_nil)
    (pss_cons (ps_expr (pe_bm PySem.F.plainAttrs_list PySem.F.slot_list_append PySem.F.type_list_append mt_append (pe_fld (pv 0) rfl) (pa_cons (pv 1) pa_nil)))
    (pss_one (ps_ret (pv 2))))), ?_⟩
  obtain ⟨dx, Cm, Gm, ws, rv, hx, hC, pC, hG, hA, pR⟩ := id O
  refine ⟨_, rfl, x, dx, _, rfl, hx, no_f _ _ _ (by decide +kernel) (by decide +kernel) (by decide +kernel), _, rfl, x, La, t, cs, gs, rs, r, rfl, O, ht, lrs, va, hT, fun H1 gr => ?_⟩
  refine name_at ⟨_, rfl, rfl, _, rfl, ?_⟩
  by_cases z : ways cs gs (rs ++ [r]) = 0
  · rw [z]
    exact iteT (kBad z H1 gr)
  rw [show decide (V.int (ways cs gs (rs ++ [r]) : Nat) = V.int 0) = false from decide_eq_false fun e => by injection e; omega]
  refine iteF ?_
  have hx1 := gr.ext _ _ hx fun _ z => nomatch z
  have hA1 := gr.ext _ _ hA fun _ z => nomatch z
  refine ⟨_, rfl, x, C, dx, _, _, rfl, hx1, OC.cl, OC.n3, lk_a .., .inl ⟨rfl, _, SqL.of hA1⟩, _, rfl, La, rv, _, rfl, rfl, hA1, ?_, _, rfl, kk (by omega) H1 t rv gr hA1 (gr.ext _ _ ht fun _ z => nomatch z)⟩
  have := Shg.pair_len pR
  have h2 : 2000 < sizeLine := by decide
  omega
def spSeeLiftQ (C CN CC : Addr) (T : List (Addr × Str)) : Sp := fun vs H Q E => ∃ (x La : Addr) (i n : Int) (cs : List (Str × Int)) (gs : List Int) (rs : List Rec), vs = [.ref x, .int i, .int n] ∧ ObsJ C H x La cs gs rs ∧ i.natAbs.log2 < 1920 ∧
  ((0 ≤ i ∧ i < (gs.length : Nat)) → Judged C CC T H x La cs gs rs (i, .lift n) Q E) ∧ (¬ (0 ≤ i ∧ i < (gs.length : Nat)) → E (.ref CN) none H)
theorem ok_seeLiftQ {f fX fA CN CC : Addr} {fd fdX fdA : FuncData} (F : Fun K "see_lift" "GoingObserver.see_lift" sGoingObserver_SeeLift f fd) (OC : ObsC K mg C fI)
    (GX : FnOk P w K mg base (L2.CX P w) 3 fX fdX ["self", "index"] (spIndexQ C CN)) (hX : Meth K C "_check_index" fX) (bX : Binds K fdX ["self", "index"] [])
    (GA : FnOk P w K mg base (L2.CX P w) 8 fA fdA ["self", "record"] (spAcceptQ C CC T)) (hA : Meth K C "_accept" fA) (bA : Binds K fdA ["self", "record"] []) :
    FnOk P w K mg base (L2.CX P w) 9 f fd ["self", "index", "count"] (spSeeLiftQ C CN CC T) := by
  refine F.okX scSeeLift (fun vs H Q E h => ?_) (fun cdv A outer s H vs Q E hr h => ?_)
  · obtain ⟨x, La, i, n, cs, gs, rs, rfl, _⟩ := h
    rfl
  obtain ⟨x, La, i, n, cs, gs, rs, rfl, O, hl, kk, kBad⟩ := h
  have pass : Passes (L2.CX P w) (cxOf (L2.CX P w) P w K mg base ["self", "index", "count"] "GoingObserver.see_lift" (defScope sGoingObserver_SeeLift) f cdv A outer s H E) E := passes_call (takes_of rfl rfl rfl rfl) fun _ _ _ _ z => z
  refine ⟨_, pss_cons (ps_expr (pe_meth (pv 0) OC.cl hX GX (hr.mono (by decide)) bX .nil pass (pa_cons (pv 1) pa_nil)))
    (pss_one (ps_ret (pe_meth (pv 0) OC.cl hA GA hr bA .nil pass (pa_cons (pe_tup (pa_cons pe_str (pa_cons (pv 1) (pa_cons (pv 2) pa_nil)))) pa_nil)))), ?_⟩
  obtain ⟨dx, Cm, Gm, ws, rv, hx, _⟩ := id O
  refine ⟨_, rfl, x, dx, _, rfl, hx, no_f _ _ _ (by decide +kernel) (by decide +kernel) (by decide +kernel), _, rfl, x, La, i, cs, gs, rs, rfl, O, hl, fun c => ?_, kBad⟩
  refine ⟨_, rfl, x, dx, _, rfl, hx, no_f _ _ _ (by decide +kernel) (by decide +kernel) (by decide +kernel), _, rfl, _, rfl, by show 3 ≤ sizeLine; decide, fun t ht => ?_⟩
  exact ⟨x, La, t, cs, gs, rs, (i, .lift n), rfl, upd_same, judged_same (kk c) (Shg.same_upd ht)⟩
def spSeeGuestQ (C CN CU CC : Addr) (T : List (Addr × Str)) : Sp := fun vs H Q E => ∃ (x La : Addr) (i : Int) (z : Str) (cs : List (Str × Int)) (gs : List Int) (rs : List Rec), vs = [.ref x, .int i, .str z] ∧ ObsJ C H x La cs gs rs ∧ i.natAbs.log2 < 1920 ∧ z.length ≤ 100000 ∧ cs.length ≤ 1000 ∧
  ((0 ≤ i ∧ i < (gs.length : Nat)) → z ∈ cs.map (fun c => c.1) → Judged C CC T H x La cs gs rs (i, .guest z) Q E) ∧
  ((0 ≤ i ∧ i < (gs.length : Nat)) → z ∉ cs.map (fun c => c.1) → ∀ (H' : Hp) (d : Addr), Same H H' → H' d = some (.xd [(("name" : Str), .str z)]) → E (.ref CU) (some d) H') ∧ (¬ (0 ≤ i ∧ i < (gs.length : Nat)) → E (.ref CN) none H)
theorem ok_seeGuestQ {f fX fA fN CN CC CU : Addr} {fd fdX fdA fdN : FuncData} (F : Fun K "see_guest" "GoingObserver.see_guest" sGoingObserver_SeeGuest f fd) (OC : ObsC K mg C fI) (EU : ErrC P K mg "UnknownGuest" "name" nfUnk CU)
    (GX : FnOk P w K mg base (L2.CX P w) 3 fX fdX ["self", "index"] (spIndexQ C CN)) (hX : Meth K C "_check_index" fX) (bX : Binds K fdX ["self", "index"] [])
    (GN : FnOk P w K mg base CX0 1 fN fdN ["self"] (spNamesJ C)) (hN : Meth K C "_names" fN) (bN : Binds K fdN ["self"] [])
    (GA : FnOk P w K mg base (L2.CX P w) 8 fA fdA ["self", "record"] (spAcceptQ C CC T)) (hA : Meth K C "_accept" fA) (bA : Binds K fdA ["self", "record"] []) :
    FnOk P w K mg base (L2.CX P w) 9 f fd ["self", "index", "name"] (spSeeGuestQ C CN CU CC T) := by
  refine F.okX scSeeGuest (fun vs H Q E h => ?_) (fun cdv A outer s H vs Q E hr h => ?_)
  · obtain ⟨x, La, i, z, cs, gs, rs, rfl, _⟩ := h
    rfl
  obtain ⟨x, La, i, z, cs, gs, rs, rfl, O, hl, hz, lc, kk, kU, kBad⟩ := h
  have pass : Passes (L2.CX P w) (cxOf (L2.CX P w) P w K mg base ["self", "index", "name"] "GoingObserver.see_guest" (defScope sGoingObserver_SeeGuest) f cdv A outer s H E) E := passes_call (takes_of rfl rfl rfl rfl) fun _ _ _ _ z => z
  refine ⟨_, pss_cons (ps_expr (pe_meth (pv 0) OC.cl hX GX (hr.mono (by decide)) bX .nil pass (pa_cons (pv 1) pa_nil)))
    (pss_cons (ps_if (pt_cmpR op_notIn_seq (pv 2) (pe_meth0 (pv 0) OC.cl hN GN (hr.mono (by decide)) bN .nil pass0) rfl) (pss_one (ps_raise rfl (takes_of rfl rfl rfl rfl) (pmk_unk (k := 0) EU (hr.mono (by decide)) passL (by rfl) (pk_cons (pv 2) pk_nil) rfl rfl rfl))) pss_nil)
    (pss_one (ps_ret (pe_meth (pv 0) OC.cl hA GA hr bA .nil pass (pa_cons (pe_tup (pa_cons pe_str (pa_cons (pv 1) (pa_cons (pv 2) pa_nil)))) pa_nil))))), ?_⟩
  obtain ⟨dx, Cm, Gm, ws, rv, hx, _⟩ := id O
  refine ⟨_, rfl, x, dx, _, rfl, hx, no_f _ _ _ (by decide +kernel) (by decide +kernel) (by decide +kernel), _, rfl, x, La, i, cs, gs, rs, rfl, O, hl, fun c => ?_, kBad⟩
  refine ⟨_, rfl, _, rfl, x, dx, _, rfl, hx, no_f _ _ _ (by decide +kernel) (by decide +kernel) (by decide +kernel), x, La, cs, gs, rs, rfl, O, lc, fun L H1 s1 _ e1 => ?_⟩
  refine ⟨L, _, rfl, .inl (SqL.of e1), rfl, flat_strs' _, _, rfl, ?_⟩
  have e : (if true = true then !inV (.str z) ((cs.map fun c => c.1).map V.str) else inV (.str z) ((cs.map fun c => c.1).map V.str)) = !decide (z ∈ cs.map fun c => c.1) := by
    rw [if_pos rfl, Go.inV_strs]
  rw [e]
  by_cases hm : z ∈ cs.map fun c => c.1
  · rw [decide_eq_true hm]
    refine iteF ?_
    have hx1 := s1 _ _ hx
    refine ⟨_, rfl, x, dx, _, rfl, hx1, no_f _ _ _ (by decide +kernel) (by decide +kernel) (by decide +kernel), _, rfl, _, rfl, by show 3 ≤ sizeLine; decide, fun t ht => ?_⟩
    exact ⟨x, La, t, cs, gs, rs, (i, .guest z), rfl, upd_same, judged_same (kk c hm) (s1.trans (Shg.same_upd ht))⟩
  · rw [decide_eq_false hm]
    exact iteT ⟨_, rfl, _, rfl, .inl ⟨z, rfl, hz⟩, fun d hd => kU c hm _ _ (s1.trans (Shg.same_upd hd)) upd_same⟩
def spPossibleQ (C CN : Addr) (T : List (Addr × Str)) : Sp := fun vs H Q E => ∃ (x La : Addr) (i : Int) (cs : List (Str × Int)) (gs : List Int) (rs : List Rec), vs = [.ref x, .int i] ∧ ObsJ C H x La cs gs rs ∧ i.natAbs.log2 < 1920 ∧ rs.length < 1000 ∧ Valid9 cs gs ∧ LamX.Tabs T H ∧
  ((0 ≤ i ∧ i < (gs.length : Nat)) → ∀ (H' : Hp) (L : Addr) (ys : List Str), Grows T H H' → H L = none → ys.Perm (cs.map fun c => c.1) → sortedS ys = true → H' L = some (.lst ((canGo cs gs rs i ys).map V.str)) → Q (.ref L) H') ∧ (¬ (0 ≤ i ∧ i < (gs.length : Nat)) → E (.ref CN) none H)
theorem ok_possibleQ {f fX fW fN CN : Addr} {fd fdX fdW fdN : FuncData} (F : Fun K "possible_guests" "GoingObserver.possible_guests" sGoingObserver_PossibleGuests f fd) (B : Shg.Blt mg) (OC : ObsC K mg C fI)
    (GX : FnOk P w K mg base (L2.CX P w) 3 fX fdX ["self", "index"] (spIndexQ C CN)) (hX : Meth K C "_check_index" fX) (bX : Binds K fdX ["self", "index"] [])
    (GN : FnOk P w K mg base CX0 1 fN fdN ["self"] (spNamesJ C)) (hN : Meth K C "_names" fN) (bN : Binds K fdN ["self"] [])
    (GW : FnOk P w K mg base CX0 7 fW fdW ["self", "record"] (spWith C T)) (hW : Meth K C "_ways_with" fW) (bW : Binds K fdW ["self", "record"] []) :
    FnOk P w K mg base (L2.CX P w) 8 f fd ["self", "index"] (spPossibleQ C CN T) := by
  refine F.okX scPossible (fun vs H Q E h => ?_) (fun cdv A outer s H vs Q E hr h => ?_)
  · obtain ⟨x, La, i, cs, gs, rs, rfl, _⟩ := h
    rfl
  obtain ⟨x, La, i, cs, gs, rs, rfl, O, hl, lrs, va, hT, kk, kBad⟩ := h
  have nd := scPossible.nd
  have pass : Passes (L2.CX P w) (cxOf (L2.CX P w) P w K mg base ["self", "index", "name"] "GoingObserver.possible_guests" (defScope sGoingObserver_PossibleGuests) f cdv A outer s H E) E := passes_call (takes_of rfl rfl rfl rfl) fun _ _ _ _ z => z
  refine ⟨_, pss_cons (ps_expr (pe_meth (pv 0) OC.cl hX GX (hr.mono (by decide)) bX .nil pass (pa_cons (pv 1) pa_nil)))
    (pss_one (ps_ret (pe_lc (own := [("name", 2)]) (g := gName 2) (tt := tTest (tOp (rI0 fun i j => .bl (decide (j < i))) (tMeth C "_ways_with" (spWith C T) [] (fun _ _ _ => False) (tVar 0) (tCons (tTup (tCons (tC (.str "guest")) (tCons (tVar 1) (tCons (tVar 2) tNil)))) tNil)) (tC (.int 0)))) (te := tVar 2) rfl nd (pi_list (pe_callB cr_sortedS (by rfl) B.sorted (by decide +kernel) (pa_cons (pe_meth0 (pv 0) OC.cl hN GN (hr.mono (by decide)) bN .nil pass0) pa_nil))) (blkOk_by (own := [("name", 2)]) (N := ["self", "index", "name"]) (sc := defScope sGoingObserver_PossibleGuests) (by decide +kernel))
    (fun _ _ _ _ _ => pg_name (i := 2) nd rfl (Or.inl rfl)) (fun _ _ _ _ _ => pts_one (pt_cmpR op_gt (pe_meth (pv 0) OC.cl hW GW hr bW .nil pass0 (pa_cons (pe_tup (pa_cons pe_str (pa_cons (pv 1) (pa_cons (pv 2) pa_nil)))) pa_nil)) pe_int (nomark _))) (fun _ _ _ _ _ => pv 2)))), ?_⟩
  obtain ⟨dx, Cm, Gm, ws, rv, hx, _⟩ := id O
  have few := va.few
  refine ⟨_, rfl, x, dx, _, rfl, hx, no_f _ _ _ (by decide +kernel) (by decide +kernel) (by decide +kernel), _, rfl, x, La, i, cs, gs, rs, rfl, O, hl, fun c => ?_, kBad⟩
  have kk := kk c
  refine ⟨_, rfl, x, dx, _, rfl, hx, no_f _ _ _ (by decide +kernel) (by decide +kernel) (by decide +kernel), x, La, cs, gs, rs, rfl, O, by omega, fun L H1 s1 hL e1 => ?_⟩
  refine ⟨L, _, rfl, SqL.of e1, by rw [List.length_map]; omega, fun ys p pm srt hp => ?_⟩
  have s2 := Shg.same_upd (o := .lst (ys.map V.str)) hp
  have ep : upd H1 p (.lst (ys.map V.str)) p = some (.lst (ys.map V.str)) := upd_same
  have s12 := s1.trans s2
  generalize upd H1 p (.lst (ys.map V.str)) = H2 at s2 ep s12 ⊢
  refine ⟨p, rfl, ⟨_, SqL.of ep⟩, fun D hD => ?_⟩
  have hD0 : H D = none := by
    cases e : H D with
    | none => rfl
    | some o => rw [s12 _ _ e] at hD; cases hD
  have lys : ys.length ≤ 10 := by
    rw [pm.length_eq, List.length_map]
    exact few
  refine loop_any (walk_list (K := K) (a := p) (xs := ys.map V.str)) (fun j H' => Grows T H2 H' ∧ H' D = some (.lst ((canGo cs gs rs i (ys.take j)).map V.str))) ⟨same_grows (Shg.same_upd hD), upd_same⟩ (fun j H' _ q => SqL.of (q.1.ext _ _ ep fun _ z => nomatch z)) (fun j y H5 H4 hj q yy => ?_) fun H4 q => ?_
  · obtain ⟨g4, e4⟩ := q
    obtain ⟨rfl, e2⟩ := yy
    rw [List.getElem?_map] at e2
    obtain ⟨z, hz, rfl⟩ := Option.map_eq_some_iff.mp e2
    refine ⟨rfl, ?_⟩
    have g04 := (same_grows (T := T) s12).trans g4
    have O4 := O.ext g04.ext
    obtain ⟨dx4, _, _, _, _, hx4, _⟩ := id O4
    refine ⟨_, rfl, x, dx4, _, rfl, hx4, no_f _ _ _ (by decide +kernel) (by decide +kernel) (by decide +kernel), _, rfl, _, rfl, by show 3 ≤ sizeLine; decide, fun t ht => ?_⟩
    have s5 := Shg.same_upd (o := .tup [.str "guest", .int i, .str z]) ht
    refine ⟨x, La, t, cs, gs, rs, (i, .guest z), rfl, O4.same s5, upd_same, lrs, va, LamX.Tabs.ext (g04.tab hT) s5, fun H6 g6 => ?_⟩
    have g46 := (same_grows s5).trans g6
    have e6 := g46.ext _ _ e4 fun _ z => nomatch z
    have g26 := g4.trans g46
    have tk : canGo cs gs rs i (ys.take (j + 1)) = canGo cs gs rs i (ys.take j) ++ if 0 < ways cs gs (rs ++ [(i, .guest z)]) then [z] else [] := by
      unfold canGo
      rw [List.take_succ, hz, List.filter_append]
      congr 1
      by_cases c : 0 < ways cs gs (rs ++ [(i, .guest z)])
      · simp [c]
      · simp [c]
    refine ⟨_, _, rfl, rfl, _, rfl, ?_⟩
    by_cases c : 0 < ways cs gs (rs ++ [(i, .guest z)])
    · rw [show decide ((0 : Int) < (ways cs gs (rs ++ [(i, .guest z)]) : Nat)) = true from decide_eq_true (by omega)]
      refine iteT ⟨_, rfl, _, e6, ?_, grows_lst hD g26 e6, ?_⟩
      · rw [List.length_map]
        refine Nat.lt_of_le_of_lt (List.length_filter_le _ _) ?_
        rw [List.length_take]
        have : 100 < sizeLine := by decide
        omega
      · rw [upd_same, tk, if_pos c, List.map_append]
        rfl
    · rw [show decide ((0 : Int) < (ways cs gs (rs ++ [(i, .guest z)]) : Nat)) = false from decide_eq_false (by omega)]
      refine iteF ⟨g26, ?_⟩
      rw [e6, tk, if_neg c, List.append_nil]
  · obtain ⟨g4, e4⟩ := q
    rw [List.length_map, List.take_length] at e4
    exact kk H4 D ys ((same_grows s12).trans g4) hD0 pm srt e4
end
end Jo
set_option Elab.async false
set_option linter.all false
set_option maxRecDepth 100000
set_option maxHeartbeats 400000
set_option autoImplicit false
/-! All ways of going, one by one, as a search finds them; numbers only. -/
namespace Jo
open PySem L2 Sho NdefX Shg Sh1 Go
abbrev Way := List (Str × Nat)
abbrev nmsW (w : Way) : List Str := w.map fun p => p.1
/-- who goes from a place of a pile, how many lie above -/
def onW (a : List Str) (j : Nat) : Str × Nat := (a.getD j "", a.length - 1 - j)
def allW : List (List Str) → List Str → List Way
  | [], _ => [[]]
  | c :: cs, a => ((List.range (a ++ c).length).map fun j => (allW cs ((a ++ c).eraseIdx j)).map fun w => onW (a ++ c) j :: w).flatten
def okP (p : Str × Nat) : Fc → Bool
  | .guest z => decide (p.1 = z)
  | .lift n => decide ((p.2 : Int) = n)
def okW : List (List Fc) → Way → Bool
  | [], _ => true
  | fs :: fss, p :: w => fs.all (okP p) && okW fss w
  | _ :: _, [] => false
theorem okF_P {ns : List Str} {j : Nat} (h : j < ns.length) (f : Fc) : okF ns j f = okP (onW ns j) f := by
  cases f with
  | guest z =>
    show decide (ns[j]? = some z) = decide (ns.getD j "" = z)
    rw [List.getD_eq_getElem?_getD, List.getElem?_eq_getElem h, Bool.eq_iff_iff, decide_eq_true_eq, decide_eq_true_eq]
    exact ⟨fun e => Option.some.inj e, fun e => congrArg some e⟩
  | lift n =>
    show decide ((ns.length : Int) - (j : Int) - 1 = n) = decide (((ns.length - 1 - j : Nat) : Int) = n)
    rw [show (ns.length : Int) - (j : Int) - 1 = ((ns.length - 1 - j : Nat) : Int) by omega]
theorem okAt_P {ns : List Str} {j : Nat} (h : j < ns.length) (fs : List Fc) : okAt fs ns j = fs.all (okP (onW ns j)) := by
  unfold okAt
  rw [Bool.eq_iff_iff, List.all_eq_true, List.all_eq_true]
  exact ⟨fun k f hf => by rw [← okF_P h]; exact k f hf, fun k f hf => by rw [okF_P h]; exact k f hf⟩
theorem comp_count : ∀ (st : List Step) (a : List Str), ((allW (st.map fun s => s.1) a).filter (okW (st.map fun s => s.2))).length = comp st a
  | [], a => rfl
  | s :: st, a => by
    show ((((List.range (a ++ s.1).length).map fun j => (allW (st.map fun s => s.1) ((a ++ s.1).eraseIdx j)).map fun w => onW (a ++ s.1) j :: w).flatten).filter (okW (s.2 :: st.map fun s => s.2))).length = ((List.range (a ++ s.1).length).map fun j => if okAt s.2 (a ++ s.1) j = true then comp st ((a ++ s.1).eraseIdx j) else 0).sum
    rw [List.filter_flatten, List.length_flatten, List.map_map, List.map_map]
    congr 1
    refine List.map_congr_left fun j hj => ?_
    have hj := List.mem_range.mp hj
    show (((allW (st.map fun s => s.1) ((a ++ s.1).eraseIdx j)).map fun w => onW (a ++ s.1) j :: w).filter (okW (s.2 :: st.map fun s => s.2))).length = _
    rw [List.filter_map, List.length_map, okAt_P hj]
    by_cases k : s.2.all (okP (onW (a ++ s.1) j)) = true
    · rw [if_pos k, ← comp_count st]
      congr 1
      refine List.filter_congr fun w _ => ?_
      show (s.2.all (okP (onW (a ++ s.1) j)) && okW _ w) = _
      rw [k, Bool.true_and]
    · rw [if_neg k, List.length_eq_zero_iff, List.filter_eq_nil_iff]
      intro w _ h
      have h : (s.2.all (okP (onW (a ++ s.1) j)) && okW (st.map fun s => s.2) w) = true := h
      rw [Bool.and_eq_true] at h
      exact k h.1
theorem of_lead : ∀ {st : List Step} {a zs b : List Str}, Lead st a zs b → ∃ w ∈ allW (st.map fun s => s.1) a, okW (st.map fun s => s.2) w = true ∧ nmsW w = zs
  | [], a, [], b, _ => ⟨[], List.mem_singleton.mpr rfl, rfl, rfl⟩
  | [], a, _ :: _, b, h => h.elim
  | _ :: _, a, [], b, h => h.elim
  | s :: st, a, z :: zs, b, h => by
    obtain ⟨j, h1, h2, h3⟩ := h
    obtain ⟨w, w1, w2, w3⟩ := of_lead h3
    have hj := at_lt h1
    refine ⟨onW (a ++ s.1) j :: w, List.mem_flatten.mpr ⟨_, List.mem_map.mpr ⟨j, List.mem_range.mpr hj, rfl⟩, List.mem_map.mpr ⟨w, w1, rfl⟩⟩, ?_, ?_⟩
    · show (s.2.all (okP (onW (a ++ s.1) j)) && okW _ w) = true
      rw [← okAt_P hj, h2, w2]
      rfl
    · show (a ++ s.1).getD j "" :: nmsW w = z :: zs
      rw [w3, List.getD_eq_getElem?_getD, h1]
      rfl
theorem allW_len : ∀ {cs : List (List Str)} {a : List Str} {w : Way}, w ∈ allW cs a → w.length = cs.length
  | [], a, w, h => by rw [List.mem_singleton.mp h]; rfl
  | c :: cs, a, w, h => by
    obtain ⟨l, h1, h2⟩ := List.mem_flatten.mp h
    obtain ⟨j, _, rfl⟩ := List.mem_map.mp h1
    obtain ⟨v, hv, rfl⟩ := List.mem_map.mp h2
    rw [List.length_cons, List.length_cons, allW_len hv]
/-- whether a way agrees with what was seen -/
def okRec (w : Way) (r : Rec) : Bool := match w[r.1.toNat]? with | some p => okP p r.2 | none => false
theorem okW_iff : ∀ {fss : List (List Fc)} {w : Way}, okW fss w = true ↔ ∀ (i : Nat) (fs : List Fc), fss[i]? = some fs → ∃ p, w[i]? = some p ∧ fs.all (okP p) = true
  | [], w => ⟨fun _ i fs h => (by rw [List.getElem?_nil] at h; cases h), fun _ => rfl⟩
  | fs :: fss, [] => ⟨fun h => (nomatch h), fun h => (by obtain ⟨p, h1, _⟩ := h 0 fs rfl; rw [List.getElem?_nil] at h1; cases h1)⟩
  | fs :: fss, p :: w => by
    have e : okW (fs :: fss) (p :: w) = (fs.all (okP p) && okW fss w) := rfl
    rw [e, Bool.and_eq_true, okW_iff]
    constructor
    · rintro ⟨h1, h2⟩ i fs' hf
      cases i with
      | zero =>
        rw [List.getElem?_cons_zero] at hf
        rw [← Option.some.inj hf]
        exact ⟨p, rfl, h1⟩
      | succ i =>
        rw [List.getElem?_cons_succ] at hf
        exact h2 i fs' hf
    · intro h
      refine ⟨?_, fun i fs' hf => h (i + 1) fs' hf⟩
      obtain ⟨q, h1, h2⟩ := h 0 fs rfl
      rw [List.getElem?_cons_zero] at h1
      rw [Option.some.inj h1]
      exact h2
theorem okW_recs {cs : List (Str × Int)} {gs : List Int} {rs : List Rec} {w : Way} (len : w.length = gs.length) (fit : ∀ r ∈ rs, 0 ≤ r.1 ∧ r.1 < (gs.length : Nat)) : okW ((steps cs gs rs).map fun s => s.2) w = rs.all (okRec w) := by
  have e : ((steps cs gs rs).map fun s => s.2) = (List.range gs.length).map fun i => seenOf ((i : Nat) : Int) rs := by
    unfold steps
    rw [List.map_map]
    rfl
  rw [Bool.eq_iff_iff, e, okW_iff, List.all_eq_true]
  constructor
  · intro h r hr
    obtain ⟨h0, h1⟩ := fit r hr
    obtain ⟨p, p1, p2⟩ := h r.1.toNat (seenOf ((r.1.toNat : Nat) : Int) rs) (by rw [List.getElem?_map, List.getElem?_range (by omega)]; rfl)
    unfold okRec
    rw [p1]
    refine List.all_eq_true.mp p2 _ (seen_mem.mpr ?_)
    rw [show (((r.1.toNat : Nat) : Int), r.2) = r by
      rw [Int.toNat_of_nonneg h0]]
    exact hr
  · intro h i fs hf
    rw [List.getElem?_map] at hf
    obtain ⟨k, hk, rfl⟩ := Option.map_eq_some_iff.mp hf
    obtain ⟨hk1, hk2⟩ := List.getElem?_eq_some_iff.mp hk
    rw [List.getElem_range] at hk2
    subst hk2
    rw [List.length_range] at hk1
    refine ⟨w[i]'(by omega), List.getElem?_eq_getElem (by omega), List.all_eq_true.mpr fun f hf => ?_⟩
    have := h _ (seen_mem.mp hf)
    unfold okRec at this
    rw [show ((((i : Nat) : Int), f).1.toNat) = i from Int.toNat_natCast i, List.getElem?_eq_getElem (by omega)] at this
    exact this
/-! ### the search, going by going -/
def pileW (cs : List (Str × Int)) (g : Int) (gone : List Str) : List Str := ((sb cs).filter fun c => decide (c.1 ∉ gone) && decide (c.2 < g)).map fun c => c.1
def moreW (cs : List (Str × Int)) (g : Int) (w : Way) : List Way := (List.range (pileW cs g (nmsW w)).length).map fun k => w ++ [onW (pileW cs g (nmsW w)) k]
def nextW (cs : List (Str × Int)) (ws : List Way) (g : Int) : List Way := (ws.map (moreW cs g)).flatten
def lawW (cs : List (Str × Int)) (gs : List Int) (ws : List Way) : List Way := gs.foldl (nextW cs) ws
def cames (cs : List (Str × Int)) : Int → List Int → List (List Str)
  | _, [] => []
  | b, g :: gs => came9 cs b g :: cames cs g gs
/-- who has gone came before b -/
def Early (cs : List (Str × Int)) (b : Int) (w : Way) : Prop := ∀ z ∈ nmsW w, ∀ c ∈ cs, c.1 = z → c.2 < b
theorem sb_nd {cs : List (Str × Int)} (nd : (cs.map fun c => c.1).Nodup) : ((sb cs).map fun c => c.1).Nodup := ((sb_perm cs).map fun c => c.1).nodup_iff.mpr nd
theorem uniqN {cs : List (Str × Int)} (nd : (cs.map fun c => c.1).Nodup) {c d : Str × Int} (hc : c ∈ cs) (hd : d ∈ cs) (e : c.1 = d.1) : c = d := by
  induction cs with
  | nil => cases hc
  | cons a cs ih =>
    rw [List.map_cons, List.nodup_cons] at nd
    rcases List.mem_cons.mp hc with e1 | h1
    · rcases List.mem_cons.mp hd with e2 | h2
      · rw [e1, e2]
      · exact absurd (List.mem_map.mpr ⟨d, h2, by rw [← e, e1]⟩) nd.1
    · rcases List.mem_cons.mp hd with e2 | h2
      · exact absurd (List.mem_map.mpr ⟨c, h1, by rw [e, e2]⟩) nd.1
      · exact ih nd.2 h1 h2
theorem pileW_join {cs : List (Str × Int)} {b g : Int} {w : Way} (hbg : b ≤ g) (ea : Early cs b w) : pileW cs b (nmsW w) ++ came9 cs b g = pileW cs g (nmsW w) := by
  unfold pileW came9
  have h := filter_split (fun c : Str × Int => c.2) hbg ((sb_sorted cs).filter fun c => decide (c.1 ∉ nmsW w))
  rw [List.filter_filter, List.filter_filter, List.filter_filter] at h
  rw [← List.map_append]
  congr 1
  have e1 : (sb cs).filter (fun c => decide (b ≤ c.2) && decide (c.2 < g)) = (sb cs).filter fun c => (decide (b ≤ c.2) && decide (c.2 < g)) && decide (c.1 ∉ nmsW w) := by
    refine List.filter_congr fun c hc => ?_
    have hm := (sb_perm cs).mem_iff.mp hc
    by_cases k : c.1 ∈ nmsW w
    · have := ea c.1 k c hm rfl
      rw [decide_eq_false (by omega : ¬ b ≤ c.2), Bool.false_and, Bool.false_and]
    · rw [decide_eq_true k, Bool.and_true]
  rw [e1]
  have sw : ∀ t : Int, ((sb cs).filter fun c => decide (c.1 ∉ nmsW w) && decide (c.2 < t)) = (sb cs).filter fun c => decide (c.2 < t) && decide (c.1 ∉ nmsW w) := fun t => List.filter_congr fun c _ => Bool.and_comm _ _
  rw [sw, sw]
  exact h.symm
theorem erase_filter : ∀ {l : List Str} {j : Nat} {z : Str}, l.Nodup → l[j]? = some z → l.eraseIdx j = l.filter fun y => decide (y ≠ z)
  | a :: l, 0, z, nd, h => by
    rw [List.getElem?_cons_zero] at h
    cases h
    rw [List.nodup_cons] at nd
    rw [List.eraseIdx_cons_zero, List.filter_cons_of_neg (by simp)]
    exact (List.filter_eq_self.mpr fun y hy => decide_eq_true (p := y ≠ a) fun e => nd.1 (by rw [← e]; exact hy)).symm
  | a :: l, j + 1, z, nd, h => by
    rw [List.getElem?_cons_succ] at h
    rw [List.nodup_cons] at nd
    rw [List.eraseIdx_cons_succ, List.filter_cons_of_pos (p := fun y => decide (y ≠ z)) (decide_eq_true (p := a ≠ z) fun e => nd.1 (by rw [e]; exact List.mem_of_getElem? h)), erase_filter nd.2 h]
theorem pileW_nd {cs : List (Str × Int)} (nd : (cs.map fun c => c.1).Nodup) (g : Int) (gone : List Str) : (pileW cs g gone).Nodup := by
  unfold pileW
  exact (sb_nd nd).sublist (List.filter_sublist.map _)
theorem pileW_erase {cs : List (Str × Int)} (nd : (cs.map fun c => c.1).Nodup) {g : Int} {gone : List Str} {j : Nat} {z : Str} (h : (pileW cs g gone)[j]? = some z) : (pileW cs g gone).eraseIdx j = pileW cs g (gone ++ [z]) := by
  rw [erase_filter (pileW_nd nd g gone) h]
  unfold pileW
  rw [List.filter_map, List.filter_filter]
  congr 1
  refine List.filter_congr fun c _ => ?_
  show (decide (c.1 ≠ z) && (decide (c.1 ∉ gone) && decide (c.2 < g))) = _
  rw [Bool.eq_iff_iff]
  simp only [Bool.and_eq_true, decide_eq_true_eq, List.mem_append, List.mem_singleton, not_or]
  exact ⟨fun ⟨a, b, c⟩ => ⟨⟨b, a⟩, c⟩, fun ⟨⟨b, a⟩, c⟩ => ⟨a, b, c⟩⟩
theorem pileW_mem {cs : List (Str × Int)} {g : Int} {gone : List Str} {z : Str} (h : z ∈ pileW cs g gone) : z ∉ gone ∧ ∃ c ∈ cs, c.1 = z ∧ c.2 < g := by
  unfold pileW at h
  obtain ⟨c, hc, rfl⟩ := List.mem_map.mp h
  obtain ⟨h1, h2⟩ := List.mem_filter.mp hc
  simp only [Bool.and_eq_true, decide_eq_true_eq] at h2
  exact ⟨h2.1, c, (sb_perm cs).mem_iff.mp h1, rfl, h2.2⟩
theorem early_more {cs : List (Str × Int)} (nd : (cs.map fun c => c.1).Nodup) {b g : Int} (hbg : b ≤ g) {w v : Way} (ea : Early cs b w) (h : v ∈ moreW cs g w) : Early cs g v := by
  obtain ⟨k, hk, rfl⟩ := List.mem_map.mp h
  have hk := List.mem_range.mp hk
  intro z hz c hc e
  have hz : z ∈ nmsW w ++ [(pileW cs g (nmsW w)).getD k ""] := by
    have q : nmsW (w ++ [onW (pileW cs g (nmsW w)) k]) = nmsW w ++ [(pileW cs g (nmsW w)).getD k ""] := by
      unfold nmsW
      rw [List.map_append]
      rfl
    rw [← q]
    exact hz
  rcases List.mem_append.mp hz with hz | hz
  · have := ea z hz c hc e
    omega
  · have hz : z = (pileW cs g (nmsW w)).getD k "" := List.mem_singleton.mp hz
    have hm : z ∈ pileW cs g (nmsW w) := by
      rw [hz, List.getD_eq_getElem?_getD, List.getElem?_eq_getElem hk]
      exact List.getElem_mem hk
    obtain ⟨_, d, hd, e2, lt⟩ := pileW_mem hm
    rw [uniqN nd hc hd (e.trans e2.symm)]
    exact lt
theorem flat_flat {α β : Type} (f : α → List β) : ∀ l : List (List α), (l.flatten.map f).flatten = (l.map fun x => (x.map f).flatten).flatten
  | [] => rfl
  | a :: l => by
    rw [List.flatten_cons, List.map_append, List.flatten_append, flat_flat f l, List.map_cons, List.flatten_cons]
theorem lawW_all {cs : List (Str × Int)} (nd : (cs.map fun c => c.1).Nodup) : ∀ (gs : List Int) (b : Int) (ws : List Way), (∀ w ∈ ws, Early cs b w) → (b :: gs).Pairwise (fun x y => x ≤ y) →
    lawW cs gs ws = (ws.map fun w => (allW (cames cs b gs) (pileW cs b (nmsW w))).map fun v => w ++ v).flatten
  | [], b, ws, ea, _ => by
    clear ea
    show ws = (ws.map fun w => ([[]] : List Way).map fun v => w ++ v).flatten
    have : (fun w : Way => ([[]] : List Way).map fun v => w ++ v) = fun w => [w] := funext fun w => by simp
    rw [this]
    clear this
    induction ws with
    | nil => rfl
    | cons w ws ih =>
      rw [List.map_cons, List.flatten_cons, ← ih]
      rfl
  | g :: gs, b, ws, ea, pw => by
    have pw' := List.pairwise_cons.mp pw
    have hbg : b ≤ g := pw'.1 g List.mem_cons_self
    have ea' : ∀ v ∈ nextW cs ws g, Early cs g v := fun v hv => by
      obtain ⟨l, h1, h2⟩ := List.mem_flatten.mp hv
      obtain ⟨w, hw, rfl⟩ := List.mem_map.mp h1
      exact early_more nd hbg (ea w hw) h2
    show lawW cs gs (nextW cs ws g) = _
    rw [lawW_all nd gs g _ ea' pw'.2]
    unfold nextW
    rw [flat_flat, List.map_map]
    congr 1
    refine List.map_congr_left fun w hw => ?_
    show (((moreW cs g w).map fun w => (allW (cames cs g gs) (pileW cs g (nmsW w))).map fun v => w ++ v).flatten) = (((List.range (pileW cs b (nmsW w) ++ came9 cs b g).length).map fun j => (allW (cames cs g gs) ((pileW cs b (nmsW w) ++ came9 cs b g).eraseIdx j)).map fun v => onW (pileW cs b (nmsW w) ++ came9 cs b g) j :: v).flatten).map fun v => w ++ v
    rw [pileW_join hbg (ea w hw)]
    unfold moreW
    rw [List.map_map, List.map_flatten, List.map_map]
    congr 1
    refine List.map_congr_left fun k hk => ?_
    have hk := List.mem_range.mp hk
    show ((allW (cames cs g gs) (pileW cs g (nmsW (w ++ [onW (pileW cs g (nmsW w)) k])))).map fun v => (w ++ [onW (pileW cs g (nmsW w)) k]) ++ v) = ((allW (cames cs g gs) ((pileW cs g (nmsW w)).eraseIdx k)).map fun v => onW (pileW cs g (nmsW w)) k :: v).map fun v => w ++ v
    rw [pileW_erase nd (z := (pileW cs g (nmsW w)).getD k "") (by rw [List.getD_eq_getElem?_getD, List.getElem?_eq_getElem hk]; rfl), List.map_map]
    have e : nmsW (w ++ [onW (pileW cs g (nmsW w)) k]) = nmsW w ++ [(pileW cs g (nmsW w)).getD k ""] := by
      unfold nmsW
      rw [List.map_append]
      rfl
    rw [e]
    refine List.map_congr_left fun v _ => ?_
    show (w ++ [onW (pileW cs g (nmsW w)) k]) ++ v = w ++ (onW (pileW cs g (nmsW w)) k :: v)
    rw [List.append_assoc]
    rfl
end Jo
set_option Elab.async false
set_option linter.all false
set_option maxRecDepth 100000
set_option maxHeartbeats 4000000
/-! set(list of texts), sorted(that set). -/
namespace Shg
open PySem PySem.Spec PyProof.Rows L2
/-- the text that an element is -/
def txE (e : Int × Value) : Str := match e.2 with | .str x _ => x | _ => ⟨#[]⟩
def TxtE (w : World) (e : Int × Value) : Prop := ∃ x tk, e.2 = Value.str x tk ∧ e.1 = hashStr w x
/-- the set of texts at a; it can be walked -/
def SetX (w : World) (hp : Heap) (a : Addr) (M : Str → Bool) (n : Nat) : Prop :=
  ∃ o es ep t, hp.get? a = some o ∧ o.ExactSet ∧ o.data = .set es ep t ∧ (∀ e ∈ es.toList, TxtE w e) ∧ (es.toList.map txE).Nodup ∧ (∀ k, M k = true ↔ k ∈ es.toList.map txE) ∧
    es.size < scanBound ∧ t.fits es.size = true ∧ es.size = n ∧ Ris t.place.toList ∧ (w.params.followText "set-order" = true ∨ t.led = true)
section
variable {P : Program} {w : World} {hp hp' : Heap} {a : Addr} {M : Str → Bool} {n : Nat}
theorem SetX.keep (R : SetX w hp a M n) (k : ∀ o, hp.get? a = some o → hp'.get? a = some o) : SetX w hp' a M n := by
  obtain ⟨o, es, ep, t, ho, q⟩ := R
  exact ⟨o, es, ep, t, k o ho, q⟩
theorem SetX.as {M' : Str → Bool} (R : SetX w hp a M n) (e : ∀ k, M' k = M k) : SetX w hp a M' n := by
  obtain rfl : M' = M := funext e
  exact R
theorem txt_elems {l : List (Int × Value)} (g : ∀ e ∈ l, TxtE w e) : ElemsOf (strKind P w) l := fun e he => by
  obtain ⟨x, tk, q1, q2⟩ := g e he
  exact ⟨⟨x, (by rw [q1]; exact strKind_is P w x tk), q2⟩, (by rw [q1]; rfl)⟩
theorem txt_is {e : Int × Value} (g : TxtE w e) (k : Str) : (strKind P w).is k e.2 = true ↔ txE e = k := by
  obtain ⟨x, tk, q1, _⟩ := g
  unfold txE
  rw [q1]
  constructor
  · intro h
    exact (strKind P w).inj (.str x tk) x k (strKind_is P w x tk) h
  · intro h
    have h : x = k := h
    rw [← h]
    exact strKind_is P w x tk
theorem txt_mem {l : List (Int × Value)} (g : ∀ e ∈ l, TxtE w e) (k : Str) : k ∈ l.map txE ↔ ∃ e ∈ l, (strKind P w).is k e.2 = true := by
  rw [List.mem_map]
  exact ⟨fun ⟨e, he, q⟩ => ⟨e, he, (txt_is (g e he) k).mpr q⟩, fun ⟨e, he, q⟩ => ⟨e, he, (txt_is (g e he) k).mp q⟩⟩
end
section
variable {P : Program} {w : World} {A : Around} {E : Value → Shared → Prop} {s : Shared} {a : Addr} {M : Str → Bool} {n : Nat}
theorem setX_tail {gw : Bool → Sem Unit} (free : ∀ (b : Bool) (s1 : Shared) (R : Unit → Shared → Prop), R () s1 → wpAny (model P w) A (gw b) R E s1)
    {o : Obj} {es es1 : Array (Int × Value)} {ep : Nat} {t t2 : SetTable} {M1 : Str → Bool} (ho : s.heap.get? a = some o) (hex : o.ExactSet) (hd : o.data = .set es ep t)
    (g1 : ∀ e ∈ es1.toList, TxtE w e) (nd1 : (es1.toList.map txE).Nodup) (mem1 : ∀ k, M1 k = true ↔ k ∈ es1.toList.map txE) (few : es1.size < scanBound) (fit : t2.fits es1.size = true) (rs : Ris t2.place.toList)
    (led : w.params.followText "set-order" = true ∨ t2.led = true) {dm : Bool} {R : Option Bool → Shared → Prop} (fin : ∀ hp, Heap.SameBut a s.heap hp → SetX w hp a M1 es1.size → R (some true) { s with heap := hp }) :
    wpAny (model P w) A (do
        storeSet a es1 t2
        if (!dm && t2.tooFull) = true then do
            gw (relayAll t2 es1 (SetTable.grown es1.size)).2.2
            storeSet a (relayAll t2 es1 (SetTable.grown es1.size)).1 (relayAll t2 es1 (SetTable.grown es1.size)).2.1
            pure (some true)
          else pure (some true)) R E s := by
  have at1 := L2.store_at (es' := es1) (t' := t2) ho hd
  have but1 := Heap.SameBut.update s.heap a (Obj.putSet es1 t2)
  refine wpAny_bind (wpAny_storeSet_of ho hd ?_ (fits_of_scanBound few))
  by_cases full : (!dm && t2.tooFull) = true
  · rw [if_pos full]
    have p1 := relayAll_perm t2 es1 (SetTable.grown es1.size)
    have p2 := relayAll_fits t2 es1 (SetTable.grown es1.size)
    have p3 := relayAll_ris t2 es1 (SetTable.grown es1.size)
    have p4 := relayAll_led t2 es1 (SetTable.grown es1.size)
    revert p1 p2 p3 p4
    generalize relayAll t2 es1 (SetTable.grown es1.size) = Z
    obtain ⟨es2, t3, gave⟩ := Z
    intro p1 p2 p3 p4
    dsimp only at p1 p2 p3 p4 ⊢
    have same : es2.size = es1.size := by rw [← Array.length_toList, p1.length_eq, Array.length_toList]
    have few2 : es2.size < scanBound := by rw [same]; exact few
    refine wpAny_bind (free _ _ _ (wpAny_bind (wpAny_storeSet_of at1 rfl ?_ (fits_of_scanBound few2))))
    have at2 := L2.store_at (es' := es2) (t' := t3) at1 rfl
    exact wpAny_pure (fin _ (but1.trans (Heap.SameBut.update _ a _)) ⟨_, es2, _, t3, at2, hex, rfl, fun e he => g1 e (p1.mem_iff.mp he), (p1.map txE).nodup_iff.mpr nd1, fun k => (mem1 k).trans (p1.map txE).mem_iff.symm, few2, p2, same, p3, led.imp id fun z => p4.trans z⟩)
  · rw [if_neg full]
    exact wpAny_pure (fin _ but1 ⟨_, es1, _, t2, at1, hex, rfl, g1, nd1, mem1, few, fit, rfl, rs, led⟩)
theorem setX_add {x : Str} {tk : Tok} {Q : Bool → Shared → Prop} (R : SetX w s.heap a M n) (room : n + 1 < scanBound)
    (fin : ∀ hp, Heap.SameBut a s.heap hp → SetX w hp a (fun j => M j || decide (j = x)) (if M x = true then n else n + 1) → Q (!M x) { s with heap := hp }) :
    wpAny (model P w) A (setAddHashed a (.str x tk) ((strKind P w).hash x)) Q E s := by
  obtain ⟨o, es, ep, t, ho, hex, hd, g, nd, mem, few, fit, size, rs, led⟩ := R
  have is : (strKind P w).is x (.str x tk) = true := strKind_is P w x tk
  have scan : (Value.str x tk).scannable = true := rfl
  have el : ElemsOf (strKind P w) es.toList := txt_elems g
  unfold setAddHashed setAddHashedIn
  refine wpAny_holding (wpAny_bind (wpAny_setState_of ho hd fit ?_))
  dsimp only
  rw [byScan_of scan few el]
  simp only [↓reduceIte]
  unfold setAddByScan
  refine wpAny_bind (wpAny_bind (wpAny_rule (wpAny_bind (wpAny_setScan_of is ho hd fit el ?_))))
  cases found : List.findIdx? (fun e => (strKind P w).is x e.2) es.toList with
  | some j =>
    dsimp only
    obtain ⟨hj, pj, _⟩ := List.findIdx?_eq_some_iff_getElem.mp found
    have inM : M x = true := (mem x).mpr ((txt_mem (P := P) g x).mpr ⟨es.toList[j], List.getElem_mem hj, pj⟩)
    refine wpAny_pure (wpAny_pure ?_)
    have q := fin s.heap (Heap.SameBut.refl a s.heap) ⟨o, es, ep, t, ho, hex, hd, g, nd, fun i => (by
      rw [Bool.or_eq_true, decide_eq_true_eq, ← mem i]
      exact ⟨fun z => z.elim id fun e => e ▸ inM, .inl⟩), few, fit, (by rw [if_pos inM]; exact size), rs, led⟩
    rw [inM] at q
    exact q
  | none =>
    dsimp only
    have notIn : x ∉ es.toList.map txE := fun z => by
      obtain ⟨e, he, q⟩ := (txt_mem (P := P) g x).mp z
      have no := List.findIdx?_eq_none_iff.mp found e he
      rw [q] at no
      cases no
    have notM : M x = false := Bool.eq_false_iff.mpr fun q => notIn ((mem x).mp q)
    have free : ∀ (b : Bool) {s1 : Shared} {R : Unit → Shared → Prop}, R () s1 → wpAny (model P w) A (match b with | true => rule "set.scan.the-table-gave-way" | false => pure ()) R E s1 :=
      fun b s1 R q => by cases b <;> first | exact wpAny_pure q | exact wpAny_rule q
    have p1 := layNew_perm t es ((strKind P w).hash x) (.str x tk)
    have p2 := layNew_fits t es ((strKind P w).hash x) (.str x tk)
    have p3 := layNew_ris t es ((strKind P w).hash x) (.str x tk) rs
    have p4 := layNew_led t es ((strKind P w).hash x) (.str x tk)
    revert p1 p2 p3 p4
    generalize layNew t es ((strKind P w).hash x) (.str x tk) = Z
    obtain ⟨es1, t1, dm, gave⟩ := Z
    intro p1 p2 p3 p4
    dsimp only at p1 p2 p3 p4 ⊢
    rw [Array.toList_push] at p1
    have pe : es1.toList.Perm (((strKind P w).hash x, Value.str x tk) :: es.toList) := p1.trans (List.perm_append_singleton _ _)
    have px : (es1.toList.map txE).Perm (x :: es.toList.map txE) := pe.map txE
    have g1 : ∀ e ∈ es1.toList, TxtE w e := fun e he => (List.mem_cons.mp (pe.mem_iff.mp he)).elim (fun z => by rw [z]; exact ⟨x, tk, rfl, rfl⟩) (g e)
    have nd1 : (es1.toList.map txE).Nodup := px.nodup_iff.mpr (List.nodup_cons.mpr ⟨notIn, nd⟩)
    have mem1 : ∀ i, (M i || decide (i = x)) = true ↔ i ∈ es1.toList.map txE := fun i => by
      rw [Bool.or_eq_true, decide_eq_true_eq, mem i, px.mem_iff, List.mem_cons]
      exact Or.comm
    have size1 : es1.size = n + 1 := by rw [← Array.length_toList, pe.length_eq, List.length_cons, Array.length_toList, size]
    have few1 : es1.size < scanBound := by rw [size1]; exact room
    have led1 : w.params.followText "set-order" = true ∨ t1.led = true := led.imp id fun z => p4.trans z
    have last : ∀ hp, Heap.SameBut a s.heap hp → SetX w hp a (fun j => M j || decide (j = x)) es1.size → Q true { s with heap := hp } := fun hp but r => by
      have q := fin hp but
      rw [notM] at q
      rw [size1] at r
      exact q r
    refine wpAny_bind (free _ ?_)
    split
    · refine wpAny_bind ?_
      rw [hashByValue_scannable 8 scan]
      refine wpAny_pure (setX_tail ?_ ho hex hd g1 nd1 mem1 few1 ?_ ?_ ?_ ?_)
      · exact fun b s1 R q => by cases b <;> first | exact wpAny_pure q | exact wpAny_rule q
      · first | (split <;> first | exact p2 | exact SetTable.fits_plain_off p2) | exact p2
      · first | (split <;> exact p3) | exact p3
      · first | (split <;> exact led1) | exact led1
      · exact fun hp but r => wpAny_pure (last hp but r)
    · refine wpAny_bind (wpAny_pure ?_)
      simp only [↓reduceIte]
      exact setX_tail (fun b s1 R q => by cases b <;> first | exact wpAny_pure q | exact wpAny_rule q) ho hex hd g1 nd1 mem1 few1 p2 p3 led1 fun hp but r => wpAny_pure (last hp but r)
end
theorem setX_none {w : World} {hp : Heap} {a : Addr} {zs : List Str} (ho : hp.get? a = some { cls := .type "set", dict := none, data := .set #[] 0 (.fresh 0 0 (!w.params.followText "set-order")) }) : SetX w hp a (fun j => decide (j ∈ zs.take 0)) 0 := by
  refine ⟨_, #[], 0, _, ho, ⟨rfl, rfl, rfl⟩, rfl, fun e he => (by simp at he), (by simp), fun k => (by simp), (by decide), (by rfl), rfl, .nil, ?_⟩
  cases w.params.followText "set-order"
  · exact .inr rfl
  · exact .inl rfl
abbrev nset (w : World) : Obj := { cls := .type "set", dict := none, data := .set #[] 0 (.fresh 0 0 (!w.params.followText "set-order")) }
theorem txt_at : ∀ {vs : List Value} {zs : List Str}, StrsAre vs zs → ∀ (i : Nat) (v : Value), vs[i]? = some v → ∃ k t, zs[i]? = some k ∧ v = .str k t
  | _, _, .nil, i, v, h => by rw [List.getElem?_nil] at h; cases h
  | _, _, .cons y t r, 0, v, h => ⟨y, t, rfl, (Option.some.inj h).symm⟩
  | _, _, .cons y t r, i + 1, v, h => txt_at r i v h
section
variable {P : Program} {w : World} {A : Around} {E : Value → Shared → Prop} {s : Shared}
theorem set_update_txts {I : Addr} {fp wr : List Addr} {G : Array GenState → Array GenState → Prop} {n : Nat} {Pv : Nat → Value → Prop} {St : Nat → Shared → Prop} {R : Result → Shared → Prop}
    (W : WalksS P w A.in1 I fp wr G n Pv St) (S : Addr) (out : S ∉ fp) (zs : List Str) (len : n = zs.length) (few : zs.length + 1 < scanBound) (each : ∀ i v, Pv i v → ∃ k t, zs[i]? = some k ∧ v = .str k t) :
    ∀ (m i : Nat) (s : Shared), n - i = m → i ≤ n → St i s → (∃ c, c ≤ i ∧ SetX w s.heap S (fun j => decide (j ∈ zs.take i)) c) →
      (∀ s' c, Moved (S :: wr) G s s' → c ≤ n → SetX w s'.heap S (fun j => decide (j ∈ zs)) c → R (.ok (.ret .none)) s') →
      codeAny (model P w) A (.builtin "set.update.loop" ⟨[.ref S, .ref I], []⟩) R s := by
  have notWr : S ∉ wr := fun h => out (W.sub _ h)
  have more : ∀ b ∈ wr, b ∈ S :: wr := fun b hb => List.mem_cons_of_mem _ hb
  intro m
  induction m with
  | zero =>
    intro i s e hi hst ⟨c, hc, hS⟩ fin
    obtain rfl : i = n := by omega
    refine codeAny_builtin F.entry_set_update_loop ?_
    rw [Around.under_plainId F.plain_set_update_loop _]
    show wpAny _ A.in1 (pyNext (.ref I) >>= _) _ _ s
    refine wpAny_bind (W.done s _ _ hst fun s' hm => ?_)
    rw [List.take_of_length_le (by omega)] at hS
    exact wpAny_pure (fin s' c (hm.mono more) hc (hS.keep fun o e => hm.heap S o notWr e))
  | succ m ih =>
    intro i s e hi hst ⟨c, hc, hS⟩ fin
    have lt : i < n := by omega
    refine codeAny_builtin F.entry_set_update_loop ?_
    rw [Around.under_plainId F.plain_set_update_loop _]
    show wpAny _ A.in1 (pyNext (.ref I) >>= _) _ _ s
    refine wpAny_bind (W.item i s _ _ lt hst fun v s1 hP st1 mv => ?_)
    obtain ⟨z, t, hz, rfl⟩ := each i v hP
    have hS1 : SetX w s1.heap S (fun j => decide (j ∈ zs.take i)) c := hS.keep fun o e => mv.heap S o notWr e
    show wpAny _ A.in1 (holding [Value.str z t] (setAdd S (.str z t)) >>= _) _ _ s1
    refine wpAny_bind (wpAny_holding ?_)
    unfold setAdd
    refine wpAny_holding (wpAny_bind ((strKind P w).pyHash (k := z) (strKind_is _ _ _ _) ?_))
    refine setX_add (s := { s1 with toks := s1.toks + 1 }) hS1 (by omega) fun hp but hS2 => ?_
    have hS3 : SetX w hp S (fun j => decide (j ∈ zs.take (i + 1))) (if decide (z ∈ zs.take i) = true then c else c + 1) := hS2.as fun j => by
      rw [List.take_add_one, hz]
      simp [List.mem_append]
    have c3 : (if decide (z ∈ zs.take i) = true then c else c + 1) ≤ i + 1 := by split <;> omega
    refine wpAny_pure ⟨plainId_quiet F.plain_set_update_loop _, ih (i + 1) _ (by omega) lt (W.frame _ s1 _ _ st1 (Nat.le_succ _) fun b hb o e => ?_) ⟨_, c3, hS3⟩ fun s2 c2 mv2 le2 hS4 => ?_⟩
    · exact (but.2 b (fun q : b = S => out (q ▸ hb))).trans e
    · exact fin s2 c2 (Moved.trans W.gtrans ((mv.mono more).then_heap (Nat.le_succ _) fun b o hb e => (but.2 b fun q : b = S => hb (by rw [q]; exact List.mem_cons_self)).trans e) mv2) le2 hS4
set_option maxHeartbeats 3200000 in
theorem set_of_txts {b : Addr} {vals : Array Value} (zs : List Str) {G : Value → Shared → Prop} (nh : A.handled = none) (lst : s.heap.IsList b vals) (are : StrsAre vals.toList zs) (few : zs.length + 1 < scanBound)
    (got : ∀ (hp : Heap) (t n : Nat), SetX w hp s.heap.objs.size (fun j => decide (j ∈ zs)) n → n ≤ zs.length → (∀ a o, s.heap.get? a = some o → hp.get? a = some o) → G (.ref s.heap.objs.size) { s with heap := hp, toks := t }) :
    wpAny (model P w) A (call (.type "set") [.ref b]) G E s := by
  have len : vals.size = zs.length := (Array.length_toList (xs := vals)).symm.trans (StrsAre.length are)
  obtain ⟨c0, tl0, mro0⟩ := F.called_set.mro
  have q1 := F.called_set.made
  have q2 := F.called_set.sub
  have q3 := F.called_set.notType
  have q4 := F.called_set.canCreate
  have q5 := F.typeCall_set_1 (.ref b)
  refine wpAny_call (codeAny_of_tree (wpAny_pure ⟨Code.quiet_builtin _ (by decide +kernel), codeAny_builtin F.entry_type_call ?_⟩))
  rw [Around.under_plain (weight_type_call_type "set" [.ref b] []) rfl]
  repeat (any_goals (first | assumption | wp_step))
  refine codeAny_mono (code_set_led1 (.ref b) (E := E) (Q₁ := fun x s1 => x = .ref s.heap.objs.size ∧ s1 = { s with heap := s.heap.push (nset w) }) ⟨rfl, rfl⟩) fun r s1 hr => ?_
  rcases r with e | fl
  · exact hr
  cases fl with
  | ret x =>
    obtain ⟨rfl, rfl⟩ := hr
    have there : (s.heap.push (nset w)).get? s.heap.objs.size = some (nset w) := Heap.get?_push_size _ rfl
    have isset : Shared.TypeIs { s with heap := s.heap.push (nset w) } (.ref s.heap.objs.size) "set" := ⟨_, there, rfl⟩
    have i1 := F.called_set.init.lookup
    have i2 := F.called_set.init.bind (.ref s.heap.objs.size)
    repeat (any_goals (first | assumption | wp_step))
    refine codeAny_mono (codeAny_call_builtin (R := wants (fun r s2 => r = .none ∧ ∃ hp t n, s2 = { s with heap := hp, toks := t } ∧ SetX w hp s.heap.objs.size (fun j => decide (j ∈ zs)) n ∧ n ≤ zs.length ∧ (∀ a o, s.heap.get? a = some o → hp.get? a = some o)) E)
      F.called_set.init.plain F.entry_set_init (check_set_init_1 isset ?_)) fun r2 s2 hr2 => ?_
    · obtain ⟨ob, hob, cl, nb, dt⟩ := lst
      obtain ⟨ob1, ob2, ob3, ob4⟩ := ob
      simp only at cl dt
      subst cl dt
      have hob' : (s.heap.push (nset w)).get? b = some { cls := .type "list", dict := ob2, data := .seq vals nb, slots := ob4 } := Heap.get?_push_of_some _ hob
      have n1 := F.sub_list_set
      have n2 := F.sub_list_frozenset
      have n3 : (Value.type "list" == Value.type "dict") = false := by decide
      have lst' : (s.heap.push (nset w)).IsList b vals := ⟨_, hob', rfl, nb, rfl⟩
      unfold Builtin.«set.__init__» noKeywords Builtin.Frozenset.updateFrom
      generalize hit : pyIter = IT
      wp_walk
      subst hit
      refine wpAny_pyIter_list lst' (wpAny_bind (wpAny_runValue ?_))
      have old : b < s.heap.objs.size := Heap.lt_size hob
      have sz : (s.heap.push (nset w)).objs.size = s.heap.objs.size + 1 := Heap.size_push ..
      have nh3 : A.in1.in1.in1.handled = none := by simp [nh]
      have ne1 : b ≠ (s.heap.push (nset w)).objs.size := by
        rw [sz]
        exact Nat.ne_of_lt (Nat.lt_succ_of_lt old)
      have ne2 : s.heap.objs.size ∉ [(s.heap.push (nset w)).objs.size, b] := by
        rw [sz]
        simp only [List.mem_cons, List.not_mem_nil, or_false, not_or]
        exact ⟨Nat.ne_of_lt (Nat.lt_succ_self _), Nat.ne_of_gt old⟩
      have each : ∀ (i : Nat) (v : Value), vals[i]? = some v → ∃ k t, zs[i]? = some k ∧ v = .str k t := fun i v hv => by
        have hv' : vals.toList[i]? = some v := (Array.getElem?_toList ..).trans hv
        exact txt_at are i v hv'
      refine set_update_txts ((Walks.list nh3 _ b ne1 vals).toS) s.heap.objs.size ne2 zs len few each (vals.size - 0) 0 _ (by omega) (Nat.zero_le _) ⟨⟨_, Heap.get?_push_size _ rfl, rfl, rfl⟩, (lst'.push _)⟩ ⟨0, Nat.le_refl 0, setX_none (Heap.get?_push_of_some _ there)⟩ fun s3 n mv le R => ?_
      obtain ⟨hp, g3, d3, t3, o3⟩ := s3
      obtain rfl : g3 = s.gens := mv.gens
      obtain rfl : d3 = s.drawn := mv.drawn
      obtain rfl : o3 = s.os := mv.os
      refine wpAny_pure (wpAny_pure ⟨rfl, hp, t3, n, rfl, R, len ▸ le, fun a o e => ?_⟩)
      have la : a < s.heap.objs.size := Heap.lt_size e
      refine mv.heap a o ?_ (Heap.get?_push_of_some _ (Heap.get?_push_of_some _ e))
      rw [sz]
      simp only [List.mem_cons, List.not_mem_nil, or_false, not_or]
      exact ⟨Nat.ne_of_lt la, Nat.ne_of_lt (Nat.lt_succ_of_lt la)⟩
    · rcases r2 with e | f2
      · exact hr2
      cases f2 with
      | ret r =>
        obtain ⟨rfl, hp, t, n, rfl, R, le, kp⟩ := hr2
        repeat (any_goals (first | assumption | wp_step))
        exact got _ _ _ R le kp
      | _ => exact hr2.elim
  | _ => exact hr.elim
theorem txts_of : ∀ (l : List Value), (∀ v ∈ l, ∃ x tk, v = Value.str x tk) → StrsAre l (l.map strOf)
  | [], _ => .nil
  | v :: l, h => by
    obtain ⟨x, tk, rfl⟩ := h v List.mem_cons_self
    exact .cons x tk (txts_of l fun u hu => h u (List.mem_cons_of_mem _ hu))
theorem sorted_setX {a : Addr} {M : Str → Bool} {n : Nat} {Q : Value → Shared → Prop} (R : SetX w s.heap a M n) (hd0 : A.handled = none)
    (fin : ∀ s' p (out : Array Value) (c : Nat) (ks : List Str), (∀ b o, s.heap.get? b = some o → s'.heap.get? b = some o) → s'.gens = s.gens → s'.os = s.os → s.heap.objs.size ≤ p →
      s'.heap.get? p = some (seqObj "list" out c) → StrsAre out.toList ks → sortedS ks = true → ks.Nodup → (∀ k, k ∈ ks ↔ M k = true) → ks.length = n → Q (.ref p) s') :
    wpAny (model P w) A (call (.builtin "sorted") [.ref a]) Q E s := by
  obtain ⟨o, es, ep, t, ho, hex, hd, g, nd, mem, few, fit, size, rs, led⟩ := R
  refine Calls.call_function_entry kind_sorted plain_sorted entry_sorted (args_sorted1 _) ?_
  unfold Builtin.«sorted»
  refine wpAny_bind (m := checkCount "sorted" 1 1 _) (wpAny_pure (wpAny_bind (collect_set (A := A.in1) hd0 ⟨o, ho, hex.1, hd⟩ fit few rs led fun s1 us kept sz gens os perm => ?_)))
  have len : us.length = n := (perm.length_eq.trans (List.length_map ..)).trans ((Array.length_toList).trans size)
  have are : StrsAre us (us.map strOf) := txts_of us fun v hv => by
    obtain ⟨e, he, q⟩ := List.mem_map.mp (perm.mem_iff.mp hv)
    obtain ⟨x, tk, h1, _⟩ := g e he
    exact ⟨x, tk, q.symm.trans h1⟩
  have keys : (us.map strOf).Perm (es.toList.map txE) := by
    have q := perm.map strOf
    rw [List.map_map] at q
    exact q
  have line : us.length ≤ sizeLine := by
    rw [len, ← size, sizeLine_eq]
    have : scanBound = 4096 := rfl
    omega
  refine wpAny_bind (wpAny_newList ?_ line)
  have new : (s1.heap.push (seqObj "list" us.toArray 0)).get? s1.heap.objs.size = some (seqObj "list" us.toArray 0) := Heap.get?_push_size _ rfl
  refine wpAny_bind (wpAny_holding (wpAny_call_entry slot_list_sort ⟨_, new, rfl⟩ entry_list_sort (list_sort_treeKAny strKind_oneLt new are.keysOf (fun v1 v2 rest e => keyKind_strs (by rw [← e]; exact are)) line fun st h1 h2 => ⟨_, rfl, ?_⟩) (args_list_sort _)))
  obtain ⟨ks, k1, k2, k3⟩ := sorted_out_str are h1 h2
  obtain ⟨c, hc⟩ := sortedHeap_at (vs := us) (out := (arrOf st).map (·.2)) new
  have all : ks.Perm (es.toList.map txE) := k2.trans keys
  refine wpAny_pure ⟨_, rfl, fin _ s1.heap.objs.size _ c ks (fun b u e => ?_) gens os sz hc k1 k3 (all.nodup_iff.mpr nd) (fun k => by rw [all.mem_iff, ← mem k]) ?_⟩
  · have q := kept b u e
    have lt := Heap.lt_size q
    show (sortedHeap (s1.heap.push (seqObj "list" us.toArray 0)) s1.heap.objs.size us _).get? b = some u
    rw [sortedHeap_old (Nat.ne_of_lt lt) (Nat.lt_of_lt_of_le lt (by rw [Heap.size_push]; exact Nat.le_succ _))]
    exact Heap.get?_push_of_some _ q
  · rw [all.length_eq, List.length_map, Array.length_toList]
    exact size
end
/-! ### as rules -/
def SetXO (w : World) (a : Addr) (M : Str → Bool) (n : Nat) : HO := .ext fun h => SetX w h a M n
theorem setXO_new {w : World} {P : Program} {H : Hp} {h : Heap} {a : Addr} {M : Str → Bool} {n : Nat} (R : SetX w h a M n) : ObjOk P w H h a (SetXO w a M n) := by
  have ⟨o, _, _, _, ho, _⟩ := R
  exact ⟨R, ⟨o, ho⟩, fun h1 h2 p k => SetX.keep p k⟩
/-- set(list of texts): a new set of them -/
def rSetS (K : PySem.W.Frag) (w : World) : List V → Hp → VK → Prop := fun vs H Q => ∃ (a : Addr) (xs : List Str), vs = [.ref a] ∧ SqL K H a (xs.map V.str) ∧ xs.length ≤ 4000 ∧
  ∀ (p : Addr) (n : Nat), H p = none → n ≤ xs.length → Q (.ref p) (upd H p (SetXO w p (fun j => decide (j ∈ xs)) n))
theorem cr_setS {X : Cx} (hc : X.calm = true) : CallR X (.type "set") (rSetS X.K X.w) := by
  intro pins s σ H vs us Q I r h
  obtain ⟨a, xs, rfl, ha, hl, q⟩ := h
  rw [Vals.ref1 r]
  obtain ⟨its, rv, pl, _⟩ := I.list ha
  refine set_of_txts xs (I.ok.hd hc) pl.isList (by rw [List.toList_toArray]; exact strs_of_vals rv) (by unfold scanBound; omega) fun hp t n R le kp => ?_
  exact ⟨.ref s.heap.objs.size, upd H s.heap.objs.size (SetXO X.w s.heap.objs.size (fun j => decide (j ∈ xs)) n), I.laid (t' := t) kp (Nat.le_refl _) (setXO_new R), rfl, q _ n (I.hok.fresh (Nat.le_refl _)) le⟩
def rSortedSetS (w : World) : List V → Hp → VK → Prop := fun vs H Q => ∃ (a : Addr) (M : Str → Bool) (n : Nat), vs = [V.ref a] ∧ H a = some (SetXO w a M n) ∧ n ≤ 4000 ∧
  ∀ (ks : List Str) (p : Addr), sortedS ks = true → ks.Nodup → (∀ k : Str, k ∈ ks ↔ M k = true) → ks.length = n → H p = none → Q (.ref p) (upd H p (.lst (ks.map V.str)))
theorem cr_sortedSetS {X : Cx} (hc : X.calm = true) : CallR X (.builtin "sorted") (rSortedSetS X.w) := by
  intro pins s σ H vs us Q I r h
  obtain ⟨a, M, n, rfl, ha, few, q⟩ := h
  rw [Vals.ref1 r]
  refine sorted_setX ((I.hok a _ ha).1) (I.ok.hd hc) fun s' p out c ks kept gens os hp at_ are srt nd mem len => ?_
  have line : (ks.map V.str).length ≤ sizeLine := by rw [List.length_map, len, sizeLine_eq]; omega
  have free : H p = none := I.hok.fresh hp
  refine ⟨.ref p, _, I.call' (ch := []) (H' := upd H p (.lst (ks.map V.str))) os (Un.laid kept hp free) (I.hok.laid kept hp ⟨line, out.toList, c, vals_of_strs are, by rw [Array.toArray_toList]; exact at_⟩) (by rw [gens]; exact I.bare) (fun _ z => nomatch z), rfl, q ks p srt nd mem len free⟩
/-! ### a sorted list without repetitions is told by its members -/
theorem rising_pair : ∀ {p : Str} {l : List Str}, risingS p l = true → (p :: l).Pairwise fun a b => ltCps b.cps.toList a.cps.toList = false
  | p, [], _ => List.pairwise_cons.mpr ⟨fun _ h => (nomatch h), .nil⟩
  | p, x :: r, h => by
    have h : (!ltCps x.cps.toList p.cps.toList && risingS x r) = true := h
    rw [Bool.and_eq_true] at h
    have h1 : ltCps x.cps.toList p.cps.toList = false := by
      have := h.1
      revert this
      cases ltCps x.cps.toList p.cps.toList <;> simp
    have ih := rising_pair h.2
    refine List.pairwise_cons.mpr ⟨fun y hy => ?_, ih⟩
    rcases List.mem_cons.mp hy with rfl | hy
    · exact h1
    · have h2 := (List.pairwise_cons.mp ih).1 y hy
      rw [ltCps_eq] at h1 h2 ⊢
      have a := of_decide_eq_false h1
      have b := of_decide_eq_false h2
      refine decide_eq_false fun c => ?_
      exact List.not_lt.mpr (List.le_trans (List.not_lt.mp a) (List.not_lt.mp b)) c
theorem sorted_pair {l : List Str} (h : sortedS l = true) : l.Pairwise fun a b => ltCps b.cps.toList a.cps.toList = false := by
  cases l with
  | nil => exact .nil
  | cons x r => exact rising_pair h
theorem cps_inj {a b : Str} (h : a.cps.toList = b.cps.toList) : a = b := by
  cases a
  cases b
  simp only [Str.mk.injEq]
  exact Array.toList_inj.mp h
theorem sorted_eq {l m : List Str} (hl : sortedS l = true) (hm : sortedS m = true) (nl : l.Nodup) (nm : m.Nodup) (mem : ∀ x, x ∈ l ↔ x ∈ m) : l = m := by
  have pl := sorted_pair hl
  have pm := sorted_pair hm
  have perm : l.Perm m := (List.perm_ext_iff_of_nodup nl nm).mpr mem
  refine List.Perm.eq_of_pairwise (fun a b _ _ h1 h2 => ?_) pl pm perm
  rw [ltCps_eq] at h1 h2
  have a1 := of_decide_eq_false h1
  have a2 := of_decide_eq_false h2
  exact cps_inj (List.le_antisymm (List.not_lt.mp a1) (List.not_lt.mp a2))
end Shg
set_option Elab.async false
set_option linter.all false
set_option maxRecDepth 100000
set_option maxHeartbeats 400000
set_option autoImplicit false
/-! The search's ways and the program's: counts, who can have gone, the party; numbers only. -/
namespace Jo
open PySem L2 Sho NdefX Shg Sh1 Go PyProof.Rows
theorem cames_get (cs : List (Str × Int)) : ∀ (gs : List Int) (b : Int), cames cs b gs = (List.range gs.length).map fun i => came9 cs (if i = 0 then b else gs.getD (i - 1) 0) (gs.getD i 0)
  | [], _ => rfl
  | g :: gs, b => by
    show came9 cs b g :: cames cs g gs = _
    rw [cames_get cs gs g, List.length_cons, List.range_succ_eq_map, List.map_cons, List.map_map]
    congr 1
    refine List.map_congr_left fun i _ => ?_
    show came9 cs (if i = 0 then g else gs.getD (i - 1) 0) (gs.getD i 0) = came9 cs (if i + 1 = 0 then b else (g :: gs).getD (i + 1 - 1) 0) ((g :: gs).getD (i + 1) 0)
    rw [if_neg (Nat.succ_ne_zero i)]
    cases i with
    | zero => rfl
    | succ i =>
      rw [if_neg (Nat.succ_ne_zero i)]
      rfl
theorem cames_steps (cs : List (Str × Int)) (gs : List Int) (rs : List Rec) : (steps cs gs rs).map (fun s => s.1) = cames cs 0 gs := by
  rw [cames_get]
  unfold steps
  rw [List.map_map]
  rfl
theorem pw_of_rise : ∀ {gs : List Int}, (∀ i g h, gs[i]? = some g → gs[i + 1]? = some h → g < h) → gs.Pairwise (fun a b => a < b)
  | [], _ => .nil
  | [g], _ => List.pairwise_singleton _ _
  | g :: h :: gs, r => by
    have ih := pw_of_rise (gs := h :: gs) fun i a b x y => r (i + 1) a b x y
    have gh := r 0 g h rfl rfl
    refine List.pairwise_cons.mpr ⟨fun x hx => ?_, ih⟩
    rcases List.mem_cons.mp hx with e | hx
    · rw [e]
      exact gh
    · have := (List.pairwise_cons.mp ih).1 x hx
      omega
theorem pileW_start {cs : List (Str × Int)} (late : ∀ c ∈ cs, 0 ≤ c.2) : pileW cs 0 [] = [] := by
  unfold pileW
  rw [List.map_eq_nil_iff, List.filter_eq_nil_iff]
  intro c hc
  have := late c ((sb_perm cs).mem_iff.mp hc)
  simp
  omega
theorem all_ways {cs : List (Str × Int)} {gs : List Int} (nd : (cs.map fun c => c.1).Nodup) (va : Valid9 cs gs) : lawW cs gs [[]] = allW (cames cs 0 gs) [] := by
  have pw : (0 :: gs).Pairwise (fun x y : Int => x ≤ y) := List.pairwise_cons.mpr ⟨fun g hg => by
    obtain ⟨i, hi⟩ := List.getElem?_of_mem hg
    exact (va.in_ i g hi).1, (pw_of_rise va.rise).imp fun h => Int.le_of_lt h⟩
  rw [lawW_all nd gs 0 [[]] (fun w hw => by rw [List.mem_singleton.mp hw]; exact fun z hz => nomatch hz) pw]
  show ((allW (cames cs 0 gs) (pileW cs 0 [])).map fun v => [] ++ v) ++ [] = _
  rw [List.append_nil, pileW_start va.late]
  exact List.map_id _
/-- the ways that agree with what was seen -/
def left (cs : List (Str × Int)) (gs : List Int) (rs : List Rec) : List Way := (lawW cs gs [[]]).filter fun w => rs.all (okRec w)
abbrev FitR (gs : List Int) (rs : List Rec) : Prop := ∀ r ∈ rs, 0 ≤ r.1 ∧ r.1 < (gs.length : Nat)
theorem left_eq {cs : List (Str × Int)} {gs : List Int} {rs : List Rec} (nd : (cs.map fun c => c.1).Nodup) (va : Valid9 cs gs) (fit : FitR gs rs) : left cs gs rs = (allW ((steps cs gs rs).map fun s => s.1) []).filter (okW ((steps cs gs rs).map fun s => s.2)) := by
  unfold left
  rw [all_ways nd va, cames_steps]
  refine List.filter_congr fun w hw => ?_
  rw [okW_recs _ fit]
  have := allW_len hw
  rw [cames_get, List.length_map, List.length_range] at this
  exact this
theorem left_count {cs : List (Str × Int)} {gs : List Int} {rs : List Rec} (nd : (cs.map fun c => c.1).Nodup) (va : Valid9 cs gs) (fit : FitR gs rs) : (left cs gs rs).length = ways cs gs rs := by
  rw [left_eq nd va fit, comp_count]
  rfl
theorem left_snoc (cs : List (Str × Int)) (gs : List Int) (rs : List Rec) (r : Rec) : left cs gs (rs ++ [r]) = (left cs gs rs).filter fun w => okRec w r := by
  unfold left
  rw [List.filter_filter]
  refine List.filter_congr fun w _ => ?_
  rw [List.all_append, Bool.and_comm]
  simp
theorem left_lead {cs : List (Str × Int)} {gs : List Int} {rs : List Rec} (nd : (cs.map fun c => c.1).Nodup) (va : Valid9 cs gs) (fit : FitR gs rs) {zs b : List Str} (h : Lead (steps cs gs rs) [] zs b) : ∃ w ∈ left cs gs rs, nmsW w = zs := by
  obtain ⟨w, h1, h2, h3⟩ := of_lead h
  refine ⟨w, ?_, h3⟩
  rw [left_eq nd va fit]
  exact List.mem_filter.mpr ⟨h1, h2⟩
/-! ### what the search's ways are -/
structure GW (cs : List (Str × Int)) (gs : List Int) (w : Way) : Prop where
  nd : (nmsW w).Nodup
  at_ : ∀ (k : Nat) (p : Str × Nat), w[k]? = some p → ∃ c ∈ cs, c.1 = p.1 ∧ ∃ g, gs[k]? = some g ∧ c.2 < g
def dfac (n : Nat) : Nat → Nat
  | 0 => 1
  | i + 1 => dfac n i * (n - i)
theorem sum_le_mul {c : Nat} : ∀ {l : List Nat}, (∀ x ∈ l, x ≤ c) → l.sum ≤ l.length * c
  | [], _ => Nat.zero_le _
  | a :: l, h => by
    rw [List.sum_cons, List.length_cons, Nat.add_mul]
    have := h a List.mem_cons_self
    have := sum_le_mul fun x hx => h x (List.mem_cons_of_mem a hx)
    omega
theorem gw_names {cs : List (Str × Int)} {gs : List Int} {w : Way} (g : GW cs gs w) {z : Str} (hz : z ∈ nmsW w) : z ∈ cs.map fun c => c.1 := by
  obtain ⟨p, hp, rfl⟩ := List.mem_map.mp hz
  obtain ⟨k, hk⟩ := List.getElem?_of_mem hp
  obtain ⟨c, hc, e, _⟩ := g.at_ k p hk
  exact List.mem_map.mpr ⟨c, hc, e⟩
theorem pileW_le {cs : List (Str × Int)} {gs : List Int} {w : Way} (nd : (cs.map fun c => c.1).Nodup) (gw : GW cs gs w) (g : Int) : (pileW cs g (nmsW w)).length + w.length ≤ cs.length := by
  have h := nodup_le (xs := pileW cs g (nmsW w) ++ nmsW w) (ys := cs.map fun c => c.1) (List.nodup_append.mpr ⟨pileW_nd nd g _, gw.nd, fun a ha b hb e => (pileW_mem ha).1 (by rw [e]; exact hb)⟩) fun z hz => by
    rcases List.mem_append.mp hz with hz | hz
    · obtain ⟨_, c, hc, e, _⟩ := pileW_mem hz
      exact List.mem_map.mpr ⟨c, hc, e⟩
    · exact gw_names gw hz
  rw [List.length_append, List.length_map, List.length_map] at h
  exact h
theorem law_take {cs : List (Str × Int)} {gs : List Int} (nd : (cs.map fun c => c.1).Nodup) (va : Valid9 cs gs) : ∀ i, i ≤ gs.length →
    (∀ v ∈ lawW cs (gs.take i) [[]], v.length = i ∧ GW cs gs v) ∧ (lawW cs (gs.take i) [[]]).length ≤ dfac cs.length i ∧ lawW cs (gs.take i) [[]] ≠ []
  | 0, _ => by
    refine ⟨fun v hv => ?_, Nat.le_refl _, fun h => nomatch h⟩
    rw [show v = [] from List.mem_singleton.mp hv]
    exact ⟨rfl, .nil, fun k p h => nomatch h⟩
  | i + 1, h => by
    obtain ⟨a, b, c⟩ := law_take nd va i (by omega)
    have hg : gs[i]? = some gs[i] := List.getElem?_eq_getElem (by omega)
    have e : lawW cs (gs.take (i + 1)) [[]] = nextW cs (lawW cs (gs.take i) [[]]) gs[i] := by
      unfold lawW
      rw [List.take_succ, hg, List.foldl_append]
      rfl
    rw [e]
    generalize lawW cs (gs.take i) [[]] = ws at a b c
    refine ⟨fun v hv => ?_, ?_, fun z => ?_⟩
    · obtain ⟨l, h1, h2⟩ := List.mem_flatten.mp hv
      obtain ⟨w, hw, rfl⟩ := List.mem_map.mp h1
      obtain ⟨k, hk, rfl⟩ := List.mem_map.mp h2
      have hk := List.mem_range.mp hk
      obtain ⟨lw, gw⟩ := a w hw
      have hm : (pileW cs gs[i] (nmsW w)).getD k "" ∈ pileW cs gs[i] (nmsW w) := by
        rw [List.getD_eq_getElem?_getD, List.getElem?_eq_getElem hk]
        exact List.getElem_mem hk
      obtain ⟨nin, d, hd, e2, lt⟩ := pileW_mem hm
      refine ⟨by rw [List.length_append, lw]; rfl, ?_, fun k' p hp => ?_⟩
      · show ((w ++ [onW (pileW cs gs[i] (nmsW w)) k]).map fun p => p.1).Nodup
        rw [List.map_append]
        exact List.nodup_append.mpr ⟨gw.nd, List.nodup_cons.mpr ⟨List.not_mem_nil, .nil⟩, fun x hx y hy e => nin (by
          rw [show (pileW cs gs[i] (nmsW w)).getD k "" = y from (List.mem_singleton.mp hy).symm, ← e]
          exact hx)⟩
      · by_cases q : k' < w.length
        · rw [List.getElem?_append_left q] at hp
          exact gw.at_ k' p hp
        · have hp2 := (List.getElem?_eq_some_iff.mp hp).1
          rw [List.length_append] at hp2
          have hp2 : k' < w.length + 1 := hp2
          obtain rfl : k' = i := by omega
          rw [List.getElem?_append_right (by omega), lw, Nat.sub_self] at hp
          have hp := Option.some.inj hp
          exact ⟨d, hd, by rw [← hp]; exact e2, _, hg, lt⟩
    · unfold nextW
      rw [List.length_flatten]
      refine Nat.le_trans (sum_le_mul (c := cs.length - i) fun x hx => ?_) ?_
      · rw [List.map_map] at hx
        obtain ⟨w, hw, rfl⟩ := List.mem_map.mp hx
        obtain ⟨lw, gw⟩ := a w hw
        have := pileW_le nd gw gs[i]
        show (moreW cs gs[i] w).length ≤ _
        unfold moreW
        rw [List.length_map, List.length_range]
        omega
      · rw [List.length_map, List.length_map]
        exact Nat.mul_le_mul_right _ b
    · obtain ⟨w, ws', rfl⟩ := List.exists_cons_of_ne_nil c
      obtain ⟨lw, gw⟩ := a w List.mem_cons_self
      have hz := (va.in_ i _ hg).2
      have z0 : moreW cs gs[i] w = [] := by
        have z : (moreW cs gs[i] w) ++ nextW cs ws' gs[i] = [] := z
        exact (List.append_eq_nil_iff.mp z).1
      have p0 : (pileW cs gs[i] (nmsW w)).length = 0 := by
        have := congrArg List.length z0
        unfold moreW at this
        rw [List.length_map, List.length_range] at this
        exact this
      have le := nodup_le (xs := (cs.filter fun c => decide (c.2 < gs[i])).map fun c => c.1) (ys := nmsW w) (nd.sublist (List.filter_sublist.map _)) fun y hy => by
        obtain ⟨d, hd, rfl⟩ := List.mem_map.mp hy
        obtain ⟨d1, d2⟩ := List.mem_filter.mp hd
        by_cases q : d.1 ∈ nmsW w
        · exact q
        · exfalso
          have hm : d.1 ∈ pileW cs gs[i] (nmsW w) := by
            unfold pileW
            refine List.mem_map.mpr ⟨d, List.mem_filter.mpr ⟨(sb_perm cs).mem_iff.mpr d1, ?_⟩, rfl⟩
            rw [decide_eq_true q, d2]
            rfl
          rw [List.length_eq_zero_iff.mp p0] at hm
          cases hm
      rw [List.length_map, List.length_map] at le
      omega
theorem law_all {cs : List (Str × Int)} {gs : List Int} (nd : (cs.map fun c => c.1).Nodup) (va : Valid9 cs gs) : (∀ v ∈ lawW cs gs [[]], v.length = gs.length ∧ GW cs gs v) ∧ (lawW cs gs [[]]).length ≤ dfac cs.length gs.length ∧ lawW cs gs [[]] ≠ [] := by
  have h := law_take nd va gs.length (Nat.le_refl _)
  rw [List.take_length] at h
  exact h
theorem dfac_le : ∀ {n i : Nat}, n ≤ 6 → i ≤ n → dfac n i ≤ 720 := by
  have h : ∀ n i : Fin 7, i.val ≤ n.val → dfac n.val i.val ≤ 720 := by decide
  exact fun {n i} hn hi => h ⟨n, by omega⟩ ⟨i, by omega⟩ hi
/-! ### who can have gone -/
theorem can_mem {cs : List (Str × Int)} {gs : List Int} {rs : List Rec} (nd : (cs.map fun c => c.1).Nodup) (va : Valid9 cs gs) (fit : FitR gs rs) {k : Nat} (hk : k < gs.length) (z : Str) :
    0 < ways cs gs (rs ++ [((k : Int), .guest z)]) ↔ z ∈ (left cs gs rs).map fun w => (w.getD k ("", 0)).1 := by
  rw [← left_count nd va (rs := rs ++ [((k : Int), Fc.guest z)]) (fun r hr => by
    rcases List.mem_append.mp hr with hr | hr
    · exact fit r hr
    · rw [List.mem_singleton.mp hr]
      exact ⟨by show (0 : Int) ≤ (k : Int); omega, by show (k : Int) < (gs.length : Nat); omega⟩), left_snoc, List.mem_map]
  have len : ∀ w ∈ left cs gs rs, w.length = gs.length := fun w hw => ((law_all nd va).1 w (List.mem_filter.mp hw).1).1
  have ok : ∀ w ∈ left cs gs rs, okRec w ((k : Int), .guest z) = decide ((w.getD k ("", 0)).1 = z) := fun w hw => by
    have hl := len w hw
    unfold okRec
    rw [show (((k : Int), Fc.guest z).1.toNat) = k from Int.toNat_natCast k, List.getD_eq_getElem?_getD, List.getElem?_eq_getElem (by omega)]
    rfl
  constructor
  · intro h
    obtain ⟨w, hw⟩ := List.exists_mem_of_length_pos h
    obtain ⟨h1, h2⟩ := List.mem_filter.mp hw
    rw [ok w h1] at h2
    exact ⟨w, h1, of_decide_eq_true h2⟩
  · rintro ⟨w, hw, e⟩
    exact List.length_pos_of_mem (List.mem_filter.mpr ⟨hw, by rw [ok w hw]; exact decide_eq_true e⟩)
theorem left_names {cs : List (Str × Int)} {gs : List Int} {rs : List Rec} (nd : (cs.map fun c => c.1).Nodup) (va : Valid9 cs gs) {k : Nat} (hk : k < gs.length) : ∀ z ∈ (left cs gs rs).map (fun w => (w.getD k ("", 0)).1), z ∈ cs.map fun c => c.1 := fun z hz => by
  obtain ⟨w, hw, rfl⟩ := List.mem_map.mp hz
  obtain ⟨lw, gw⟩ := (law_all nd va).1 w (List.mem_filter.mp hw).1
  refine gw_names gw (List.mem_map.mpr ⟨w.getD k ("", 0), ?_, rfl⟩)
  rw [List.getD_eq_getElem?_getD, List.getElem?_eq_getElem (by omega)]
  exact List.getElem_mem _
theorem can_eq {cs : List (Str × Int)} {gs : List Int} {rs : List Rec} (nd : (cs.map fun c => c.1).Nodup) (va : Valid9 cs gs) (fit : FitR gs rs) {k : Nat} (hk : k < gs.length) {ys ks : List Str} (pm : ys.Perm (cs.map fun c => c.1)) (sy : sortedS ys = true) (sk : sortedS ks = true) (nk : ks.Nodup)
    (mem : ∀ z, z ∈ ks ↔ z ∈ (left cs gs rs).map fun w => (w.getD k ("", 0)).1) : canGo cs gs rs (k : Int) ys = ks := by
  refine sorted_eq ?_ sk (((pm.nodup_iff).mpr nd).filter _) nk fun z => ?_
  · exact sortedS_of_pairwise _ ((sorted_pair sy).filter _)
  · unfold canGo
    rw [List.mem_filter, mem z]
    constructor
    · rintro ⟨_, h⟩
      exact (can_mem nd va fit hk z).mp (of_decide_eq_true h)
    · intro h
      exact ⟨pm.mem_iff.mpr (left_names nd va hk z h), decide_eq_true ((can_mem nd va fit hk z).mpr h)⟩
/-! ### the party of the only way -/
def tkW (w : Way) (gs : List Int) (z : Str) : Int := gs.getD ((nmsW w).idxOf z) 0
theorem tk_at {w : Way} {gs : List Int} (nd : (nmsW w).Nodup) {k : Nat} {z : Str} (h : (nmsW w)[k]? = some z) : tkW w gs z = gs.getD k 0 := by
  obtain ⟨hk, rfl⟩ := List.getElem?_eq_some_iff.mp h
  unfold tkW
  rw [nd.idxOf_getElem]
theorem merge_pairs (tk : Str → Int) : ∀ (l : List (Str × Int)) (acc : List (L2.Key × V)) (z : Str), (∀ p ∈ l, p.2 = tk p.1) → (z ∈ l.map (fun p => p.1) ∨ valV acc (.inr z) = some (.int (tk z))) → valV (mergeK acc (l.map fun p => ((Sum.inr p.1 : L2.Key), V.int p.2))) (.inr z) = some (.int (tk z))
  | [], acc, z, _, h => h.elim (fun h => nomatch h) id
  | p :: l, acc, z, hr, h => by
    have ih := merge_pairs tk l (putK acc (.inr p.1) (.int p.2)) z (fun x hx => hr x (List.mem_cons_of_mem _ hx)) (by
      rw [valV_put]
      by_cases e : z = p.1
      · right
        rw [if_pos (by rw [e]), hr p List.mem_cons_self, e]
      · rw [if_neg (fun q => e (by injection q))]
        rcases h with h | h
        · exact .inl ((List.mem_cons.mp h).resolve_left e)
        · exact .inr h)
    exact ih
theorem ticks_pairs (zs : List Str) (gs : List Int) : (zs.map fun z => (Sum.inr z : L2.Key)).zip (gs.map V.int) = (zs.zip gs).map fun p => ((Sum.inr p.1 : L2.Key), V.int p.2) := by
  rw [List.zip_map]
  rfl
theorem zip_tk {w : Way} {gs : List Int} (nd : (nmsW w).Nodup) : ∀ p ∈ (nmsW w).zip gs, p.2 = tkW w gs p.1 := fun p hp => by
  obtain ⟨k, hk⟩ := List.getElem?_of_mem hp
  rw [List.getElem?_zip_eq_some] at hk
  rw [tk_at nd hk.1, List.getD_eq_getElem?_getD, hk.2]
  rfl
theorem only_ticks {cs : List (Str × Int)} {gs : List Int} {w : Way} (len : w.length = gs.length) (gw : GW cs gs w) (all : gs.length = cs.length) (nd : (cs.map fun c => c.1).Nodup) : ∀ c ∈ cs, c.1 ∈ nmsW w ∧ c.2 < tkW w gs c.1 ∧ tkW w gs c.1 ∈ gs := fun c hc => by
  have hin : c.1 ∈ nmsW w := by
    by_cases q : c.1 ∈ nmsW w
    · exact q
    · have h := nodup_le (xs := c.1 :: nmsW w) (ys := cs.map fun c => c.1) (List.nodup_cons.mpr ⟨q, gw.nd⟩) fun z hz => by
        rcases List.mem_cons.mp hz with rfl | hz
        · exact List.mem_map.mpr ⟨c, hc, rfl⟩
        · exact gw_names gw hz
      rw [List.length_cons, List.length_map, List.length_map] at h
      omega
  obtain ⟨k, hk⟩ := List.getElem?_of_mem hin
  have e := tk_at (gs := gs) gw.nd hk
  unfold nmsW at hk
  rw [List.getElem?_map] at hk
  obtain ⟨p, hp, e2⟩ := Option.map_eq_some_iff.mp hk
  obtain ⟨d, hd, e3, g, hg, lt⟩ := gw.at_ k p hp
  have e4 : tkW w gs c.1 = g := by
    rw [e, List.getD_eq_getElem?_getD, hg]
    rfl
  rw [e4, uniqN nd hc hd (e2.symm.trans e3.symm)]
  exact ⟨by rw [← uniqN nd hc hd (e2.symm.trans e3.symm)]; exact hin, lt, List.mem_of_getElem? hg⟩
theorem only_vals {cs : List (Str × Int)} {gs : List Int} {w : Way} (len : w.length = gs.length) (gw : GW cs gs w) (all : gs.length = cs.length) (nd : (cs.map fun c => c.1).Nodup) : ∀ c ∈ cs, valV (ticksK (nmsW w) gs) (.inr c.1) = some (.int (tkW w gs c.1)) := fun c hc => by
  unfold ticksK
  rw [ticks_pairs]
  refine merge_pairs (tkW w gs) _ [] c.1 (zip_tk gw.nd) (.inl ?_)
  have h := (only_ticks len gw all nd c hc).1
  have e : ((nmsW w).zip gs).map (fun p => p.1) = nmsW w := List.map_fst_zip (by rw [List.length_map, len]; exact Nat.le_refl _)
  rw [e]
  exact h
end Jo
set_option Elab.async false
set_option linter.all false
set_option maxRecDepth 100000
set_option maxHeartbeats 2000000
set_option autoImplicit false
/-! Data of ints and texts in tuples and lists: equal to themselves, as deep comparison wants them. -/
namespace Shp
open PySem L2
/-- ints and texts, in tuples and lists at most n deep -/
def LeafD (d : PyData) : Prop := (∃ i, d = .int i) ∨ ∃ x : Str, d = .str x ∧ x.cps.all (· < 0x110000) = true
def PlainD : Nat → PyData → Prop
  | 0, d => LeafD d
  | n + 1, d => LeafD d ∨ (∃ ds, d = .tuple ds ∧ ∀ e ∈ ds, PlainD n e) ∨ ∃ ds, d = .list ds ∧ ∀ e ∈ ds, PlainD n e
theorem plain_int (i : Int) : ∀ n, PlainD n (.int i)
  | 0 => .inl ⟨i, rfl⟩
  | _ + 1 => .inl (.inl ⟨i, rfl⟩)
theorem plain_str {x : Str} (h : x.cps.all (· < 0x110000) = true) : ∀ n, PlainD n (.str x)
  | 0 => .inr ⟨x, rfl, h⟩
  | _ + 1 => .inl (.inr ⟨x, rfl, h⟩)
theorem plain_tup {n : Nat} {ds : List PyData} (h : ∀ e ∈ ds, PlainD n e) : PlainD (n + 1) (.tuple ds) := .inr (.inl ⟨ds, rfl, h⟩)
theorem plain_lst {n : Nat} {ds : List PyData} (h : ∀ e ∈ ds, PlainD n e) : PlainD (n + 1) (.list ds) := .inr (.inr ⟨ds, rfl, h⟩)
theorem plain_ints {n : Nat} (xs : List Int) : PlainD (n + 1) (.list (xs.map PyData.int)) := plain_lst fun e he => by
  obtain ⟨i, _, rfl⟩ := List.mem_map.mp he
  exact plain_int i n
theorem lay_all : ∀ {ds : List PyData}, (∀ d ∈ ds, PyData.canLay0 d = true) → PyData.canLayAll0 ds = true
  | [], _ => rfl
  | d :: ds, h => by
    show (PyData.canLay0 d && PyData.canLayAll0 ds) = true
    rw [h d List.mem_cons_self, lay_all fun e he => h e (List.mem_cons_of_mem _ he)]
    rfl
theorem dep_all {n : Nat} : ∀ {ds : List PyData}, (∀ d ∈ ds, PyData.depth d ≤ n) → PyData.depthAll ds ≤ n
  | [], _ => Nat.zero_le _
  | d :: ds, h => by
    show max (PyData.depth d) (PyData.depthAll ds) ≤ n
    have := h d List.mem_cons_self
    have := dep_all fun e he => h e (List.mem_cons_of_mem d he)
    omega
theorem eqv_all : ∀ {ds : List PyData}, (∀ d ∈ ds, PyData.eqv d d = true) → PyData.eqvAll ds ds = true
  | [], _ => rfl
  | d :: ds, h => by
    show (PyData.eqv d d && PyData.eqvAll ds ds) = true
    rw [h d List.mem_cons_self, eqv_all fun e he => h e (List.mem_cons_of_mem _ he)]
    rfl
theorem leaf_ok {d : PyData} (h : LeafD d) : PyData.canLay0 d = true ∧ PyData.depth d ≤ 0 ∧ PyData.eqv d d = true := by
  rcases h with ⟨i, rfl⟩ | ⟨x, rfl, hx⟩
  · exact ⟨rfl, Nat.le_refl _, by show (i == i) = true; simp⟩
  · exact ⟨hx, Nat.le_refl _, by show (x == x) = true; simp⟩
theorem plain_ok : ∀ {n : Nat} {d : PyData}, PlainD n d → PyData.canLay0 d = true ∧ PyData.depth d ≤ n ∧ PyData.eqv d d = true
  | 0, d, h => leaf_ok h
  | n + 1, d, h => by
    rcases h with h | ⟨ds, rfl, h⟩ | ⟨ds, rfl, h⟩
    · obtain ⟨a, b, c⟩ := leaf_ok h
      exact ⟨a, by omega, c⟩
    · refine ⟨lay_all fun e he => (plain_ok (h e he)).1, ?_, eqv_all fun e he => (plain_ok (h e he)).2.2⟩
      show PyData.depthAll ds + 1 ≤ n + 1
      have := dep_all fun e he => (plain_ok (h e he)).2.1
      omega
    · refine ⟨lay_all fun e he => (plain_ok (h e he)).1, ?_, eqv_all fun e he => (plain_ok (h e he)).2.2⟩
      show PyData.depthAll ds + 1 ≤ n + 1
      have := dep_all fun e he => (plain_ok (h e he)).2.1
      omega
theorem plain_shaped {n : Nat} {d : PyData} (h : PlainD n d) (hn : n ≤ 64 := by decide) : SeqAt.shaped d = true := by
  obtain ⟨a, b, _⟩ := plain_ok h
  unfold SeqAt.shaped
  rw [a, decide_eq_true (by omega : PyData.depth d ≤ 64)]
  rfl
theorem plain_refl {n : Nat} {d : PyData} (h : PlainD n d) : PyData.eqv d d = true := (plain_ok h).2.2
theorem nil_shaped : SeqAt.shaped (.list []) = true := rfl
theorem eqv_nil (ds : List PyData) : PyData.eqv (.list ds) (.list []) = ds.isEmpty := by
  cases ds <;> rfl
theorem dp_ints {K : PySem.W.Frag} {H : Hp} : ∀ xs : List Int, DpAll K H (xs.map V.int) (xs.map PyData.int)
  | [] => .nil
  | x :: xs => .cons (.int x) (dp_ints xs)
theorem dp_strs {K : PySem.W.Frag} {H : Hp} : ∀ xs : List Str, DpAll K H (xs.map V.str) (xs.map PyData.str)
  | [] => .nil
  | x :: xs => .cons (.str x) (dp_strs xs)
/-- items that are told one by one -/
theorem dp_of {α : Type} {K : PySem.W.Frag} {H : Hp} {R : V → α → Prop} {f : α → PyData} (each : ∀ v x, R v x → Dp K H v (f x)) : ∀ {ws : List V} {xs : List α}, PySem.Paired R ws xs → DpAll K H ws (xs.map f)
  | _, _, .nil => .nil
  | _, _, .cons h r => .cons (each _ _ h) (dp_of each r)
end Shp
set_option Elab.async false
set_option linter.all false
set_option maxRecDepth 100000
set_option maxHeartbeats 8000000
set_option autoImplicit false
/-! _law_plan of k08: comings and goings. -/
namespace Jo
open PySem L2 Sho NdefX Shg Sh1 Go Dw
abbrev NPl : List Str := ["_law_state", "_law_most", "_law_comings", "_law_goings", "_law_k", "_law_ticks", "_law_least", "_law_name", "_law_come"]
abbrev tenN : List Str := ["zoe", "ann", "b", "cid", "dan", "eve", "fay", "gus", "h", "ida"]
abbrev tenV : List V := [.str "zoe", .str "ann", .str "b", .str "cid", .str "dan", .str "eve", .str "fay", .str "gus", .str "h", .str "ida"]
/-- some of the ten names come, one goes after the other -/
structure PlanQ (cs : List (Str × Int)) (gs : List Int) : Prop where
  nm : cs.map (fun c => c.1) = tenN.take cs.length
  len : cs.length ≤ 10
  late : ∀ c ∈ cs, 0 ≤ c.2 ∧ c.2 < 8
  rise : gs.Pairwise fun a b => a < b
  in_ : ∀ (i : Nat) g, gs[i]? = some g → 0 ≤ g ∧ g ≤ 100 ∧ i < (cs.filter fun c => decide (c.2 < g)).length
  all : gs.length = cs.length
theorem PlanQ.nd {cs : List (Str × Int)} {gs : List Int} (p : PlanQ cs gs) : (cs.map fun c => c.1).Nodup := by
  rw [p.nm]
  exact (by decide +kernel : tenN.Nodup).sublist (List.take_sublist _ _)
theorem PlanQ.valid {cs : List (Str × Int)} {gs : List Int} (p : PlanQ cs gs) : Valid9 cs gs :=
  ⟨p.len, fun c hc => (p.late c hc).1, fun i g h hg hh => by
    obtain ⟨a, rfl⟩ := List.getElem?_eq_some_iff.mp hg
    obtain ⟨b, rfl⟩ := List.getElem?_eq_some_iff.mp hh
    exact List.pairwise_iff_getElem.mp p.rise i (i + 1) a b (by omega), fun i g hg => ⟨(p.in_ i g hg).1, (p.in_ i g hg).2.2⟩, p.all⟩
/-- a sorted list of the ticks: as many are less -/
theorem sorted_less {ts : List Int} (srt : ts.Pairwise fun a b => a ≤ b) {cs : List (Str × Int)} (pm : ts.Perm (cs.map fun c => c.2)) {i : Nat} {t g : Int} (ht : ts[i]? = some t) (lt : t < g) : i < (cs.filter fun c => decide (c.2 < g)).length := by
  have e : (cs.filter fun c => decide (c.2 < g)).length = (ts.filter fun t => decide (t < g)).length := by
    rw [(pm.filter _).length_eq, List.filter_map, List.length_map]
    rfl
  rw [e]
  obtain ⟨hi, rfl⟩ := List.getElem?_eq_some_iff.mp ht
  have sub : (ts.take (i + 1)).filter (fun t => decide (t < g)) = ts.take (i + 1) := List.filter_eq_self.mpr fun x hx => by
    obtain ⟨k, hk, e⟩ := List.getElem_of_mem hx
    rw [List.length_take] at hk
    rw [List.getElem_take] at e
    refine decide_eq_true ?_
    rw [← e]
    by_cases c : k = i
    · subst c
      exact lt
    · have := List.pairwise_iff_getElem.mp srt k i (by omega) hi (by omega)
      omega
  have le := ((List.take_sublist (i + 1) ts).filter fun t => decide (t < g)).length_le
  rw [sub, List.length_take] at le
  omega
theorem atI_lastQ {xs : List Int} {g : Int} (h : xs[xs.length - 1]? = some g) : atI (xs.map V.int) (0 - 1) = some (.int g) := by
  have ne : xs ≠ [] := by
    rintro rfl
    cases h
  have e : xs.dropLast ++ [xs.getLast ne] = xs := List.dropLast_concat_getLast ne
  have e2 : xs.getLast ne = g := by
    obtain ⟨k, q⟩ := List.getElem?_eq_some_iff.mp h
    rw [List.getLast_eq_getElem]
    exact q
  rw [← e, e2, List.map_append]
  exact atI_last _ _
section
variable {P : Program} {w : World} {K : PySem.W.Frag} {mg : Str → Option Value} {base : Heap}
theorem scPlan : FnScope NPl ["_law_state", "_law_most"] (defScope sLawPlan) := ⟨rfl, rfl, rfl, by decide +kernel, rfl, by decide +kernel, by decide +kernel⟩
theorem draw_keepQ {H H1 : Hp} {l a b : Addr} {ns : List Int} {zs xs : List V} {o : HO} (d : DrawSt K H1 l a ns) (hl : H l = some (.lst zs)) (hb : H1 b = some (.lst xs)) (n : b ≠ l) (bt : But l H (upd H1 b o)) (d0 : DrawSt K H l a ns) : DrawSt K (upd H1 b o) l a ns := by
  obtain ⟨⟨p, s, r, e, k⟩, sc, len⟩ := d
  obtain ⟨⟨_, _, _, e0, _⟩, sc0, _⟩ := d0
  exact ⟨⟨p, s, r, by rw [upd_ne (Ne.symm n)]; exact e, k⟩, sql_but e0 sc0 bt, len⟩
def spPlanQ (K : PySem.W.Frag) : Sp := fun vs H Q _ => ∃ (l a : Addr) (ns : List Int) (n : Int), vs = [.ref l, .int n] ∧ DrawSt K H l a ns ∧ 1 ≤ n ∧ n ≤ 10 ∧
  ∀ (H' : Hp) (p Cm Gm : Addr) (ws : List V) (cs : List (Str × Int)) (gs : List Int), But l H H' → DrawSt K H' l a ns → H Cm = none → H Gm = none → Cm ≠ Gm → H' p = some (.tup [.ref Cm, .ref Gm]) → H' Cm = some (.lst ws) → PairsAt H' ws cs → H' Gm = some (.lst (gs.map V.int)) → 1 ≤ cs.length → (cs.length : Int) ≤ n → PlanQ cs gs → Q (.ref p) H'
theorem ok_planQ {f f2 : Addr} {fd fd2 : FuncData} (F : Fun K "_law_plan" "_law_plan" sLawPlan f fd) (B : Shg.Blt mg)
    (G2 : FnOk P w K mg base CX0 1 f2 fd2 ["_law_state", "_law_count"] (spDrawn K)) (m2 : mg "_law_drawn" = some (.ref f2)) (k2 : PySem.W.keepIn K (.ref f2) = true) (b2 : Binds K fd2 ["_law_state", "_law_count"] []) : FnOk P w K mg base CX0 2 f fd ["_law_state", "_law_most"] (spPlanQ K) := by
  refine F.ok scPlan (fun vs H Q E h => ?_) (fun cdv A outer s H vs Q E hr h => ?_)
  · obtain ⟨l, a, ns, n, rfl, _⟩ := h
    rfl
  obtain ⟨l, a, ns, n, rfl, hD, n1, n10, kk⟩ := h
  have nd := scPlan.nd
  refine ⟨_, (pss_cons (ps_par (i := 2) (j := 3) rfl nd rfl rfl (by decide) rfl rfl (pa_cons (pe_lst pa_nil) (pa_cons (pe_lst pa_nil) pa_nil)) (by rfl))
      (pss_cons (ps_for PassesOwn.never rfl (pi_range1 (by rfl) B.range (pa_cons (pe_op op_add pe_int (pe_call G2 (hr.mono (by decide)) rfl m2 k2 b2 .nil pass0 (pa_cons (pv 0) (pa_cons (pv 1) pa_nil)))) pa_nil)) (pg_name (i := 4) nd rfl (Or.inl rfl)) (pss_one (ps_expr (pe_bm PySem.F.plainAttrs_list PySem.F.slot_list_append PySem.F.type_list_append mt_append (pv 2) (pa_cons (pe_tup (pa_cons (pe_ix ix_list (pe_lst (pa_cons pe_str (pa_cons pe_str (pa_cons pe_str (pa_cons pe_str (pa_cons pe_str (pa_cons pe_str (pa_cons pe_str (pa_cons pe_str (pa_cons pe_str (pa_cons pe_str pa_nil))))))))))) (pv 4) (fun _ _ => rfl)) (pa_cons (pe_call G2 (hr.mono (by decide)) rfl m2 k2 b2 .nil pass0 (pa_cons (pv 0) (pa_cons pe_int pa_nil))) pa_nil))) pa_nil)))))
      (pss_cons (ps_set (i := 5) nd rfl (Or.inl rfl) (pe_callB cr_sorted (by rfl) B.sorted (by decide +kernel) (pa_cons (pe_lc (own := [("_law_name", 7), ("_law_come", 8)]) (g := gTup K 2 (gCons (gName 7) (gCons (gName 8) gNil))) (tt := tYes) (te := tVar 8) rfl nd (pi_list (pv 2)) (blkOk_by (own := [("_law_name", 7), ("_law_come", 8)]) (N := NPl) (sc := defScope sLawPlan) (by decide +kernel))
        (fun _ _ _ _ _ => pg_tup rfl (pgs_cons (pg_name (i := 7) nd rfl (Or.inl rfl)) (pgs_cons (pg_name (i := 8) nd rfl (Or.inl rfl)) pgs_nil))) (fun _ _ _ _ _ => pts_nil) (fun _ _ _ _ _ => (pv 8))) pa_nil)))
      (pss_cons (ps_for PassesOwn.never rfl (pi_range1 (by rfl) B.range (pa_cons (pe_callB call_len_seq (by rfl) B.len PySem.boot_len (pa_cons (pv 5) pa_nil)) pa_nil)) (pg_name (i := 4) nd rfl (Or.inl rfl)) (pss_cons (ps_set (i := 6) nd rfl (Or.inl rfl) (pe_op op_add (pe_callB (call_max2 rfl) (by rfl) B.max (by decide +kernel) (pa_cons (pe_ix ix_list (pv 5) (pv 4) (fun _ _ => rfl)) (pa_cons (pe_ifExp (pt_cmpR (op_neD hr.units) (pv 3) (pe_lst pa_nil) (nomark _)) (pe_ix ix_list (pv 3) (pe_op op_sub pe_int pe_int) (fun _ _ => rfl)) pe_int) pa_nil))) pe_int))
      (pss_one (ps_expr (pe_bm PySem.F.plainAttrs_list PySem.F.slot_list_append PySem.F.type_list_append mt_append (pv 3) (pa_cons (pe_op op_add (pv 6) (pe_call G2 (hr.mono (by decide)) rfl m2 k2 b2 .nil pass0 (pa_cons (pv 0) (pa_cons pe_int pa_nil)))) pa_nil))))))
      (pss_one (ps_ret (pe_tup (pa_cons (pv 2) (pa_cons (pv 3) pa_nil))))))))), ?_⟩
  refine ⟨Nat.zero_le _, fun R hR => ⟨Nat.zero_le _, fun Tk hTk => ⟨_, _, rfl, ?_⟩⟩⟩
  have a1 := Shg.same_upd (o := .lst []) hR
  have a2 := Shg.same_upd (o := .lst []) hTk
  have eR : upd (upd H R (.lst [])) Tk (.lst []) R = some (.lst []) := a2 _ _ upd_same
  have eT : upd (upd H R (.lst [])) Tk (.lst []) Tk = some (.lst []) := upd_same
  have nRT : R ≠ Tk := fun z => by rw [← z, upd_same] at hTk; cases hTk
  have hTk0 : H Tk = none := by rw [upd_ne (Ne.symm nRT)] at hTk; exact hTk
  have s1 := a1.trans a2
  obtain ⟨zs, hl⟩ := draw_at hD
  have nRl : R ≠ l := fun z => by rw [z, hl] at hR; cases hR
  have nTl : Tk ≠ l := fun z => by rw [z, hl] at hTk0; cases hTk0
  have d1 := draw_ext hD (LamX.ExtN.of s1)
  generalize upd (upd H R (.lst [])) Tk (.lst []) = H1 at *
  have sz : 100 < sizeLine := by decide
  refine ⟨_, rfl, _, rfl, l, a, ns, n, rfl, d1, by omega, by omega, fun r H2 r0 r1 b2 d2 => ⟨_, _, rfl, rfl, _, rfl, by omega, by omega, ?_⟩⟩
  refine for_it walk_range (fun i σ H' => ∃ (o4 : Option V) (ws : List V) (cs : List (Str × Int)), σ = [some (.ref l), some (.int n), some (.ref R), some (.ref Tk), o4, none, none, none, none] ∧ But l H H' ∧ DrawSt K H' l a ns ∧ H' R = some (.lst ws) ∧ H' Tk = some (.lst []) ∧ PairsAt H' ws cs ∧ cs.length = i ∧ cs.map (fun c => c.1) = tenN.take i ∧ ∀ c ∈ cs, 0 ≤ c.2 ∧ c.2 < 8)
    ⟨none, [], [], rfl, (But.of s1).trans b2, d2, b2 _ _ eR nRl, b2 _ _ eT nTl, .nil, rfl, rfl, fun c hc => nomatch hc⟩ (fun _ _ _ _ _ => trivial) ?_ ?_
  · rintro i y σ H4' H3 hi ⟨o4, ws, cs, rfl, b3, d3, hR3, hT3, pv3, lx, nmx, gx⟩ ⟨rfl, ey⟩
    have hi10 : i < 10 := by omega
    have ey' : y = .int (i : Int) := ey.trans (congrArg V.int (Int.zero_add _))
    subst ey'
    obtain ⟨nm, hnm⟩ : ∃ nm, tenN[i]? = some nm := ⟨_, List.getElem?_eq_getElem (by show i < 10; exact hi10)⟩
    refine ⟨_, rfl, .inl ⟨rfl, _, SqL.of hR3⟩, by show 10 ≤ sizeLine; decide, fun tl htl => ?_⟩
    have u1 := Shg.same_upd (o := .lst tenV) htl
    have etl : upd H3 tl (.lst tenV) tl = some (.lst tenV) := upd_same
    refine ⟨_, rfl, tl, _, _, .str nm, rfl, rfl, SqL.of etl, atI_nat (by show (tenN.map V.str)[i]? = some (V.str nm); rw [List.getElem?_map, hnm]; rfl), ?_⟩
    have d4 := draw_ext d3 (LamX.ExtN.of u1)
    have hR4 := u1 _ _ hR3
    have hT4 := u1 _ _ hT3
    have k4 : PairsAt (upd H3 tl (.lst tenV)) ws cs := pair_mono (fun v c ⟨t, e, h⟩ => ⟨t, e, u1 _ _ h⟩) pv3
    have b4 := b3.trans (But.of u1)
    clear etl
    generalize upd H3 tl (.lst tenV) = H4 at *
    refine ⟨_, rfl, l, a, ns, 8, rfl, d4, by decide, by decide, fun c H5 c0 c1 bc dc => ?_⟩
    obtain ⟨z4, hl4⟩ := draw_at d4
    have hR5 := bc _ _ hR4 nRl
    have hT5 := bc _ _ hT4 nTl
    have k5 : PairsAt H5 ws cs := pair_mono (fun v c ⟨t, e, h⟩ => ⟨t, e, bc _ _ h (Dw.ne_at hl4 h fun z => nomatch z)⟩) k4
    have b5 := b4.trans bc
    refine ⟨by show 2 ≤ sizeLine; decide, fun p hp => ?_⟩
    have s8 := Shg.same_upd (o := .tup [.str nm, .int c]) hp
    have e8 : upd H5 p (.tup [.str nm, .int c]) p = some (.tup [.str nm, .int c]) := upd_same
    generalize upd H5 p (.tup [.str nm, .int c]) = H8 at s8 e8 ⊢
    have hR8 := s8 _ _ hR5
    have d8 := draw_ext dc (LamX.ExtN.of s8)
    have bH8 := b5.trans (But.of s8)
    have lw := Shg.pair_len pv3
    refine ⟨R, ws, _, rfl, rfl, hR8, by omega, ?_⟩
    have b9 : ∀ b o, b ≠ R → H8 b = some o → upd H8 R (.lst (ws ++ [.ref p])) b = some o := fun b o n e => by rw [upd_ne n]; exact e
    have kt : ∀ b vs, H8 b = some (.tup vs) → upd H8 R (.lst (ws ++ [.ref p])) b = some (.tup vs) := fun b vs e => b9 _ _ (fun z => by rw [z, hR8] at e; cases e) e
    have bH9 : But l H (upd H8 R (.lst (ws ++ [.ref p]))) := fun b o e n => b9 _ _ (ne_of_none e hR) (bH8 b o e n)
    refine ⟨_, ws ++ [.ref p], cs ++ [(nm, c)], rfl, bH9, draw_keepQ d8 hl hR8 nRl bH9 hD, upd_same, b9 _ _ (Ne.symm nRT) (s8 _ _ hT5), ?_, by rw [List.length_append, lx]; rfl, ?_, fun x hx => ?_⟩
    · exact pair_app (pair_mono (fun v x ⟨t, e, h⟩ => ⟨t, e, kt _ _ (s8 _ _ h)⟩) k5) (.cons ⟨p, rfl, kt _ _ e8⟩ .nil)
    · rw [List.map_append, nmx, List.take_succ, hnm]
      rfl
    · rcases List.mem_append.mp hx with h | h
      · exact gx x h
      · rw [List.mem_singleton.mp h]
        exact ⟨c0, c1⟩
  rintro σ H3 ⟨o4, ws, cs, rfl, b3, d3, hR3, hT3, pv3, lx, nmx, gx⟩
  have lw := Shg.pair_len pv3
  have l1 : 1 ≤ cs.length := by omega
  have ln : (cs.length : Int) ≤ n := by omega
  have l10 : cs.length ≤ 10 := by omega
  obtain ⟨z3, hl3⟩ := draw_at d3
  -- the ticks in order
  refine nx_of (asg_rel (fun v H' => ∃ (S : Addr) (ts : List Int), v = .ref S ∧ Same H3 H' ∧ H3 S = none ∧ H' S = some (.lst (ts.map V.int)) ∧ ts.Perm (cs.map fun c => c.2) ∧ ts.Pairwise fun a b => a ≤ b) (fun R0 h0 => ?_) fun vs H4 h4 => ?_)
  · refine ⟨_, rfl, R, rfl, ⟨_, SqL.of hR3⟩, fun D hD => ?_⟩
    refine lc_map (walk_list (K := K) (a := R) (xs := ws)) (fun j => (cs[j]?).map fun c => V.int c.2) hD (by rw [lw]; exact Nat.le_trans l10 (by decide)) (fun H6 s6 => SqL.of (s6 _ _ hR3)) (fun j v H7 H6 hj s6 yy R' k1 => ?_) (fun j hj => ⟨_, by rw [List.getElem?_eq_getElem (by rw [← lw]; exact hj)]; rfl⟩) fun H6 s6 e6 => ?_
    · obtain ⟨rfl, e2⟩ := yy
      obtain ⟨c, hc, t, rfl, ht⟩ := Shg.pair_get pv3 e2
      exact ⟨t, _, rfl, SqT.of (s6 _ _ ht), rfl, _, _, rfl, _, _, rfl, rfl, rfl, _, rfl, k1 _ _ (Same.refl _) (by rw [hc]; rfl)⟩
    rw [lw, gather_map cs fun c => V.int c.2] at e6
    refine ⟨D, cs.map (fun c => c.2), rfl, by rw [List.map_map]; exact SqL.of e6, by rw [List.length_map]; omega, fun ts q pm srt hq => ?_⟩
    have hq0 : H3 q = none := by
      cases e : H3 q with
      | none => rfl
      | some o => rw [s6 _ _ e] at hq; cases hq
    exact h0 _ _ ⟨q, ts, rfl, s6.trans (Shg.same_upd hq), hq0, upd_same, pm, srt⟩
  obtain ⟨S, ts, rfl, s4, hS0, eS, pm, srt⟩ := h4
  have lts : ts.length = cs.length := by rw [pm.length_eq, List.length_map]
  have d4 := draw_ext d3 (LamX.ExtN.of s4)
  have nSl : S ≠ l := fun z => by rw [z, hl3] at hS0; cases hS0
  have nST : S ≠ Tk := fun z => by rw [z, hT3] at hS0; cases hS0
  have hR4 := s4 _ _ hR3
  have hT4 := s4 _ _ hT3
  have nTR : Tk ≠ R := Ne.symm nRT
  have p4 : PairsAt H4 ws cs := pair_mono (fun v c ⟨t, e, h⟩ => ⟨t, e, s4 _ _ h⟩) pv3
  have b4 := b3.trans (But.of s4)
  clear hT3 hR3 pv3 d3 b3 hl3
  refine name_at ⟨_, rfl, S, _, rfl, .inl (SqL.of eS), _, rfl, by rw [List.length_map]; omega, by rw [List.length_map]; omega, for_it walk_range (fun i σ H' => ∃ (o4 o6 : Option V) (gs : List Int), σ = [some (.ref l), some (.int n), some (.ref R), some (.ref Tk), o4, some (.ref S), o6, none, none] ∧ But l H H' ∧ DrawSt K H' l a ns ∧ H' R = some (.lst ws) ∧ H' Tk = some (.lst (gs.map V.int)) ∧ H' S = some (.lst (ts.map V.int)) ∧ PairsAt H' ws cs ∧ gs.length = i ∧ (gs.Pairwise fun a b => a < b) ∧ ∀ (k : Nat) g t, gs[k]? = some g → ts[k]? = some t → 0 ≤ g ∧ g ≤ 8 + 4 * (k : Int) + 4 ∧ t < g)
    ⟨_, none, [], rfl, b4, d4, hR4, hT4, eS, p4, rfl, .nil, fun k g t h => by rw [List.getElem?_nil] at h; cases h⟩ (fun _ _ _ _ _ => trivial) ?_ ?_⟩
  · rintro i y σ H6 H5 hi ⟨o4, o6, gs, rfl, b5, d5, hR5, hT5, hS5, p5, lg, rise, gk⟩ ⟨rfl, ey⟩
    have hi : i < ts.length := by
      rw [List.length_map] at hi
      omega
    have ey' : y = .int (i : Int) := ey.trans (congrArg V.int (Int.zero_add _))
    subst ey'
    have hti : ts[i]? = some ts[i] := List.getElem?_eq_getElem hi
    have htm : 0 ≤ ts[i] ∧ ts[i] < 8 := by
      obtain ⟨c, hc, e⟩ := List.mem_map.mp (pm.mem_iff.mp (List.getElem_mem hi))
      rw [← e]
      exact gx c hc
    -- the least tick
    refine name_at (asg_rel (fun v H' => ∃ m : Int, v = .int m ∧ Same H5 H' ∧ ts[i] < m ∧ (∀ g ∈ gs, g < m) ∧ m ≤ 8 + 4 * (i : Int) + 1) (fun R0 h0 => ?_) fun vm H7 h7 => ?_)
    · refine ⟨_, rfl, _, rfl, S, _, _, .int ts[i], rfl, rfl, SqL.of hS5, atI_nat (j := i) (by rw [List.getElem?_map, hti]; rfl), _, rfl, Nat.zero_le _, fun e0 he0 => ?_⟩
      have u1 := Shg.same_upd (o := .lst []) he0
      have hT6 := u1 _ _ hT5
      refine ⟨.list (gs.map PyData.int), .list [], .lst (SqL.of hT6) (Shp.dp_ints gs), .lst (SqL.of upd_same) .nil, Shp.plain_shaped (Shp.plain_ints (n := 0) gs), Shp.nil_shaped, _, rfl, ?_⟩
      rw [Shp.eqv_nil]
      have e30 : 8 + 4 * (i : Int) + 1 = 4 * (i : Int) + 9 := by omega
      cases gs with
      | nil =>
        refine iteF ⟨_, _, rfl, ?_⟩
        show _
        refine ⟨_, _, rfl, rfl, h0 _ _ ⟨_, rfl, u1, ?_, (fun g hg => nomatch hg), ?_⟩⟩
        · split <;> omega
        · split <;> omega
      | cons g0 gs' =>
        obtain ⟨gl, el⟩ : ∃ gl, (g0 :: gs')[(g0 :: gs').length - 1]? = some gl := ⟨_, List.getElem?_eq_getElem (by rw [List.length_cons]; omega)⟩
        have hgi : i = (g0 :: gs').length := lg.symm
        have bnd := gk _ gl (ts[(g0 :: gs').length - 1]'(by rw [List.length_cons] at *; omega)) el (List.getElem?_eq_getElem _)
        have top : ∀ g ∈ g0 :: gs', g ≤ gl := fun g hg => by
          obtain ⟨hlt, rfl⟩ := List.getElem?_eq_some_iff.mp el
          obtain ⟨k, hk, rfl⟩ := List.getElem_of_mem hg
          by_cases c : k = (g0 :: gs').length - 1
          · subst c
            exact Int.le_refl _
          · have := List.pairwise_iff_getElem.mp rise k ((g0 :: gs').length - 1) hk hlt (by omega)
            omega
        refine iteT ⟨_, rfl, _, _, rfl, rfl, Tk, _, _, .int gl, rfl, rfl, SqL.of hT6, ?_, _, _, rfl, ?_⟩
        · exact atI_lastQ el
        show _
        refine ⟨_, _, rfl, rfl, h0 _ _ ⟨_, rfl, u1, ?_, (fun g hg => ?_), ?_⟩⟩
        · split <;> omega
        · have := top g hg
          split <;> omega
        · have := bnd.2.1
          rw [List.length_cons] at *
          split <;> omega
    obtain ⟨m, rfl, s7, tm, gm, mb⟩ := h7
    have d7 := draw_ext d5 (LamX.ExtN.of s7)
    have hR7 := s7 _ _ hR5
    have hT7 := s7 _ _ hT5
    have hS7 := s7 _ _ hS5
    have p7 : PairsAt H7 ws cs := pair_mono (fun v c ⟨t, e, h⟩ => ⟨t, e, s7 _ _ h⟩) p5
    have b7 := b5.trans (But.of s7)
    obtain ⟨z7, hl7⟩ := draw_at d7
    clear s7 p5 b5 d5 hR5 hT5 hS5
    refine name_at ⟨_, rfl, .inl ⟨rfl, _, SqL.of hT7⟩, _, rfl, _, rfl, l, a, ns, 4, rfl, d7, by decide, by decide, fun r H8 r0 r1 b8 d8 => ⟨_, _, rfl, rfl, ?_⟩⟩
    have hT8 := b8 _ _ hT7 nTl
    refine ⟨Tk, _, _, rfl, rfl, hT8, by rw [List.length_map]; omega, ?_⟩
    have b9 : ∀ b o, b ≠ Tk → H8 b = some o → upd H8 Tk (.lst (gs.map V.int ++ [.int (m + r)])) b = some o := fun b o n e => by rw [upd_ne n]; exact e
    have kt : ∀ b vs, H8 b = some (.tup vs) → upd H8 Tk (.lst (gs.map V.int ++ [.int (m + r)])) b = some (.tup vs) := fun b vs e => b9 _ _ (fun z => by rw [z, hT8] at e; cases e) e
    have bH8 := b7.trans b8
    have bH9 : But l H (upd H8 Tk (.lst (gs.map V.int ++ [.int (m + r)]))) := fun b o e n => b9 _ _ (ne_of_none e hTk0) (bH8 b o e n)
    refine ⟨_, _, gs ++ [m + r], rfl, bH9, draw_keepQ d8 hl hT8 nTl bH9 hD, b9 _ _ nRT (b8 _ _ hR7 nRl), by rw [List.map_append]; exact upd_same, b9 _ _ nST (b8 _ _ hS7 nSl), ?_, by rw [List.length_append, lg]; rfl, ?_, fun k g t hg ht => ?_⟩
    · exact pair_mono (fun v x ⟨t, e, h⟩ => ⟨t, e, kt _ _ (b8 _ _ h (Dw.ne_at hl7 h fun z => nomatch z))⟩) p7
    · exact List.pairwise_append.mpr ⟨rise, List.pairwise_singleton _ _, fun x hx y hy => by
        rw [List.mem_singleton.mp hy]
        have := gm x hx
        omega⟩
    · by_cases q : k < gs.length
      · rw [List.getElem?_append_left q] at hg
        exact gk k g t hg ht
      · have hk := (List.getElem?_eq_some_iff.mp hg).1
        rw [List.length_append] at hk
        have hk : k < gs.length + 1 := hk
        obtain rfl : k = i := by omega
        rw [List.getElem?_append_right (by omega), lg, Nat.sub_self] at hg
        have hg : m + r = g := Option.some.inj hg
        rw [hti] at ht
        have ht := Option.some.inj ht
        omega
  rintro σ H5 ⟨o4, o6, gs, rfl, b5, d5, hR5, hT5, hS5, p5, lg, rise, gk⟩
  have lg : gs.length = cs.length := by
    rw [List.length_map] at lg
    omega
  refine ⟨_, rfl, _, rfl, by show 2 ≤ sizeLine; decide, fun p hp => ?_⟩
  have s6 := Shg.same_upd (o := .tup [.ref R, .ref Tk]) hp
  refine kk _ p R Tk ws cs gs (b5.trans (But.of s6)) (draw_ext d5 (LamX.ExtN.of s6)) hR hTk0 nRT upd_same (s6 _ _ hR5) (pair_mono (fun v c ⟨t, e, h⟩ => ⟨t, e, s6 _ _ h⟩) p5) (s6 _ _ hT5) l1 ln ⟨by rw [nmx, lx], l10, gx, rise, fun k g hg => ?_, lg⟩
  have hk := (List.getElem?_eq_some_iff.mp hg).1
  have hti : ts[k]? = some (ts[k]'(by omega)) := List.getElem?_eq_getElem (by omega)
  obtain ⟨q1, q2, q3⟩ := gk k g _ hg hti
  exact ⟨q1, by omega, sorted_less srt pm hti q3⟩
end
end Jo
set_option Elab.async false
set_option linter.all false
set_option maxRecDepth 100000
set_option maxHeartbeats 8000000
set_option autoImplicit false
/-! _law_ways of k08. -/
namespace Jo
open PySem L2 Sho NdefX Shg Sh1 Go Dw
abbrev NWy : List Str := ["_law_comings", "_law_goings", "_law_order", "_law_come_of", "_law_ways_here", "_law_tick", "_law_later", "_law_way", "_law_gone", "_law_here", "_law_k", "_law_come", "_law_one", "_law_name"]
theorem find_one {cs : List (Str × Int)} (nd : (cs.map fun c => c.1).Nodup) {c : Str × Int} (hc : c ∈ cs) : cs.find? (fun d => d.1 == c.1) = some c := by
  induction cs with
  | nil => cases hc
  | cons a cs ih =>
    rw [List.map_cons, List.nodup_cons] at nd
    rcases List.mem_cons.mp hc with e | h
    · rw [List.find?_cons, e]
      simp
    · have ne : (a.1 == c.1) = false := by
        rw [Bool.eq_false_iff]
        intro q
        exact nd.1 (List.mem_map.mpr ⟨c, h, (eq_of_beq q).symm⟩)
      rw [List.find?_cons, ne]
      exact ih nd.2 h
/-! the order of coming -/
abbrev LexN (a b : Int × Nat) : Prop := a.1 < b.1 ∨ (a.1 = b.1 ∧ a.2 < b.2)
theorem insK_lex {p : Int × Nat} : ∀ {l : List (Int × Nat)}, l.Pairwise LexN → (∀ a ∈ l, p.2 < a.2) → (insK p l).Pairwise LexN
  | [], _, _ => List.pairwise_singleton _ _
  | a :: l, h, lt => by
    have h' := List.pairwise_cons.mp h
    unfold insK
    by_cases c : p.1 ≤ a.1
    · rw [if_pos c]
      refine List.pairwise_cons.mpr ⟨fun b hb => ?_, h⟩
      have lb := lt b hb
      rcases List.mem_cons.mp hb with e | hb
      · rw [e] at lb ⊢
        by_cases q : p.1 = a.1
        · exact .inr ⟨q, lb⟩
        · exact .inl (by omega)
      · rcases h'.1 b hb with q | q
        · exact .inl (by omega)
        · by_cases q2 : p.1 = b.1
          · exact .inr ⟨q2, lb⟩
          · exact .inl (by omega)
    · rw [if_neg c]
      refine List.pairwise_cons.mpr ⟨fun b hb => ?_, insK_lex h'.2 fun x hx => lt x (List.mem_cons_of_mem _ hx)⟩
      rcases insK_mem.mp hb with e | hb
      · rw [e]
        exact .inl (by omega)
      · exact h'.1 b hb
theorem sortK_lex : ∀ {l : List (Int × Nat)}, l.Pairwise (fun a b => a.2 < b.2) → (sortK l).Pairwise LexN
  | [], _ => .nil
  | p :: l, h => by
    have h' := List.pairwise_cons.mp h
    show (insK p (sortK l)).Pairwise LexN
    exact insK_lex (sortK_lex h'.2) fun a ha => h'.1 a ((sortK_perm _).mem_iff.mp ha)
theorem order_eq {cs : List (Str × Int)} {qs : List (Int × Nat)} (pm : qs.Perm ((cs.map fun c => c.2).zip (List.range cs.length))) (srt : qs.Pairwise fun a b => ¬ LexN b a) : qs.map (fun q => (cs.getD q.2 ("", 0)).1) = (sb cs).map fun c => c.1 := by
  have inc : ((cs.map fun c => c.2).zip (List.range cs.length)).Pairwise fun a b => a.2 < b.2 := by
    have h : (((cs.map fun c => c.2).zip (List.range cs.length)).map Prod.snd).Pairwise fun a b : Nat => a < b := by
      rw [List.map_snd_zip (by rw [List.length_range, List.length_map]; exact Nat.le_refl _)]
      exact List.pairwise_lt_range
    rw [List.pairwise_map] at h
    exact h
  have e : qs = sortK ((cs.map fun c => c.2).zip (List.range cs.length)) := by
    refine List.Perm.eq_of_pairwise (fun a b _ _ h1 h2 => ?_) srt ((sortK_lex inc).imp fun {a b} h => ?_) (pm.trans (sortK_perm _).symm)
    · obtain ⟨a1, a2⟩ := a
      obtain ⟨b1, b2⟩ := b
      have h1 : ¬ (b1 < a1 ∨ (b1 = a1 ∧ b2 < a2)) := h1
      have h2 : ¬ (a1 < b1 ∨ (a1 = b1 ∧ a2 < b2)) := h2
      have e1 : a1 = b1 := by omega
      have e2 : a2 = b2 := by omega
      rw [e1, e2]
    · rcases h with h | h
      · rintro (q | q) <;> omega
      · rintro (q | q) <;> omega
  have e2 : (List.range cs.length).map (fun i => cs.getD i ("", 0)) = cs := by
    refine List.ext_getElem (by rw [List.length_map, List.length_range]) fun i h1 h2 => ?_
    rw [List.getElem_map, List.getElem_range, List.getD_eq_getElem?_getD, List.getElem?_eq_getElem h2]
    rfl
  rw [e]
  conv => rhs; rw [show sb cs = sortV (cs.map fun c => c.2) ((List.range cs.length).map fun i => cs.getD i ("", 0)) by rw [e2]]
  rw [sortV_map]
  unfold sortV
  rw [List.map_map, List.map_map]
  rfl
def kOf (H : Hp) : V → Int × Int
  | .ref t => match H t with
    | some (.tup [.int i, .int j]) => (i, j)
    | _ => (0, 0)
  | _ => (0, 0)
theorem kOf_at {H : Hp} {t : Addr} {i j : Int} (h : H t = some (.tup [.int i, .int j])) : kOf H (.ref t) = (i, j) := by
  show (match H t with
    | some (.tup [.int i, .int j]) => (i, j)
    | _ => (0, 0)) = _
  rw [h]
theorem pairs_refs {H : Hp} : ∀ {ws : List V} {cs : List (Str × Int)}, PairsAt H ws cs → ∃ ps : List Addr, ws = ps.map V.ref ∧ PySem.Paired (fun p (c : Str × Int) => H p = some (.tup [.str c.1, .int c.2])) ps cs
  | _, _, .nil => ⟨[], rfl, .nil⟩
  | _, _, .cons ⟨t, e, h⟩ r => by
    obtain ⟨ps, e2, r2⟩ := pairs_refs r
    exact ⟨t :: ps, by rw [e, e2]; rfl, .cons h r2⟩
theorem pair_mapR {α β γ : Type} {R : α → β → Prop} {S : α → γ → Prop} {f : β → γ} (h : ∀ a b, R a b → S a (f b)) : ∀ {as : List α} {bs : List β}, PySem.Paired R as bs → PySem.Paired S as (bs.map f)
  | _, _, .nil => .nil
  | _, _, .cons k r => .cons (h _ _ k) (pair_mapR h r)
theorem flat_take {α β : Type} (f : α → List β) (l : List α) (j : Nat) : ((l.take j).map f).flatten.length ≤ (l.map f).flatten.length := by
  conv => rhs; rw [← List.take_append_drop j l, List.map_append, List.flatten_append, List.length_append]
  omega
theorem cat_tupQ {K : PySem.W.Frag} {H : Hp} {a b : Addr} {xs ys : List V} {Q : VK} (ha : H a = some (.tup xs)) (hb : H b = some (.tup ys)) (ne : ys ≠ []) (hz : xs.length + ys.length ≤ sizeLine) (h : ∀ c H', Same H H' → H' c = some (.tup (xs ++ ys)) → Q (.ref c) H') : rCatA K (.ref a) (.ref b) H Q := by
  refine ⟨a, b, xs, ys, rfl, rfl, SqT.of ha, SqT.of hb, hz, fun e => ?_, fun _ e => absurd e ne, fun _ _ p hp => h p _ (Shg.same_upd hp) upd_same⟩
  exact h b H (Same.refl _) (by rw [e]; exact hb)
theorem come_val {cs : List (Str × Int)} (nd : (cs.map fun c => c.1).Nodup) : ∀ c ∈ cs, valV (mergeK [] (cs.map fun c => ((Sum.inr c.1 : L2.Key), V.int c.2))) (.inr c.1) = some (.int c.2) := fun c hc => by
  have h := merge_pairs (fun z => ((cs.find? fun c => c.1 == z).getD ("", 0)).2) cs [] c.1 (fun p hp => ?_) (.inl (List.mem_map.mpr ⟨c, hc, rfl⟩))
  · rw [h, find_one nd hc]
    rfl
  · rw [find_one nd hp]
    rfl
section
variable {P : Program} {w : World} {K : PySem.W.Frag} {mg : Str → Option Value} {base : Heap}
theorem scLWays : FnScope NWy ["_law_comings", "_law_goings"] (defScope sLawWays) := ⟨rfl, rfl, rfl, by decide +kernel, rfl, by decide +kernel, by decide +kernel⟩
abbrev OneAt (H : Hp) (u : V) (p : Str × Nat) : Prop := ∃ t, u = V.ref t ∧ H t = some (.tup [.str p.1, .int (p.2 : Int)])
theorem ones_mono {H H' : Hp} {vs : List V} {v : Way} (h : PySem.Paired (OneAt H) vs v) (k : ∀ b xs, H b = some (.tup xs) → H' b = some (.tup xs)) : PySem.Paired (OneAt H') vs v := pair_mono (fun _ _ ⟨t, e, q⟩ => ⟨t, e, k _ _ q⟩) h
/-- a way, as a tuple of pairs -/
def WayAt (H : Hp) (t : Addr) (v : Way) : Prop := ∃ vs, H t = some (.tup vs) ∧ PySem.Paired (OneAt H) vs v
theorem WayAt.mono {H H' : Hp} {t : Addr} {v : Way} (h : WayAt H t v) (k : ∀ b xs, H b = some (.tup xs) → H' b = some (.tup xs)) : WayAt H' t v := by
  obtain ⟨vs, h1, h2⟩ := h
  exact ⟨vs, k _ _ h1, pair_mono (fun _ _ ⟨t, e, q⟩ => ⟨t, e, k _ _ q⟩) h2⟩
abbrev WaysV (H : Hp) (ys : List V) (ws : List Way) : Prop := PySem.Paired (fun u v => ∃ t, u = V.ref t ∧ WayAt H t v) ys ws
theorem ways_monoV {H H' : Hp} {ys : List V} {ws : List Way} (h : WaysV H ys ws) (k : ∀ b xs, H b = some (.tup xs) → H' b = some (.tup xs)) : WaysV H' ys ws := pair_mono (fun _ _ ⟨t, e, q⟩ => ⟨t, e, q.mono k⟩) h
def spLawWays : Sp := fun vs H Q _ => ∃ (Cm Gm : Addr) (ws : List V) (cs : List (Str × Int)) (gs : List Int), vs = [.ref Cm, .ref Gm] ∧ H Cm = some (.lst ws) ∧ PairsAt H ws cs ∧ H Gm = some (.lst (gs.map V.int)) ∧ cs.length ≤ 6 ∧ (cs.map fun c => c.1).Nodup ∧ Valid9 cs gs ∧
  ∀ (L : Addr) H' ys, Same H H' → H L = none → H' L = some (.lst ys) → WaysV H' ys (lawW cs gs [[]]) → Q (.ref L) H'
theorem ok_lawWays {f : Addr} {fd : FuncData} (F : Fun K "_law_ways" "_law_ways" sLawWays f fd) (B : Shg.Blt mg) : FnOk P w K mg base CX0 1 f fd ["_law_comings", "_law_goings"] spLawWays := by
  refine F.ok scLWays (fun vs H Q E h => ?_) (fun cdv A outer s H vs Q E hr h => ?_)
  · obtain ⟨Cm, Gm, ws, cs, gs, rfl, _⟩ := h
    rfl
  obtain ⟨Cm, Gm, ws, cs, gs, rfl, hC, pC, hG, few, nd6, va, kk⟩ := h
  have nd := scLWays.nd
  refine ⟨_, (pss_cons (ps_setLc (i := 2) (own := [("_law_come", 11), ("_law_k", 10)]) (g := gTup K 2 (gCons (gName 11) (gCons (gName 10) gNil))) (tt := tYes) (te := tOp (rIxT K) (tOp (rIxL K) (tVar 0) (tVar 10)) (tC (.int 0))) rfl nd rfl rfl (sw_true rfl rfl rfl (by decide +kernel)) (pi_list (pe_callB cr_sortedPO (by rfl) B.sorted (by decide +kernel) (pa_cons (pe_lc (own := [("_law_k", 10)]) (g := gName 10) (tt := tYes) (te := tTup (tCons (tOp (rIxT K) (tOp (rIxL K) (tVar 0) (tVar 10)) (tC (.int 1))) (tCons (tVar 10) tNil))) rfl nd (pi_range1 (by rfl) B.range (pa_cons (pe_callB call_len_seq (by rfl) B.len PySem.boot_len (pa_cons (pv 0) pa_nil)) pa_nil)) (blkOk_by (own := [("_law_k", 10)]) (N := NWy) (sc := defScope sLawWays) (by decide +kernel))
        (fun _ _ _ _ _ => (pg_name (i := 10) nd rfl (Or.inl rfl))) (fun _ _ _ _ _ => pts_nil) (fun _ _ _ _ _ => (pe_tup (pa_cons (pe_ix ix_tup (pe_ix ix_list (pv 0) (pv 10) (fun _ _ => rfl)) pe_int (fun _ _ => rfl)) (pa_cons (pv 10) pa_nil))))) pa_nil))) (blkOk_by (own := [("_law_come", 11), ("_law_k", 10)]) (N := NWy) (sc := defScope sLawWays) (by decide +kernel))
        (fun _ _ _ _ _ => pg_tup rfl (pgs_cons (pg_name (i := 11) nd rfl (Or.inl rfl)) (pgs_cons (pg_name (i := 10) nd rfl (Or.inl rfl)) pgs_nil))) (fun _ _ _ _ _ => pts_nil) (fun _ _ _ _ _ => (pe_ix ix_tup (pe_ix ix_list (pv 0) (pv 10) (fun _ _ => rfl)) pe_int (fun _ _ => rfl))))
      (pss_cons (ps_asg (pe_tup (pa_cons (pe_callTy (call_dictP rfl) (by rfl) B.dict (by decide +kernel) (pa_cons (pv 0) pa_nil)) (pa_cons (pe_lst (pa_cons (pe_tup pa_nil) pa_nil)) pa_nil))) (pg_tup rfl (pgs_cons (pg_name (i := 3) nd rfl (Or.inr rfl)) (pgs_cons (pg_name (i := 4) nd rfl (Or.inl rfl)) pgs_nil))))
      (pss_cons (ps_for PassesOwn.never rfl (pi_list (pv 1)) (pg_name (i := 5) nd rfl (Or.inr rfl)) (pss_cons (ps_set (i := 6) nd rfl (Or.inl rfl) (pe_lst pa_nil))
      (pss_cons (ps_for PassesOwn.never rfl (pi_list (pv 4)) (pg_name (i := 7) nd rfl (Or.inr rfl)) (pss_cons (ps_set (i := 8) nd rfl (Or.inr rfl) (pe_lc (own := [("_law_one", 12)]) (g := gName 12) (tt := tYes) (te := tOp (rIxT K) (tVar 12) (tC (.int 0))) rfl nd (pi_tup (pv 7)) (blkOk_by (own := [("_law_one", 12)]) (N := NWy) (sc := defScope sLawWays) (by decide +kernel))
        (fun _ _ _ _ _ => (pg_name (i := 12) nd rfl (Or.inl rfl))) (fun _ _ _ _ _ => pts_nil) (fun _ _ _ _ _ => (pe_ix ix_tup (pv 12) pe_int (fun _ _ => rfl)))))
      (pss_cons (ps_set (i := 9) nd rfl (Or.inr rfl) (pe_lc (own := [("_law_name", 13)]) (g := gName 13) (tt := tAnd (tTest (tOp (rIn K true) (tVar 13) (tVar 8))) (tTest (tOp (rI0 fun i j => .bl (decide (i < j))) (tDGet (tVar 3) (tVar 13)) (tVar 5)))) (te := tVar 13) rfl nd (pi_list (pv 2)) (blkOk_by (own := [("_law_name", 13)]) (N := NWy) (sc := defScope sLawWays) (by decide +kernel))
        (fun _ _ _ _ _ => (pg_name (i := 13) nd rfl (Or.inl rfl))) (fun _ _ _ _ _ => pts_one (PW.pt (pw_and (pt_cmpR op_notIn_seq (pv 13) (pv 8) rfl) (pw_and1 (pt_cmpR op_lt (pe_dget (hu_of hr) (pv 3) (pv 13) (fun _ _ => rfl)) (pv 5) (nomark _)))))) (fun _ _ _ _ _ => (pv 13))))
      (pss_one (ps_set (i := 6) nd rfl (Or.inl rfl) (pe_op op_cat (pv 6) (pe_lc (own := [("_law_k", 10)]) (g := gName 10) (tt := tYes) (te := tOp (rCatA K) (tVar 7) (tTup (tCons (tTup (tCons (tOp (rIxL K) (tVar 9) (tVar 10)) (tCons (tOp (rI0 fun i j => .int (i - j)) (tOp (rI0 fun i j => .int (i - j)) (tCB (fun xs H_1 Q => ∃ p ys, xs = [V.ref p] ∧ (SqL K H_1 p ys ∨ SqT K H_1 p ys) ∧ Q (.int ys.length) H_1) (tCons (tVar 9) tNil)) (tC (.int 1))) (tVar 10)) tNil))) tNil))) rfl nd (pi_range1 (by rfl) B.range (pa_cons (pe_callB call_len_seq (by rfl) B.len PySem.boot_len (pa_cons (pv 9) pa_nil)) pa_nil)) (blkOk_by (own := [("_law_k", 10)]) (N := NWy) (sc := defScope sLawWays) (by decide +kernel))
        (fun _ _ _ _ _ => (pg_name (i := 10) nd rfl (Or.inl rfl))) (fun _ _ _ _ _ => pts_nil) (fun _ _ _ _ _ => (pe_op op_catA (pv 7) (pe_tup (pa_cons (pe_tup (pa_cons (pe_ix ix_list (pv 9) (pv 10) (fun _ _ => rfl)) (pa_cons (pe_op op_sub (pe_op op_sub (pe_callB call_len_seq (by rfl) B.len PySem.boot_len (pa_cons (pv 9) pa_nil)) pe_int) (pv 10)) pa_nil))) pa_nil)))))))))))
      (pss_one (ps_set (i := 4) nd rfl (Or.inl rfl) (pv 6))))))
      (pss_one (ps_ret (pv 4)))))), ?_⟩
  have lw := Shg.pair_len pC
  have sz : 1000 < sizeLine := by decide
  -- the order of coming
  refine asg_rel (fun v H' => ∃ L : Addr, v = .ref L ∧ Same H H' ∧ H' L = some (.lst (((sb cs).map fun c => c.1).map V.str))) (fun R0 h0 => ?_) fun vo H1 h1 => ?_
  · refine ⟨_, rfl, Cm, ws, rfl, .inl (SqL.of hC), _, rfl, by omega, by omega, fun D hD => ?_⟩
    have en : ((ws.length : Nat) : Int).toNat = cs.length := by omega
    refine lc_rel walk_range (fun i y H => ∃ c t, cs[i]? = some c ∧ y = V.ref t ∧ H t = some (.tup [.int c.2, .int (i : Int)])) hD (by omega) (fun _ _ => trivial) (fun i y H H' st ⟨c, t, h1, h2, h3⟩ => ⟨c, t, h1, h2, st _ _ h3⟩) (fun i x H2 H3 hi s2 yy R k1 => ?_) fun H2 ys s2 e2 len2 rel2 => ?_
    · obtain ⟨rfl, rfl⟩ := yy
      have zi : (0 : Int) + (i : Nat) = (i : Nat) := by omega
      rw [en] at hi
      obtain ⟨c, hc⟩ : ∃ c, cs[i]? = some c := ⟨_, List.getElem?_eq_getElem hi⟩
      obtain ⟨v, hv⟩ : ∃ v, ws[i]? = some v := ⟨_, List.getElem?_eq_getElem (by omega)⟩
      obtain ⟨c', hc', t, rfl, ht⟩ := Shg.pair_get pC hv
      rw [hc] at hc'
      cases hc'
      refine ⟨rfl, _, rfl, _, rfl, Cm, ws, _, .ref t, rfl, rfl, SqL.of (s2 _ _ hC), by rw [zi]; exact atI_nat hv, t, _, 1, .int c.2, rfl, rfl, SqT.of (s2 _ _ ht), atI_nat (j := 1) rfl, _, rfl, by show 2 ≤ sizeLine; decide, fun p hp => ?_⟩
      exact k1 _ _ (Shg.same_upd hp) ⟨c, p, hc, rfl, by show upd H3 p (.tup [.int c.2, .int (0 + (i : Int))]) p = _; rw [zi]; exact upd_same⟩
    rw [en] at len2
    have at2 : ∀ (i : Nat) y, ys[i]? = some y → ∃ c, cs[i]? = some c ∧ kOf H2 y = (c.2, (i : Int)) ∧ ∃ t, y = V.ref t ∧ H2 t = some (.tup [.int c.2, .int (i : Int)]) := fun i y hy => by
      obtain ⟨c, t, q1, rfl, q3⟩ := rel2 i y hy
      exact ⟨c, q1, kOf_at q3, t, rfl, q3⟩
    refine ⟨D, ys, kOf H2, rfl, SqL.of e2, fun x hx => ?_, fun zs p srt stb hp => ?_⟩
    · obtain ⟨i, hi⟩ := List.getElem?_of_mem hx
      obtain ⟨c, _, q2, t, rfl, q3⟩ := at2 i x hi
      exact ⟨t, rfl, by rw [q2]; exact q3⟩
    have s3 := Shg.same_upd (o := .lst zs) hp
    have e3 : upd H2 p (.lst zs) p = some (.lst zs) := upd_same
    generalize upd H2 p (.lst zs) = H3 at s3 e3 ⊢
    have kq : ys.map (fun y => ((kOf H2 y).1, (kOf H2 y).2.toNat)) = (cs.map fun c => c.2).zip (List.range cs.length) := by
      refine List.ext_getElem? fun i => ?_
      rw [List.getElem?_map]
      by_cases hi : i < cs.length
      · obtain ⟨y, hy⟩ : ∃ y, ys[i]? = some y := ⟨_, List.getElem?_eq_getElem (by omega)⟩
        obtain ⟨c, q1, q2, _⟩ := at2 i y hy
        rw [hy, Option.map_some, q2]
        refine Eq.symm (List.getElem?_zip_eq_some.mpr ⟨by rw [List.getElem?_map, q1]; rfl, ?_⟩)
        rw [List.getElem?_range hi]
        rfl
      · rw [List.getElem?_eq_none (by omega), List.getElem?_eq_none (by rw [List.length_zip, List.length_map, List.length_range]; omega)]
        rfl
    have pq := stb.perm.map fun y => ((kOf H2 y).1, (kOf H2 y).2.toNat)
    rw [kq] at pq
    have zat : ∀ x ∈ zs, ∃ (i : Nat) (c : Str × Int), cs[i]? = some c ∧ kOf H2 x = (c.2, (i : Int)) ∧ ∃ t, x = V.ref t ∧ H2 t = some (.tup [.int c.2, .int (i : Int)]) := fun x hx => by
      obtain ⟨i, hi⟩ := List.getElem?_of_mem (stb.perm.mem_iff.mp hx)
      obtain ⟨c, q⟩ := at2 i x hi
      exact ⟨i, c, q⟩
    have ord := order_eq pq (by
      rw [List.pairwise_map]
      refine List.Pairwise.imp_of_mem (fun {x y} hx hy h => ?_) srt
      have h := SrtO.lexB_no.mp h
      obtain ⟨i, c, _, q2, _⟩ := zat x hx
      obtain ⟨j, d, _, r2, _⟩ := zat y hy
      rw [q2, r2] at h
      rw [q2, r2]
      have h : ¬ (d.2 < c.2 ∨ (d.2 = c.2 ∧ (j : Int) < (i : Int))) := h
      show ¬ (d.2 < c.2 ∨ (d.2 = c.2 ∧ (j : Int).toNat < (i : Int).toNat))
      omega)
    have lz : zs.length = cs.length := by rw [stb.perm.length_eq]; exact len2
    refine ⟨p, rfl, ⟨_, SqL.of e3⟩, fun D2 hD2 => ?_⟩
    have s03 := s2.trans s3
    refine lc_map (walk_list (K := K) (a := p) (xs := zs)) (fun j => (zs[j]?).map fun x => V.str (cs.getD (kOf H2 x).2.toNat ("", 0)).1) hD2 (by omega) (fun H4 s4 => SqL.of (s4 _ _ e3)) (fun j v H5 H4 hj s4 yy R' k1 => ?_) (fun j hj => ⟨_, by rw [List.getElem?_eq_getElem hj]; rfl⟩) fun H4 s4 e4 => ?_
    · obtain ⟨rfl, e5⟩ := yy
      obtain ⟨i, c, q1, q2, t, rfl, q3⟩ := zat v (List.mem_of_getElem? e5)
      have hi := (List.getElem?_eq_some_iff.mp q1).1
      obtain ⟨u, hu⟩ : ∃ u, ws[i]? = some u := ⟨_, List.getElem?_eq_getElem (by omega)⟩
      obtain ⟨c', hc', t', rfl, ht'⟩ := Shg.pair_get pC hu
      rw [q1] at hc'
      cases hc'
      refine ⟨t, _, rfl, SqT.of (s4 _ _ (s3 _ _ q3)), rfl, _, _, rfl, _, _, rfl, rfl, rfl, ?_⟩
      refine ⟨_, rfl, _, rfl, Cm, ws, _, .ref t', rfl, rfl, SqL.of ((s03.trans s4) _ _ hC), atI_nat hu, t', _, 0, .str c.1, rfl, rfl, SqT.of ((s03.trans s4) _ _ ht'), atI_nat (j := 0) rfl, k1 _ _ (Same.refl _) ?_⟩
      rw [e5]
      show some (V.str (cs.getD (kOf H2 (V.ref t)).2.toNat ("", 0)).1) = _
      rw [q2, show ((c.2, (i : Int)).2).toNat = i from Int.toNat_natCast i, List.getD_eq_getElem?_getD, q1]
      rfl
    · rw [gather_map zs fun x => V.str (cs.getD (kOf H2 x).2.toNat ("", 0)).1] at e4
      refine h0 _ _ ⟨D2, rfl, s03.trans s4, ?_⟩
      rw [e4, ← ord, List.map_map, List.map_map]
      rfl
  obtain ⟨Lo, rfl, s1, eLo⟩ := h1
  obtain ⟨ps, ews, rps⟩ := pairs_refs pC
  have rk : PySem.Paired (fun p (kv : L2.Key × V) => H1 p = some (.tup [kV kv.1, kv.2])) ps (cs.map fun c => ((Sum.inr c.1 : L2.Key), V.int c.2)) := pair_mapR (S := fun p (kv : L2.Key × V) => H1 p = some (.tup [kV kv.1, kv.2])) (f := fun c : Str × Int => ((Sum.inr c.1 : L2.Key), V.int c.2)) (fun p c h => s1 _ _ h) rps
  -- the dict, the first way
  refine name_at ⟨_, rfl, Cm, ps, cs.map (fun c => ((Sum.inr c.1 : L2.Key), V.int c.2)), rfl, by rw [← ews]; exact SqL.of (s1 _ _ hC), pair_mono (fun _ _ h => SqT.of h) rk, fun pd hpd => ⟨Nat.zero_le _, fun e0 he0 => ⟨by show 1 ≤ sizeLine; decide, fun W0 hW0 => ⟨by show 2 ≤ sizeLine; decide, fun tp htp => ⟨tp, _, rfl, SqT.of upd_same, rfl, _, _, rfl, _, _, rfl, rfl, ?_⟩⟩⟩⟩⟩
  have u1 := Shg.same_upd (o := .dK (mergeK [] (cs.map fun c => ((Sum.inr c.1 : L2.Key), V.int c.2)))) hpd
  have u2 := Shg.same_upd (o := .tup []) he0
  have u3 := Shg.same_upd (o := .lst [.ref e0]) hW0
  have u4 := Shg.same_upd (o := .tup [.ref pd, .ref W0]) htp
  have eD := (u2.trans (u3.trans u4)) _ _ (upd_same (H := H1) (a := pd) (o := .dK (mergeK [] (cs.map fun c => ((Sum.inr c.1 : L2.Key), V.int c.2)))))
  have ee := (u3.trans u4) _ _ (upd_same (H := upd H1 pd (.dK (mergeK [] (cs.map fun c => ((Sum.inr c.1 : L2.Key), V.int c.2))))) (a := e0) (o := .tup []))
  have eW := u4 _ _ (upd_same (H := upd (upd H1 pd (.dK (mergeK [] (cs.map fun c => ((Sum.inr c.1 : L2.Key), V.int c.2))))) e0 (.tup [])) (a := W0) (o := .lst [.ref e0]))
  have s12 := u1.trans (u2.trans (u3.trans u4))
  have s02 := s1.trans s12
  have fW0 : H W0 = none := by
    cases e : H W0 with
    | none => rfl
    | some o => rw [(s1.trans (u1.trans u2)) _ _ e] at hW0; cases hW0
  generalize upd (upd (upd (upd H1 pd (.dK (mergeK [] (cs.map fun c => ((Sum.inr c.1 : L2.Key), V.int c.2))))) e0 (.tup [])) W0 (.lst [.ref e0])) tp (.tup [.ref pd, .ref W0]) = Hb at *
  have eLb := s12 _ _ eLo
  clear u1 u2 u3 u4 hpd he0 hW0 htp s12
  have lall := fun i h => law_take nd6 va i h
  refine ⟨_, rfl, Gm, rfl, ⟨_, SqL.of (s02 _ _ hG)⟩, for_it (walk_list (K := K) (a := Gm) (xs := gs.map V.int)) (fun i σ H' => ∃ (o5 o6 o7 o8 o9 : Option V) (W : Addr) (ys : List V), σ = [some (.ref Cm), some (.ref Gm), some (.ref Lo), some (.ref pd), some (.ref W), o5, o6, o7, o8, o9, none, none, none, none] ∧ Same Hb H' ∧ H W = none ∧ H' W = some (.lst ys) ∧ WaysV H' ys (lawW cs (gs.take i) [[]]))
    ⟨none, none, none, none, none, W0, [.ref e0], rfl, Same.refl _, fW0, eW, .cons ⟨e0, rfl, [], ee, .nil⟩ .nil⟩ (fun i σ H' _ ⟨_, _, _, _, _, _, _, _, s, _⟩ => SqL.of (s _ _ (s02 _ _ hG))) ?_ ?_⟩
  · rintro i y σ H3 H2 hi ⟨o5, o6, o7, o8, o9, W, ys, rfl, s2, fW, eW2, wy⟩ ⟨rfl, ey⟩
    rw [List.length_map] at hi
    rw [List.getElem?_map] at ey
    obtain ⟨g, hg, rfl⟩ := Option.map_eq_some_iff.mp ey
    obtain ⟨all1, few1, _⟩ := lall i (by omega)
    obtain ⟨_, few2, _⟩ := lall (i + 1) (by omega)
    have enx : lawW cs (gs.take (i + 1)) [[]] = nextW cs (lawW cs (gs.take i) [[]]) g := by
      unfold lawW
      rw [List.take_succ, hg, List.foldl_append]
      rfl
    rw [enx] at few2 ⊢
    have b1 : dfac cs.length i ≤ 720 := dfac_le few (by have := va.all; omega)
    have b2 : dfac cs.length (i + 1) ≤ 720 := dfac_le few (by have := va.all; omega)
    generalize lawW cs (gs.take i) [[]] = wl at *
    have lwy := Shg.pair_len wy
    clear enx
    refine name_at ⟨Nat.zero_le _, fun L0 hL0 => name_at ?_⟩
    have u5 := Shg.same_upd (o := .lst []) hL0
    have e5 : upd H2 L0 (.lst []) L0 = some (.lst []) := upd_same
    have fL0 : H L0 = none := by
      cases e : H L0 with
      | none => rfl
      | some o => rw [(s02.trans s2) _ _ e] at hL0; cases hL0
    have s3 := s2.trans u5
    have eW3 := u5 _ _ eW2
    have wy3 := ways_monoV wy fun b xs e => u5 _ _ e
    generalize upd H2 L0 (.lst []) = H4 at *
    clear u5 hL0 eW2 wy s2
    refine ⟨_, rfl, W, rfl, ⟨_, SqL.of eW3⟩, for_it (walk_list (K := K) (a := W) (xs := ys)) (fun j σ H' => ∃ (o7 o8 o9 : Option V) (L : Addr) (zs : List V), σ = [some (.ref Cm), some (.ref Gm), some (.ref Lo), some (.ref pd), some (.ref W), some (.int g), some (.ref L), o7, o8, o9, none, none, none, none] ∧ Same H4 H' ∧ H L = none ∧ H' L = some (.lst zs) ∧ WaysV H' zs ((wl.take j).map (moreW cs g)).flatten)
      ⟨_, _, _, L0, [], rfl, Same.refl _, fL0, e5, .nil⟩ (fun j σ H' _ ⟨_, _, _, _, _, _, s, _⟩ => SqL.of (s _ _ eW3)) ?_ ?_⟩
    · rintro j x σ H6 H5 hj ⟨p7, p8, p9, L, zs, rfl, s5, fL, eL5, wz⟩ ⟨rfl, ex⟩
      obtain ⟨v, hv, t, rfl, vs, ht, rv⟩ := Shg.pair_get wy3 ex
      have hj : j < wl.length := by omega
      have S5 := s3.trans s5
      have lv := Shg.pair_len rv
      obtain ⟨lvi, gwv⟩ := all1 v (List.mem_of_getElem? hv)
      have i6 : i < 6 := by have := va.all; omega
      have lzs := Shg.pair_len wz
      have lmore : ((wl.take (j + 1)).map (moreW cs g)).flatten = ((wl.take j).map (moreW cs g)).flatten ++ moreW cs g v := by
        rw [List.take_succ, hv, List.map_append, List.flatten_append]
        simp
      have bnd : ((wl.take (j + 1)).map (moreW cs g)).flatten.length ≤ 720 := Nat.le_trans (flat_take _ _ _) (Nat.le_trans few2 b2)
      rw [lmore] at bnd ⊢
      rw [List.length_append] at bnd
      have lm : (moreW cs g v).length = (pileW cs g (nmsW v)).length := by
        unfold moreW
        rw [List.length_map, List.length_range]
      have ht5 := s5 _ _ ht
      have rv5 := ones_mono rv fun b xs e => s5 _ _ e
      refine name_at (asg_rel (fun v' H' => ∃ D : Addr, v' = .ref D ∧ Same H5 H' ∧ H' D = some (.lst ((nmsW v).map V.str))) (fun R0 h0 => ?_) fun vg H7 h7 => ?_)
      · refine ⟨_, rfl, t, rfl, ⟨_, SqT.of ht5⟩, fun D hD => ?_⟩
        refine lc_map walk_tup (fun i => (v[i]?).map fun p => V.str p.1) hD (by rw [lv]; omega) (fun H8 s8 => SqT.of (s8 _ _ ht5)) (fun i u H9 H8 hi s8 yy R k1 => ?_) (fun i hi => ⟨_, by rw [List.getElem?_eq_getElem (by omega)]; rfl⟩) fun H8 s8 e8 => ?_
        · obtain ⟨rfl, e9⟩ := yy
          obtain ⟨p, hp, tq, rfl, hq⟩ := Shg.pair_get rv5 e9
          exact ⟨rfl, _, rfl, tq, _, 0, .str p.1, rfl, rfl, SqT.of (s8 _ _ hq), atI_nat (j := 0) rfl, k1 _ _ (Same.refl _) (by rw [hp]; rfl)⟩
        · rw [lv, gather_map v fun p => V.str p.1] at e8
          exact h0 _ _ ⟨D, rfl, s8, by rw [List.map_map]; exact e8⟩
      obtain ⟨Lg, rfl, s7, eg7⟩ := h7
      have S7 := S5.trans s7
      -- who is there
      refine name_at (asg_rel (fun v' H' => ∃ D : Addr, v' = .ref D ∧ Same H7 H' ∧ H' D = some (.lst ((pileW cs g (nmsW v)).map V.str))) (fun R0 h0 => ?_) fun vh H8 h8 => ?_)
      · refine ⟨_, rfl, Lo, rfl, ⟨_, SqL.of (S7 _ _ eLb)⟩, fun D hD => ?_⟩
        refine lc_gather (walk_list (K := K) (a := Lo) (xs := ((sb cs).map fun c => c.1).map V.str)) (fun i => ((sb cs)[i]?).bind fun c => if (decide (c.1 ∉ nmsW v) && decide (c.2 < g)) = true then some (V.str c.1) else none) hD (by rw [List.length_map, List.length_map, (sb_perm cs).length_eq]; omega) (fun H9 s9 => SqL.of (s9 _ _ (S7 _ _ eLb))) (fun k u H9 HA hk s9 yy R k1 => ?_) fun H9 s9 e9 => ?_
        · obtain ⟨rfl, e10⟩ := yy
          rw [List.getElem?_map, List.getElem?_map] at e10
          obtain ⟨z, hz, rfl⟩ := Option.map_eq_some_iff.mp e10
          obtain ⟨c, hc, rfl⟩ := Option.map_eq_some_iff.mp hz
          have hcm := (sb_perm cs).mem_iff.mp (List.mem_of_getElem? hc)
          have k2 := k1 _ (Same.refl _)
          rw [hc] at k2
          have k2 : R (if (decide (c.1 ∉ nmsW v) && decide (c.2 < g)) = true then some (V.str c.1) else none) _ := k2
          refine ⟨rfl, _, rfl, _, rfl, Lg, _, rfl, .inl (SqL.of (s9 _ _ eg7)), rfl, flat_strs' _, ?_⟩
          rw [if_pos rfl, Go.inV_strs]
          refine ⟨_, rfl, ?_⟩
          by_cases q : c.1 ∈ nmsW v
          · rw [decide_eq_true q]
            rw [decide_eq_false (fun z => z q), Bool.false_and] at k2
            exact iteF (iteF k2)
          · rw [decide_eq_false q]
            rw [decide_eq_true q, Bool.true_and] at k2
            refine iteT ⟨_, rfl, _, rfl, pd, .int c.2, rfl, ?_, _, rfl, _, _, rfl, rfl, _, rfl, ?_⟩
            · have dg := DGet.k (k := .inr c.1) ((S7.trans s9) _ _ eD)
              rw [come_val nd6 c hcm] at dg
              exact dg
            · by_cases q2 : c.2 < g
              · rw [decide_eq_true q2] at k2 ⊢
                exact iteT ⟨_, rfl, k2⟩
              · rw [decide_eq_false q2] at k2 ⊢
                exact iteF k2
        · rw [List.length_map, List.length_map, gather_filter (sb cs) (fun c => decide (c.1 ∉ nmsW v) && decide (c.2 < g)) fun c => V.str c.1] at e9
          refine h0 _ _ ⟨D, rfl, s9, ?_⟩
          rw [e9]
          unfold pileW
          rw [List.map_map]
          rfl
      obtain ⟨Lh, rfl, s8, eh8⟩ := h8
      have s78 := s7.trans s8
      have S8 := S5.trans s78
      have wz8 := ways_monoV wz fun b xs e => s78 _ _ e
      have ht8 := s78 _ _ ht5
      have rv8 := ones_mono rv5 fun b xs e => s78 _ _ e
      have eL8 := s78 _ _ eL5
      have lpile : (pileW cs g (nmsW v)).length ≤ 6 := by
        have := pileW_le nd6 gwv g
        omega
      clear eg7 s7 S7
      -- one more going
      refine name_at ⟨_, rfl, _, rfl, Lh, _, rfl, .inl (SqL.of eh8), _, rfl, by rw [List.length_map]; omega, by rw [List.length_map]; omega, fun D hD => ?_⟩
      have en : ((((pileW cs g (nmsW v)).map V.str).length : Nat) : Int).toNat = (pileW cs g (nmsW v)).length := by
        rw [List.length_map]
        omega
      refine lc_rel walk_range (fun k y H => ∃ t, y = V.ref t ∧ WayAt H t (v ++ [onW (pileW cs g (nmsW v)) k])) hD (by omega) (fun _ _ => trivial) (fun k y H H' st ⟨t, h1, h2⟩ => ⟨t, h1, h2.mono st⟩) (fun k x H9 HA hk s9 yy R k1 => ?_) fun H9 ms s9 e9 len9 rel9 => ?_
      · obtain ⟨rfl, rfl⟩ := yy
        rw [en] at hk
        have zk : (0 : Int) + (k : Nat) = (k : Nat) := by omega
        have hz : (pileW cs g (nmsW v))[k]? = some ((pileW cs g (nmsW v)).getD k "") := by
          rw [List.getD_eq_getElem?_getD, List.getElem?_eq_getElem hk]
          rfl
        refine ⟨rfl, _, rfl, _, rfl, _, rfl, Lh, _, _, .str ((pileW cs g (nmsW v)).getD k ""), rfl, rfl, SqL.of (s9 _ _ eh8), by rw [zk]; exact atI_nat (by rw [List.getElem?_map, hz]; rfl), _, rfl, Lh, _, rfl, .inl (SqL.of (s9 _ _ eh8)), _, _, rfl, rfl, _, rfl, _, _, rfl, rfl, by show 2 ≤ sizeLine; decide, fun p1 hp1 => ⟨by show 1 ≤ sizeLine; decide, fun p2 hp2 => ?_⟩⟩
        have w1 := Shg.same_upd (o := .tup [.str ((pileW cs g (nmsW v)).getD k ""), .int ((((pileW cs g (nmsW v)).map V.str).length : Nat) - 1 - (0 + (k : Int)))]) hp1
        have w2 := Shg.same_upd (o := .tup [.ref p1]) hp2
        have ep1 := w2 _ _ (upd_same (H := HA) (a := p1) (o := .tup [.str ((pileW cs g (nmsW v)).getD k ""), .int ((((pileW cs g (nmsW v)).map V.str).length : Nat) - 1 - (0 + (k : Int)))]))
        have w12 := w1.trans w2
        refine cat_tupQ ((s9.trans w12) _ _ ht8) upd_same (by simp) (by rw [lv]; show _ + 1 ≤ _; omega) fun c HC sC eC => k1 _ _ (w12.trans sC) ⟨c, rfl, _, eC, ?_⟩
        refine pair_app (ones_mono rv8 fun b xs e => sC _ _ ((s9.trans w12) _ _ e)) (.cons ⟨p1, rfl, ?_⟩ .nil)
        have e1 := sC _ _ ep1
        rw [List.length_map, zk] at e1
        show HC p1 = some (.tup [.str ((pileW cs g (nmsW v)).getD k ""), .int (((pileW cs g (nmsW v)).length - 1 - k : Nat) : Int)])
        rw [show (((pileW cs g (nmsW v)).length - 1 - k : Nat) : Int) = ((pileW cs g (nmsW v)).length : Nat) - 1 - (k : Int) by omega]
        exact e1
      rw [en] at len9
      refine ⟨L, D, zs, ms, rfl, rfl, s9 _ _ eL8, e9, by omega, fun p hp => ?_⟩
      have w1 := Shg.same_upd (o := .lst (zs ++ ms)) hp
      have fp : H p = none := by
        cases e : H p with
        | none => rfl
        | some o => rw [((s02.trans S8).trans s9) _ _ e] at hp; cases hp
      refine ⟨_, _, _, p, zs ++ ms, rfl, (s5.trans s78).trans (s9.trans w1), fp, upd_same, ?_⟩
      refine pair_app (ways_monoV wz8 fun b xs e => w1 _ _ (s9 _ _ e)) (Shg.pair_of (by rw [lm]; exact len9) fun k y q hy hq => ?_)
      obtain ⟨t', h1, h2⟩ := rel9 k y hy
      unfold moreW at hq
      rw [List.getElem?_map] at hq
      obtain ⟨k', hk', rfl⟩ := Option.map_eq_some_iff.mp hq
      obtain ⟨hk1, hk2⟩ := List.getElem?_eq_some_iff.mp hk'
      rw [List.getElem_range] at hk2
      subst hk2
      exact ⟨t', h1, h2.mono fun b xs e => w1 _ _ e⟩
    · rintro σ H5 ⟨p7, p8, p9, L, zs, rfl, s5, fL, eL5, wz⟩
      rw [lwy, List.take_length] at wz
      exact nx_of ⟨_, rfl, _, _, _, _, _, L, zs, rfl, s3.trans s5, fL, eL5, wz⟩
  · rintro σ H2 ⟨o5, o6, o7, o8, o9, W, ys, rfl, s2, fW, eW2, wy⟩
    rw [List.length_map, List.take_length] at wy
    exact nx_of ⟨_, rfl, kk W H2 ys (s02.trans s2) fW eW2 wy⟩
end
end Jo
set_option Elab.async false
set_option linter.all false
set_option maxRecDepth 100000
set_option maxHeartbeats 2000000
/-! _law_same: of equal data, with lists and tuples. -/
namespace Smm
open PySem L2 Sho NdefX Shg Sh1
/-- x stands for d, at most n deep: ints, texts, tuples, lists -/
def Leaf (x : V) (d : PyData) : Prop := (∃ i, x = .int i ∧ d = .int i) ∨ ∃ z, x = .str z ∧ d = .str z
def Stands (H : Hp) : Nat → V → PyData → Prop
  | 0, x, d => Leaf x d
  | n + 1, x, d => Leaf x d ∨ (∃ (a : Addr) (xs : List V) (ds : List PyData), x = .ref a ∧ d = .tuple ds ∧ H a = some (.tup xs) ∧ xs.length ≤ 1000 ∧ PySem.Paired (fun y e => Stands H n y e) xs ds) ∨
      ∃ (a : Addr) (xs : List V) (ds : List PyData), x = .ref a ∧ d = .list ds ∧ H a = some (.lst xs) ∧ xs.length ≤ 1000 ∧ PySem.Paired (fun y e => Stands H n y e) xs ds
theorem Stands.same {H H' : Hp} (s : Same H H') : ∀ {n : Nat} {x : V} {d : PyData}, Stands H n x d → Stands H' n x d
  | 0, _, _, h => h
  | n + 1, x, d, h => by
    rcases h with h | ⟨a, xs, ds, e1, e2, e3, e4, e5⟩ | ⟨a, xs, ds, e1, e2, e3, e4, e5⟩
    · exact .inl h
    · exact .inr (.inl ⟨a, xs, ds, e1, e2, s _ _ e3, e4, Shg.pair_mono (fun _ _ h => Stands.same s h) e5⟩)
    · exact .inr (.inr ⟨a, xs, ds, e1, e2, s _ _ e3, e4, Shg.pair_mono (fun _ _ h => Stands.same s h) e5⟩)
section
variable {P : Program} {w : World} {K : PySem.W.Frag} {mg : Str → Option Value} {base : Heap}
def spSame (n : Nat) : Sp := fun vs H Q _ => ∃ (x y : V) (d : PyData), vs = [x, y] ∧ Stands H n x d ∧ Stands H n y d ∧ ∀ H', Same H H' → Q (.bl true) H'
theorem scSame : FnScope ["_law_result", "_law_expected", "_law_k"] ["_law_result", "_law_expected"] (defScope sSame) := ⟨rfl, rfl, rfl, by decide +kernel, rfl, by decide +kernel, by decide +kernel⟩
theorem kA {K : PySem.W.Frag} {t : String} (h1 : kitB t "tuple" = some false) (h2 : kitB t "list" = some false) : PySem.W.kitAny K (.type t) [.type "tuple", .type "list"] = some false :=
  kitAny_cons (b := false) h1 (fun _ => kitAny_cons (b := false) h2 (fun _ => rfl) fun z => nomatch z) fun z => nomatch z
theorem kT {K : PySem.W.Frag} : PySem.W.kitAny K (.type "tuple") [.type "tuple", .type "list"] = some true :=
  kitAny_cons (b := true) (show kitB "tuple" "tuple" = some true by decide +kernel) (fun z => nomatch z) fun _ => rfl
theorem kL {K : PySem.W.Frag} : PySem.W.kitAny K (.type "list") [.type "tuple", .type "list"] = some true :=
  kitAny_cons (b := false) (show kitB "list" "tuple" = some false by decide +kernel) (fun _ => kitAny_cons (b := true) (show kitB "list" "list" = some true by decide +kernel) (fun z => nomatch z) fun _ => rfl) fun z => nomatch z
/-- a leaf's class -/
theorem leaf_ty {K : PySem.W.Frag} {x : V} {d : PyData} (h : Leaf x d) : ∃ t : String, (∀ H, TyX K H x (.type t)) ∧ PySem.W.kitAny K (.type t) [.type "tuple", .type "list"] = some false ∧ kitB t "bool" = some false ∧ ∃ b, kitB t "int" = some b ∧ (b = true → ∃ i, d = .int i) ∧ (b = false → ∃ z, d = .str z) ∧ scal x x = true := by
  rcases h with ⟨i, rfl, rfl⟩ | ⟨z, rfl, rfl⟩
  · exact ⟨"int", fun _ => .base (.int i), kA (by decide +kernel) (by decide +kernel), by decide +kernel, true, by decide +kernel, fun _ => ⟨i, rfl⟩, (fun z => nomatch z), rfl⟩
  · exact ⟨"str", fun _ => .base (.str z), kA (by decide +kernel) (by decide +kernel), by decide +kernel, false, by decide +kernel, (fun z => nomatch z), fun _ => ⟨z, rfl⟩, rfl⟩
theorem leaf_eq {x y : V} {d : PyData} (h : Leaf x d) (k : Leaf y d) : x = y := by
  rcases h with ⟨i, rfl, rfl⟩ | ⟨z, rfl, rfl⟩ <;> rcases k with ⟨j, rfl, e⟩ | ⟨j, rfl, e⟩ <;> cases e <;> rfl
/-- a tuple or a list of items -/
def SeqO (b : Bool) (xs : List V) : HO := if b = true then .lst xs else .tup xs
abbrev tyB (b : Bool) : Value := if b = true then .type "list" else .type "tuple"
theorem stands_split {H : Hp} {n : Nat} {sp' : Sp} {x y : V} {d : PyData} (hn : n = 0 ∨ ∃ m, n = m + 1 ∧ sp' = spSame m) (hx : Stands H n x d) (hy : Stands H n y d) :
    (Leaf x d ∧ x = y) ∨ ∃ (q : Bool) (m : Nat) (a b : Addr) (xs ys : List V) (ds : List PyData), sp' = spSame m ∧ x = .ref a ∧ y = .ref b ∧ H a = some (SeqO q xs) ∧ H b = some (SeqO q ys) ∧ xs.length ≤ 1000 ∧
      PySem.Paired (fun y e => Stands H m y e) xs ds ∧ PySem.Paired (fun y e => Stands H m y e) ys ds := by
  have noleaf : ∀ {ds : List PyData} {y : V}, ¬ Leaf y (.tuple ds) ∧ ¬ Leaf y (.list ds) := fun {ds y} => by
    constructor
    · rintro (⟨i, _, z⟩ | ⟨i, _, z⟩) <;> cases z
    · rintro (⟨i, _, z⟩ | ⟨i, _, z⟩) <;> cases z
  rcases hn with rfl | ⟨m, rfl, e⟩
  · exact .inl ⟨hx, leaf_eq hx hy⟩
  · rcases hx with hx | ⟨a, xs, ds, rfl, rfl, h1, h2, h3⟩ | ⟨a, xs, ds, rfl, rfl, h1, h2, h3⟩
    · rcases hy with hy | ⟨b, ys, es, rfl, rfl, _⟩ | ⟨b, ys, es, rfl, rfl, _⟩
      · exact .inl ⟨hx, leaf_eq hx hy⟩
      · exact absurd hx noleaf.1
      · exact absurd hx noleaf.2
    · rcases hy with hy | ⟨b, ys, es, rfl, e2, g1, g2, g3⟩ | ⟨b, ys, es, rfl, e2, g1, g2, g3⟩
      · exact absurd hy noleaf.1
      · cases e2
        exact .inr ⟨false, m, a, b, xs, ys, ds, e, rfl, rfl, h1, g1, h2, h3, g3⟩
      · cases e2
    · rcases hy with hy | ⟨b, ys, es, rfl, e2, g1, g2, g3⟩ | ⟨b, ys, es, rfl, e2, g1, g2, g3⟩
      · exact absurd hy noleaf.2
      · cases e2
      · cases e2
        exact .inr ⟨true, m, a, b, xs, ys, ds, e, rfl, rfl, h1, g1, h2, h3, g3⟩
theorem seq_ty {H : Hp} {q : Bool} {a : Addr} {xs : List V} (h : H a = some (SeqO q xs)) : TyX K H (.ref a) (tyB q) := by
  cases q with
  | false => exact .base (.tup (show H a = some (.tup xs) from h))
  | true => exact .base (.lst (show H a = some (.lst xs) from h))
theorem seq_ka (q : Bool) : PySem.W.kitAny K (tyB q) [.type "tuple", .type "list"] = some true := by
  cases q with
  | false => exact kT
  | true => exact kL
theorem seq_kl (q : Bool) : ∃ t : String, tyB q = .type t ∧ kitB t "list" = some q := by
  cases q with
  | false => exact ⟨"tuple", rfl, by decide +kernel⟩
  | true => exact ⟨"list", rfl, by decide +kernel⟩
theorem seq_sq {H : Hp} {q : Bool} {a : Addr} {xs : List V} (h : H a = some (SeqO q xs)) : SqL K H a xs ∨ SqT K H a xs := by
  cases q with
  | false => exact .inr (SqT.of h)
  | true => exact .inl (SqL.of h)
theorem seq_ix {H : Hp} {q : Bool} {a : Addr} {xs : List V} {i : Nat} {j : Int} {v : V} {Q : VK} (h : H a = some (SeqO q xs)) (ej : j = (i : Int)) (hi : xs[i]? = some v) (k : Q v H) : rIx K (.ref a) (.int j) H Q := by
  subst ej
  cases q with
  | false => exact .inr (.inl ⟨a, xs, _, v, rfl, rfl, SqT.of h, atI_nat hi, k⟩)
  | true => exact .inl ⟨a, xs, _, v, rfl, rfl, SqL.of h, atI_nat hi, k⟩
theorem same_step {k n : Nat} {sp' : Sp} {f : Addr} {fd : FuncData} (F : Fun K "_law_same" "_law_same" sSame f fd) (B : Shg.Blt mg) (mF : mg "_law_same" = some (.ref f)) (bF : Binds K fd ["_law_result", "_law_expected"] [])
    (ih : FnOk P w K mg base CX0 k f fd ["_law_result", "_law_expected"] sp') (hn : n = 0 ∨ ∃ m, n = m + 1 ∧ sp' = spSame m) : FnOk P w K mg base CX0 (k + 1) f fd ["_law_result", "_law_expected"] (spSame n) := by
  refine F.ok scSame (fun vs H Q E h => ?_) (fun cdv A outer s H vs Q E hr h => ?_)
  · obtain ⟨x, y, d, rfl, _⟩ := h
    rfl
  · obtain ⟨x, y, d, rfl, hx, hy, kk⟩ := h
    have nd := scSame.nd
    refine ⟨_, (pss_cons (ps_if (pt_val (pe_callB call_isiT (by rfl) B.isi (by decide +kernel) (pa_cons (pv 1) (pa_cons (pe_tup (pa_cons (pe_bltn (v := .ty "tuple") (by rfl) B.tuple (by decide +kernel) rfl) (pa_cons (pe_bltn (v := .ty "list") (by rfl) B.list (by decide +kernel) rfl) pa_nil))) pa_nil)))) (pss_cons (ps_if (PW.pt (pw_or (pt_not (pt_val (pe_callB call_isiT (by rfl) B.isi (by decide +kernel) (pa_cons (pv 0) (pa_cons (pe_tup (pa_cons (pe_bltn (v := .ty "tuple") (by rfl) B.tuple (by decide +kernel) rfl) (pa_cons (pe_bltn (v := .ty "list") (by rfl) B.list (by decide +kernel) rfl) pa_nil))) pa_nil))))) (pw_or1 (pt_cmpR op_ne (pe_callB call_isi (by rfl) B.isi (by decide +kernel) (pa_cons (pv 0) (pa_cons (pe_bltn (v := .ty "list") (by rfl) B.list (by decide +kernel) rfl) pa_nil))) (pe_callB call_isi (by rfl) B.isi (by decide +kernel) (pa_cons (pv 1) (pa_cons (pe_bltn (v := .ty "list") (by rfl) B.list (by decide +kernel) rfl) pa_nil))) (nomark _))))) (pss_one (ps_ret pe_bl)) pss_nil)
      (pss_cons (ps_if (pt_cmpR op_ne (pe_callB call_len_seq (by rfl) B.len PySem.boot_len (pa_cons (pv 0) pa_nil)) (pe_callB call_len_seq (by rfl) B.len PySem.boot_len (pa_cons (pv 1) pa_nil)) (nomark _)) (pss_one (ps_ret pe_bl)) pss_nil)
      (pss_one (ps_ret (pe_cmpR (op_eqD (hr.mono (Nat.zero_le _)).units) (pe_lc (own := [("_law_k", 2)]) (g := gName 2) (tt := tNot (tB (tCall sp' [] E0 (tCons (tOp (rIx K) (tVar 0) (tVar 2)) (tCons (tOp (rIx K) (tVar 1) (tVar 2)) tNil))))) rfl nd
            (pi_range1 (by rfl) B.range (pa_cons (pe_callB call_len_seq (by rfl) B.len PySem.boot_len (pa_cons (pv 1) pa_nil)) pa_nil)) (blkOk_by (own := [("_law_k", 2)]) (N := ["_law_result", "_law_expected", "_law_k"]) (sc := defScope sSame) (by decide +kernel))
            (fun _ _ _ _ _ => (pg_name (i := 2) nd rfl (Or.inl rfl)))
            (fun _ _ _ _ _ => pts_one (pt_not (pt_val (pe_call ih hr rfl mF F.kp bF .nil pass0 (pa_cons (pe_ix ix_seq (pv 0) (pv 2) (fun _ _ => rfl)) (pa_cons (pe_ix ix_seq (pv 1) (pv 2) (fun _ _ => rfl)) pa_nil))))))
            (fun _ _ _ _ _ => pv 2)) (pe_lst pa_nil) (nomark _)))))) pss_nil)
      (pss_cons (ps_if (pt_cmpR op_ne (pe_callB call_isi (by rfl) B.isi (by decide +kernel) (pa_cons (pv 0) (pa_cons (pe_bltn (v := .ty "bool") (by rfl) B.bool (by decide +kernel) rfl) pa_nil))) (pe_callB call_isi (by rfl) B.isi (by decide +kernel) (pa_cons (pv 1) (pa_cons (pe_bltn (v := .ty "bool") (by rfl) B.bool (by decide +kernel) rfl) pa_nil))) (nomark _)) (pss_one (ps_ret pe_bl)) pss_nil)
      (pss_one (ps_ret (pe_and (pe_cmpR op_eq (pe_callB call_isi (by rfl) B.isi (by decide +kernel) (pa_cons (pv 0) (pa_cons (pe_bltn (v := .ty "int") (by rfl) B.int (by decide +kernel) rfl) pa_nil))) (pe_callB call_isi (by rfl) B.isi (by decide +kernel) (pa_cons (pv 1) (pa_cons (pe_bltn (v := .ty "int") (by rfl) B.int (by decide +kernel) rfl) pa_nil))) (nomark _)) (pe_one (pe_cmpR op_eq (pv 0) (pv 1) (nomark _)))))))), ?_⟩
    rcases stands_split hn hx hy with ⟨hl, e⟩ | ⟨q, m, a, b, xs, ys, ds, e, rfl, rfl, h1, h2, h3, h4, h5⟩
    · subst e
      obtain ⟨t, ty, ka, kb, bi, ki, ki1, ki2, hsc⟩ := leaf_ty (K := K) hl
      refine ⟨_, rfl, by decide, fun tp htp => ?_⟩
      have s1 : Same H (upd H tp (.tup [.ty "tuple", .ty "list"])) := Shg.same_upd htp
      refine ⟨x, tp, _, .type t, [.type "tuple", .type "list"], false, rfl, upd_same, .cons (.ty _) (.cons (.ty _) .nil), ty _, ka, _, rfl, iteF ?_⟩
      refine ⟨_, rfl, x, _, .type t, .type "bool", false, rfl, .ty _, ty _, kb, _, rfl, x, _, .type t, .type "bool", false, rfl, .ty _, ty _, kb, rfl, _, rfl, iteF ?_⟩
      refine ⟨_, rfl, x, _, .type t, .type "int", bi, rfl, .ty _, ty _, ki, _, rfl, x, _, .type t, .type "int", bi, rfl, .ty _, ty _, ki, rfl, true, by rw [decide_eq_true rfl], iteT ⟨_, rfl, _, rfl, hsc, ?_⟩⟩
      rw [decide_eq_true rfl]
      exact kk _ s1
    · subst e
      have lx := Shg.pair_len h4
      have ly := Shg.pair_len h5
      refine ⟨_, rfl, by decide, fun tp htp => ?_⟩
      have s1 := Shg.same_upd (o := .tup [.ty "tuple", .ty "list"]) htp
      refine ⟨.ref b, tp, _, tyB q, [.type "tuple", .type "list"], true, rfl, upd_same, .cons (.ty _) (.cons (.ty _) .nil), seq_ty (s1 _ _ h2), seq_ka q, _, rfl, iteT ?_⟩
      refine ⟨_, rfl, by decide, fun tq htq => ?_⟩
      have s2 := s1.trans (Shg.same_upd (o := .tup [.ty "tuple", .ty "list"]) htq)
      refine ⟨.ref a, tq, _, tyB q, [.type "tuple", .type "list"], true, rfl, upd_same, .cons (.ty _) (.cons (.ty _) .nil), seq_ty (s2 _ _ h1), seq_ka q, _, rfl, iteF ?_⟩
      obtain ⟨ts, et, kl⟩ := seq_kl q
      refine ⟨_, rfl, .ref a, _, tyB q, .type "list", q, rfl, .ty _, seq_ty (s2 _ _ h1), by rw [et]; exact kit_ty kl, _, rfl, .ref b, _, tyB q, .type "list", q, rfl, .ty _, seq_ty (s2 _ _ h2), by rw [et]; exact kit_ty kl, by cases q <;> rfl, false, by rw [decide_eq_true rfl]; rfl, iteF ?_⟩
      generalize upd (upd H tp (.tup [.ty "tuple", .ty "list"])) tq (.tup [.ty "tuple", .ty "list"]) = H2 at s2
      refine ⟨_, rfl, a, xs, rfl, seq_sq (s2 _ _ h1), _, rfl, b, ys, rfl, seq_sq (s2 _ _ h2), rfl, false, ?_, iteF ?_⟩
      · have e : (xs.length : Int) = (ys.length : Int) := by rw [lx, ly]
        rw [e, decide_eq_true rfl]
        rfl
      · have hlen : (ys.length : Int).toNat = ys.length := by simp
        have l1000 : ys.length ≤ 1000 := by omega
        refine ⟨_, rfl, b, ys, rfl, seq_sq (s2 _ _ h2), (ys.length : Nat), rfl, by omega, by omega, fun D hD => ?_⟩
        refine lc_gather walk_range (fun _ => none) hD (by rw [hlen]; exact Nat.le_trans l1000 (by decide)) (fun _ _ => trivial) (fun i v H3 H4 hi s3 yv R k1 => ?_) fun H3 s3 e3 => ?_
        · obtain ⟨rfl, rfl⟩ := yv
          rw [hlen] at hi
          obtain ⟨y', hy'⟩ : ∃ y', ys[i]? = some y' := ⟨_, List.getElem?_eq_getElem hi⟩
          obtain ⟨x', hx'⟩ : ∃ x', xs[i]? = some x' := ⟨_, List.getElem?_eq_getElem (by omega)⟩
          obtain ⟨e1, he1, st1⟩ := Shg.pair_get h4 hx'
          obtain ⟨e2, he2, st2⟩ := Shg.pair_get h5 hy'
          rw [he1] at he2
          cases he2
          have s23 := s2.trans s3
          have zi : (0 : Int) + (i : Nat) = (i : Nat) := by omega
          refine ⟨rfl, _, rfl, _, rfl, seq_ix (s23 _ _ h1) zi hx' ⟨_, rfl, _, rfl, seq_ix (s23 _ _ h2) zi hy' ?_⟩⟩
          exact ⟨x', y', e1, rfl, st1.same s23, st2.same s23, fun H5 s5 => ⟨_, rfl, iteF (k1 _ s5)⟩⟩
        · have g0 : gather (fun _ => none) ((ys.length : Int).toNat) = [] := by
            unfold gather
            simp
          rw [g0] at e3
          refine ⟨by decide, fun L hL => ?_⟩
          have s4 := Shg.same_upd (o := .lst []) hL
          exact ⟨.list [], .list [], .lst (SqL.of (s4 _ _ e3)) .nil, .lst (SqL.of upd_same) .nil, rfl, rfl, kk _ ((s2.trans s3).trans s4)⟩
theorem ok_same {f : Addr} {fd : FuncData} (F : Fun K "_law_same" "_law_same" sSame f fd) (B : Shg.Blt mg) (mF : mg "_law_same" = some (.ref f)) (bF : Binds K fd ["_law_result", "_law_expected"] []) : ∀ n, FnOk P w K mg base CX0 (n + 1) f fd ["_law_result", "_law_expected"] (spSame n)
  | 0 => same_step (sp' := fun _ _ _ _ => False) F B mF bF ⟨fun _ _ _ _ h => False.elim h, fun _ _ _ _ _ _ _ _ _ _ _ _ _ h => False.elim h⟩ (.inl rfl)
  | n + 1 => same_step F B mF bF (ok_same F B mF bF n) (.inr ⟨n, rfl, rfl⟩)
end
end Smm
set_option Elab.async false
set_option linter.all false
set_option maxRecDepth 100000
set_option maxHeartbeats 8000000
set_option autoImplicit false
/-! _law_agrees of k08. -/
namespace Jo
open PySem L2 Sho NdefX Shg Sh1 Go Dw PyProof.Rows
abbrev NAg : List Str := ["_law_observer", "_law_ways_here", "_law_comings", "_law_goings", "_law_index", "_law_found", "_law_going", "_law_way", "_law_k", "_law_name", "_law_come"]
theorem ten_ok : ∀ z ∈ tenN, okName z = true ∧ z.length ≤ 8 ∧ z.cps.all (· < 0x110000) = true := by decide +kernel
theorem PlanQ.ok {cs : List (Str × Int)} {gs : List Int} (p : PlanQ cs gs) : ∀ c ∈ cs, okName c.1 = true ∧ c.1.length ≤ 8 ∧ c.1.cps.all (· < 0x110000) = true := fun c hc => by
  refine ten_ok c.1 (List.mem_of_mem_take (i := cs.length) ?_)
  rw [← p.nm]
  exact List.mem_map.mpr ⟨c, hc, rfl⟩
theorem left_good {cs : List (Str × Int)} {gs : List Int} {rs : List Rec} (p : PlanQ cs gs) : ∀ v ∈ left cs gs rs, v.length = gs.length ∧ GW cs gs v := fun v hv => (law_all p.nd p.valid).1 v (List.mem_filter.mp hv).1
theorem left_len {cs : List (Str × Int)} {gs : List Int} {rs : List Rec} (p : PlanQ cs gs) (few : cs.length ≤ 6) : (left cs gs rs).length ≤ 720 :=
  Nat.le_trans (List.length_filter_le _ _) (Nat.le_trans (law_all p.nd p.valid).2.1 (dfac_le few (by have := p.all; omega)))
/-- the party of the only way -/
abbrev stW (cs : List (Str × Int)) (gs : List Int) (v : Way) : List Stay := cs.map fun c => (c.1, c.2, tkW v gs c.1)
theorem only_valid {cs : List (Str × Int)} {gs : List Int} {v : Way} (p : PlanQ cs gs) (l : v.length = gs.length) (g : GW cs gs v) : Short (stW cs gs v) ∧ Valid (stW cs gs v) := by
  refine ⟨fun x hx => ?_, by rw [List.length_map]; have := p.len; omega, by rw [List.map_map]; exact p.nd, fun x hx => ?_⟩
  · obtain ⟨c, hc, rfl⟩ := List.mem_map.mp hx
    obtain ⟨_, h2, h3⟩ := p.ok c hc
    exact ⟨by show c.1.length ≤ 100000; omega, h3⟩
  · obtain ⟨c, hc, rfl⟩ := List.mem_map.mp hx
    obtain ⟨h1, _, _⟩ := p.ok c hc
    obtain ⟨_, h4, h5⟩ := only_ticks l g p.all p.nd c hc
    have h6 := p.late c hc
    obtain ⟨i, hi⟩ := List.getElem?_of_mem h5
    have h7 := p.in_ i _ hi
    show (okName c.1 && (okTick c.2 && (okTick (tkW v gs c.1) && decide (c.2 < tkW v gs c.1)))) = true
    unfold okTick
    rw [h1]
    simp only [Bool.true_and, Bool.and_eq_true, decide_eq_true_eq]
    omega
theorem stay_dp {K : PySem.W.Frag} {H : Hp} : ∀ v (x : Stay), StayV H v x → Dp K H v (.tuple [.str x.1, .int x.2.1, .int x.2.2]) := fun v x ⟨t, e, h⟩ => by
  rw [e]
  exact .tup (SqT.of h) (.cons (.str _) (.cons (.int _) (.cons (.int _) .nil)))
section
variable {P : Program} {w : World} {K : PySem.W.Frag} {mg : Str → Option Value} {base : Heap}
theorem nil_ofQ {σ : L2.St} {H : Hp} {Q : List V → Hp → Prop} (h : Q [] H) : tNil σ H Q := h
theorem strs_stand {H : Hp} : ∀ zs : List Str, PySem.Paired (fun y e => Smm.Stands H 0 y e) (zs.map V.str) (zs.map PyData.str)
  | [] => .nil
  | z :: zs => .cons (.inr ⟨z, rfl, rfl⟩) (strs_stand zs)
theorem scAgrees : FnScope NAg ["_law_observer", "_law_ways_here", "_law_comings", "_law_goings", "_law_index"] (defScope sLawAgrees) := ⟨rfl, rfl, rfl, by decide +kernel, rfl, by decide +kernel, by decide +kernel⟩
def spAgrees (C : Addr) (T : List (Addr × Str)) : Sp := fun vs H Q _ => ∃ (x La W Cm Gm : Addr) (k : Nat) (cs : List (Str × Int)) (gs : List Int) (rs : List Rec) (ys ws : List V), vs = [.ref x, .ref W, .ref Cm, .ref Gm, .int (k : Int)] ∧
  ObsJ C H x La cs gs rs ∧ rs.length < 1000 ∧ FitR gs rs ∧ H W = some (.lst ys) ∧ WaysV H ys (left cs gs rs) ∧ H Cm = some (.lst ws) ∧ PairsAt H ws cs ∧ H Gm = some (.lst (gs.map V.int)) ∧ cs.length ≤ 6 ∧ PlanQ cs gs ∧ k < gs.length ∧ left cs gs rs ≠ [] ∧ LamX.Tabs T H ∧
  ∀ H', Grows T H H' → Q (.bl true) H'
theorem ok_agrees {f C fI CN CP fS fW fP fF fT pT : Addr} {fd fdS fdW fdP fdF fdT : FuncData} {T : List (Addr × Str)} (F : Fun K "_law_agrees" "_law_agrees" sLawAgrees f fd) (B : Shg.Blt mg) (OC : ObsC K mg C fI) (PC : PartyC K mg CP)
    (GS : ∀ n, FnOk P w K mg base CX0 (n + 1) fS fdS ["_law_result", "_law_expected"] (Smm.spSame n)) (mS : mg "_law_same" = some (.ref fS)) (kS : PySem.W.keepIn K (.ref fS) = true) (bS : Binds K fdS ["_law_result", "_law_expected"] [])
    (GW : FnOk P w K mg base CX0 7 fW fdW ["self"] (spWayCountJ C T)) (mW : Meth K C "way_count" fW) (bW : Binds K fdW ["self"] [])
    (GP : FnOk P w K mg base (L2.CX P w) 8 fP fdP ["self", "index"] (spPossibleQ C CN T)) (mP : Meth K C "possible_guests" fP) (bP : Binds K fdP ["self", "index"] [])
    (GF : FnOk P w K mg base (L2.CX P w) 7 fF fdF ["self"] (spFind C CP T)) (mF : Meth K C "find_party" fF) (bF : Binds K fdF ["self"] [])
    (GT : FnOk P w K mg base CX0 1 fT fdT ["self"] (getSp CP "_stays")) (pT : PropOf K CP "stays" pT fT) (bT : Binds K fdT ["self"] []) :
    FnOk P w K mg base (L2.CX P w) 9 f fd ["_law_observer", "_law_ways_here", "_law_comings", "_law_goings", "_law_index"] (spAgrees C T) := by
  refine F.okX scAgrees (fun vs H Q E h => ?_) (fun cdv A outer s H vs Q E hr h => ?_)
  · obtain ⟨x, La, W, Cm, Gm, k, cs, gs, rs, ys, ws, rfl, _⟩ := h
    rfl
  obtain ⟨x, La, W, Cm, Gm, k, cs, gs, rs, ys, ws, rfl, O, lrs, fit, eW, wy, eC, pC, eG, few, pl, hk, ne, hT, kk⟩ := h
  have nd := scAgrees.nd
  have GS0 := GS 0
  have GS1 := GS 1
  have pass : Passes (L2.CX P w) (cxOf (L2.CX P w) P w K mg base NAg "_law_agrees" (defScope sLawAgrees) f cdv A outer s H E) E := passes_call (takes_of rfl rfl rfl rfl) fun _ _ _ _ z => z
  refine ⟨_, (pss_cons (ps_if (pt_not (pt_val (pe_call GS0 (hr.mono (by decide)) rfl mS kS bS .nil pass0 (pa_cons (pe_meth0 (pv 0) OC.cl mW GW (hr.mono (by decide)) bW .nil pass0) (pa_cons (pe_callB call_len_seq (by rfl) B.len PySem.boot_len (pa_cons (pv 1) pa_nil)) pa_nil))))) (pss_one (ps_ret pe_bl)) pss_nil)
      (pss_cons (ps_if (pt_not (pt_val (pe_call GS1 (hr.mono (by decide)) rfl mS kS bS .nil pass0 (pa_cons (pe_meth (pv 0) OC.cl mP GP (hr.mono (by decide)) bP .nil pass (pa_cons (pv 4) pa_nil)) (pa_cons (pe_callB (cr_sortedSetS rfl) (by rfl) B.sorted (by decide +kernel) (pa_cons (pe_callTy (cr_setS rfl) (by rfl) B.set (by decide +kernel) (pa_cons (pe_lc (own := [("_law_way", 7)]) (g := gName 7) (tt := tYes) (te := tOp (rIxT K) (tOp (rIxT K) (tVar 7) (tVar 4)) (tC (.int 0))) rfl nd (pi_list (pv 1)) (blkOk_by (own := [("_law_way", 7)]) (N := NAg) (sc := defScope sLawAgrees) (by decide +kernel))
        (fun _ _ _ _ _ => (pg_name (i := 7) nd rfl (Or.inl rfl))) (fun _ _ _ _ _ => pts_nil) (fun _ _ _ _ _ => (pe_ix ix_tup (pe_ix ix_tup (pv 7) (pv 4) (fun _ _ => rfl)) pe_int (fun _ _ => rfl)))) pa_nil)) pa_nil)) pa_nil))))) (pss_one (ps_ret pe_bl)) pss_nil)
      (pss_cons (ps_set (i := 5) nd rfl (Or.inl rfl) (pe_meth0 (pv 0) OC.cl mF GF (hr.mono (by decide)) bF .nil pass))
      (pss_cons (ps_if (pt_cmpR op_ne (pe_callB call_len_seq (by rfl) B.len PySem.boot_len (pa_cons (pv 1) pa_nil)) pe_int (nomark _)) (pss_one (ps_ret (pe_cmp (pc_isN (pv 5)) rfl))) pss_nil)
      (pss_cons (ps_set (i := 6) nd rfl (Or.inr rfl) (pe_callTy (call_dictP rfl) (by rfl) B.dict (by decide +kernel) (pa_cons (pe_lc (own := [("_law_k", 8)]) (g := gName 8) (tt := tYes) (te := tTup (tCons (tOp (rIxT K) (tOp (rIxT K) (tOp (rIxL K) (tVar 1) (tC (.int 0))) (tVar 8)) (tC (.int 0))) (tCons (tOp (rIxL K) (tVar 3) (tVar 8)) tNil))) rfl nd (pi_range1 (by rfl) B.range (pa_cons (pe_callB call_len_seq (by rfl) B.len PySem.boot_len (pa_cons (pv 3) pa_nil)) pa_nil)) (blkOk_by (own := [("_law_k", 8)]) (N := NAg) (sc := defScope sLawAgrees) (by decide +kernel))
        (fun _ _ _ _ _ => (pg_name (i := 8) nd rfl (Or.inl rfl))) (fun _ _ _ _ _ => pts_nil) (fun _ _ _ _ _ => (pe_tup (pa_cons (pe_ix ix_tup (pe_ix ix_tup (pe_ix ix_list (pv 1) pe_int (fun _ _ => rfl)) (pv 8) (fun _ _ => rfl)) pe_int (fun _ _ => rfl)) (pa_cons (pe_ix ix_list (pv 3) (pv 8) (fun _ _ => rfl)) pa_nil))))) pa_nil)))
      (pss_one (ps_ret (pe_cmpR (op_eqD hr.units) (pe_prop (pv 5) PC.cl pT GT (hr.mono (by decide)) bT .nil pass0 rfl) (pe_callTy call_tuple_of (by rfl) B.tuple (by decide +kernel) (pa_cons (pe_lc (own := [("_law_name", 9), ("_law_come", 10)]) (g := gTup K 2 (gCons (gName 9) (gCons (gName 10) gNil))) (tt := tYes) (te := tTup (tCons (tVar 9) (tCons (tVar 10) (tCons (tDGet (tVar 6) (tVar 9)) tNil)))) rfl nd (pi_list (pv 2)) (blkOk_by (own := [("_law_name", 9), ("_law_come", 10)]) (N := NAg) (sc := defScope sLawAgrees) (by decide +kernel))
        (fun _ _ _ _ _ => pg_tup rfl (pgs_cons (pg_name (i := 9) nd rfl (Or.inl rfl)) (pgs_cons (pg_name (i := 10) nd rfl (Or.inl rfl)) pgs_nil))) (fun _ _ _ _ _ => pts_nil) (fun _ _ _ _ _ => (pe_tup (pa_cons (pv 9) (pa_cons (pv 10) (pa_cons (pe_dget (hu_of hr) (pv 6) (pv 9) (fun _ _ => rfl)) pa_nil)))))) pa_nil)) (nomark _))))))))), ?_⟩
  have va := pl.valid
  have lwy := Shg.pair_len wy
  have cnt := left_count pl.nd va fit
  have l720 := left_len (rs := rs) pl few
  have lpos : 0 < (left cs gs rs).length := List.length_pos_iff.mpr ne
  have sz : 1000 < sizeLine := by decide
  have lC := Shg.pair_len pC
  obtain ⟨dx, Cm', Gm', ws', rv', hx, _⟩ := id O
  -- how many ways
  refine ⟨_, rfl, x, dx, _, rfl, hx, no_f _ _ _ (by decide +kernel) (by decide +kernel) (by decide +kernel), x, La, cs, gs, rs, rfl, O, by omega, va, hT, fun H1 g1 => ?_⟩
  have eW1 := g1.ext _ _ eW fun _ z => nomatch z
  refine ⟨_, rfl, W, _, rfl, .inl (SqL.of eW1), .int (ways cs gs rs : Nat), .int (ys.length : Nat), .int (ways cs gs rs : Nat), rfl, .inl ⟨_, rfl, rfl⟩, .inl ⟨_, rfl, by rw [lwy, cnt]⟩, fun H2 s2 => ⟨_, rfl, iteF ?_⟩⟩
  have g2 := g1.trans (same_grows (T := T) s2)
  have up2 : ∀ b vs, H b = some (.tup vs) → H2 b = some (.tup vs) := fun b vs e => g2.ext _ _ e fun _ z => nomatch z
  have O2 := O.ext g2.ext
  have hx2 := g2.ext _ _ hx fun _ z => nomatch z
  -- who can have gone
  refine ⟨_, rfl, x, dx, _, rfl, hx2, no_f _ _ _ (by decide +kernel) (by decide +kernel) (by decide +kernel), _, rfl, x, La, (k : Int), cs, gs, rs, rfl, O2, ?_, lrs, va, g2.tab hT, fun _ H3 Lp zs g3 _ pm srt eLp => ?_, fun c => absurd ⟨by omega, by omega⟩ c⟩
  · have h1 := va.all
    have : k < 6 := by omega
    have : ∀ j : Fin 6, ((j.val : Nat) : Int).natAbs.log2 < 1920 := by decide
    exact this ⟨k, by omega⟩
  have g03 := g2.trans g3
  have eW3 := g03.ext _ _ eW fun _ z => nomatch z
  have wy3 : WaysV H3 ys (left cs gs rs) := ways_monoV wy fun b xs e => g03.ext _ _ e fun _ z => nomatch z
  refine ⟨_, rfl, W, rfl, ⟨_, SqL.of eW3⟩, fun D hD => ?_⟩
  refine lc_map (walk_list (K := K) (a := W) (xs := ys)) (fun j => ((left cs gs rs)[j]?).map fun v => V.str (v.getD k ("", 0)).1) hD (by rw [lwy]; omega) (fun H4 s4 => SqL.of (s4 _ _ eW3)) (fun j u H5 H4 hj s4 yy R k1 => ?_) (fun j hj => ⟨_, by rw [List.getElem?_eq_getElem (by rw [← lwy]; exact hj)]; rfl⟩) fun H4 s4 e4 => ?_
  · obtain ⟨rfl, e5⟩ := yy
    obtain ⟨v, hv, t, rfl, vs, ht, rv⟩ := Shg.pair_get wy3 e5
    have lv := (left_good pl v (List.mem_of_getElem? hv)).1
    have lvs := Shg.pair_len rv
    obtain ⟨u, hu⟩ : ∃ u, vs[k]? = some u := ⟨_, List.getElem?_eq_getElem (by omega)⟩
    obtain ⟨p, hp, tq, rfl, hq⟩ := Shg.pair_get rv hu
    refine ⟨rfl, _, rfl, _, rfl, t, vs, _, .ref tq, rfl, rfl, SqT.of (s4 _ _ ht), atI_nat hu, tq, _, 0, .str p.1, rfl, rfl, SqT.of (s4 _ _ hq), atI_nat (j := 0) rfl, k1 _ _ (Same.refl _) ?_⟩
    rw [hv]
    show some (V.str (v.getD k ("", 0)).1) = _
    rw [List.getD_eq_getElem?_getD, hp]
    rfl
  rw [lwy, gather_map (left cs gs rs) fun v => V.str (v.getD k ("", 0)).1] at e4
  refine ⟨D, (left cs gs rs).map (fun v => (v.getD k ("", 0)).1), rfl, by rw [List.map_map]; exact SqL.of e4, by rw [List.length_map]; omega, fun p n hp hn => ⟨p, _, n, rfl, upd_same, by rw [List.length_map] at hn; omega, fun ks q srt2 nd2 mem2 lq hq => ?_⟩⟩
  have s5 := Shg.same_upd (o := SetXO (cxOf (L2.CX P w) P w K mg base NAg "_law_agrees" (defScope sLawAgrees) f cdv A outer s H E).w p (fun j => decide (j ∈ (left cs gs rs).map fun v => (v.getD k ("", 0)).1)) n) hp
  have s6 := Shg.same_upd (o := .lst (ks.map V.str)) hq
  have ck := can_eq pl.nd va fit hk pm srt srt2 nd2 fun z => by rw [mem2 z, decide_eq_true_eq]
  have s36 := (s4.trans s5).trans s6
  have lks : ks.length ≤ 720 := by
    rw [lq]
    rw [List.length_map] at hn
    omega
  refine ⟨.ref Lp, .ref q, .list (ks.map PyData.str), rfl, .inr (.inr ⟨Lp, _, _, rfl, rfl, s36 _ _ eLp, by rw [List.length_map, ck]; omega, by rw [ck]; exact strs_stand ks⟩), .inr (.inr ⟨q, _, _, rfl, rfl, upd_same, by rw [List.length_map]; omega, strs_stand ks⟩), fun H7 s7 => ⟨_, rfl, iteF ?_⟩⟩
  have g07 := g03.trans (same_grows (T := T) (s36.trans s7))
  clear s4 s5 s6 s36 s7 e4 hD hp hq eLp eW3 wy3 g2 up2 O2 hx2 g3 s2 eW1 g1
  have up7 : ∀ b vs, H b = some (.tup vs) → H7 b = some (.tup vs) := fun b vs e => g07.ext _ _ e fun _ z => nomatch z
  have hx7 := g07.ext _ _ hx fun _ z => nomatch z
  -- the party, if there is one
  refine nx_of (asg_rel (fun v H' => Grows T H7 H' ∧ ((1 < ways cs gs rs ∧ v = .non) ∨ (ways cs gs rs = 1 ∧ ∃ v0 g, left cs gs rs = [v0] ∧ v = .ref g ∧ PartyAt CP H' g (stW cs gs v0)))) (fun R0 h0 => ?_) fun vf H8 h8 => ?_)
  · refine ⟨_, rfl, x, dx, _, rfl, hx7, no_f _ _ _ (by decide +kernel) (by decide +kernel) (by decide +kernel), ?_⟩
    obtain ⟨v0, rest, ev⟩ := List.exists_cons_of_ne_nil ne
    refine nil_ofQ ⟨x, La, cs, gs, rs, tkW v0 gs, rfl, O.ext g07.ext, by omega, va, g07.tab hT, by omega, fun h H' g => h0 _ _ ⟨g, .inl ⟨h, rfl⟩⟩, fun h1 => ?_⟩
    have one : left cs gs rs = [v0] := by
      have : rest.length = 0 := by
        have := congrArg List.length ev
        rw [List.length_cons] at this
        omega
      rw [ev, List.length_eq_zero_iff.mp this]
    obtain ⟨lv, gv⟩ := left_good pl v0 (by rw [one]; exact List.mem_singleton.mpr rfl)
    obtain ⟨sh, vl⟩ := only_valid pl lv gv
    refine ⟨fun zs b hz => ?_, sh, vl, fun g H' gr PA => h0 _ _ ⟨gr, .inr ⟨h1, v0, g, one, rfl, PA⟩⟩⟩
    obtain ⟨v, hv, ez⟩ := left_lead pl.nd va fit hz
    rw [one] at hv
    rw [List.mem_singleton.mp hv] at ez
    rw [← ez]
    exact ⟨by rw [List.length_map]; exact lv, only_vals lv gv pl.all pl.nd⟩
  obtain ⟨g8, h8⟩ := h8
  have g08 := g07.trans g8
  have eW8 := g08.ext _ _ eW fun _ z => nomatch z
  refine name_at ⟨_, rfl, W, _, rfl, .inl (SqL.of eW8), rfl, _, rfl, ?_⟩
  rcases h8 with ⟨many, rfl⟩ | ⟨one, v0, g, e1, rfl, PA⟩
  · rw [show decide (V.int ((ys.length : Nat) : Int) = V.int 1) = false from decide_eq_false fun e => by injection e; omega]
    refine iteT ⟨_, rfl, ?_⟩
    show Q (V.bl (decide (V.non = V.non))) H8
    rw [decide_eq_true rfl]
    exact kk H8 g08
  have ly1 : ys.length = 1 := by rw [lwy, e1]; rfl
  rw [show decide (V.int ((ys.length : Nat) : Int) = V.int 1) = true from decide_eq_true (by rw [ly1]; rfl)]
  refine iteF ?_
  rw [e1] at wy
  obtain ⟨y0, ey0⟩ : ∃ y0, ys[0]? = some y0 := ⟨_, List.getElem?_eq_getElem (by omega)⟩
  obtain ⟨v0', hv0, t0, rfl, vs0, ht0, rv0⟩ := Shg.pair_get wy ey0
  obtain rfl : v0' = v0 := (Option.some.inj hv0).symm
  obtain ⟨lv, gv⟩ := left_good (rs := rs) pl v0' (by rw [e1]; exact List.mem_singleton.mpr rfl)
  have lvs := Shg.pair_len rv0
  have up8 : ∀ b vs, H b = some (.tup vs) → H8 b = some (.tup vs) := fun b vs e => g08.ext _ _ e fun _ z => nomatch z
  have eG8 := g08.ext _ _ eG fun _ z => nomatch z
  have eC8 := g08.ext _ _ eC fun _ z => nomatch z
  have l6 : gs.length ≤ 6 := by have := va.all; omega
  -- the ticks of that way
  refine nx_of (asg_rel (fun v H' => ∃ d : Addr, v = .ref d ∧ Same H8 H' ∧ H' d = some (.dK (mergeK [] (((nmsW v0').zip gs).map fun p => ((Sum.inr p.1 : L2.Key), V.int p.2))))) (fun R0 h0 => ?_) fun vd H9 h9 => ?_)
  · refine ⟨_, rfl, Gm, _, rfl, .inl (SqL.of eG8), _, rfl, by rw [List.length_map]; omega, by rw [List.length_map]; omega, fun D hD => ?_⟩
    have en : (((gs.map V.int).length : Nat) : Int).toNat = gs.length := by rw [List.length_map]; omega
    refine lc_rel walk_range (fun j y H => ∃ p t, ((nmsW v0').zip gs)[j]? = some p ∧ y = V.ref t ∧ H t = some (.tup [.str p.1, .int p.2])) hD (by omega) (fun _ _ => trivial) (fun j y H H' st ⟨c, t, h1, h2, h3⟩ => ⟨c, t, h1, h2, st _ _ h3⟩) (fun j u H1 H2 hj s1 yy R k1 => ?_) fun H1 ms s1 e2 len2 rel2 => ?_
    · obtain ⟨rfl, rfl⟩ := yy
      rw [en] at hj
      have zj : (0 : Int) + (j : Nat) = (j : Nat) := by omega
      obtain ⟨u, hu⟩ : ∃ u, vs0[j]? = some u := ⟨_, List.getElem?_eq_getElem (by omega)⟩
      obtain ⟨p, hp, tq, rfl, hq⟩ := Shg.pair_get rv0 hu
      have hg : gs[j]? = some gs[j] := List.getElem?_eq_getElem hj
      refine ⟨rfl, _, rfl, W, ys, _, .ref t0, rfl, rfl, SqL.of (s1 _ _ eW8), atI_nat (j := 0) ey0, _, rfl, t0, vs0, _, .ref tq, rfl, rfl, SqT.of (s1 _ _ (up8 _ _ ht0)), by rw [zj]; exact atI_nat hu, tq, _, 0, .str p.1, rfl, rfl, SqT.of (s1 _ _ (up8 _ _ hq)), atI_nat (j := 0) rfl, _, rfl, _, rfl, Gm, _, _, .int gs[j], rfl, rfl, SqL.of (s1 _ _ eG8), by rw [zj]; exact atI_nat (by rw [List.getElem?_map, hg]; rfl), by show 2 ≤ sizeLine; decide, fun q hq' => ?_⟩
      refine k1 _ _ (Shg.same_upd hq') ⟨(p.1, gs[j]), q, List.getElem?_zip_eq_some.mpr ⟨by rw [List.getElem?_map, hp]; rfl, hg⟩, rfl, upd_same⟩
    rw [en] at len2
    have lzip : ((nmsW v0').zip gs).length = gs.length := by rw [List.length_zip, List.length_map, lv, Nat.min_self]
    have pp : PairsAt H1 ms ((nmsW v0').zip gs) := Shg.pair_of (by rw [lzip]; exact len2) fun j y q hy hq => by
      obtain ⟨p, t, h1, h2, h3⟩ := rel2 j y hy
      rw [h1] at hq
      cases hq
      exact ⟨t, h2, h3⟩
    obtain ⟨ps, ems, rps⟩ := pairs_refs pp
    have rk : PySem.Paired (fun p (kv : L2.Key × V) => SqT K H1 p [kV kv.1, kv.2]) ps (((nmsW v0').zip gs).map fun p => ((Sum.inr p.1 : L2.Key), V.int p.2)) := pair_mapR (S := fun p (kv : L2.Key × V) => SqT K H1 p [kV kv.1, kv.2]) (f := fun c : Str × Int => ((Sum.inr c.1 : L2.Key), V.int c.2)) (fun p c h => SqT.of h) rps
    refine ⟨D, ps, _, rfl, by rw [← ems]; exact SqL.of e2, rk, fun d hd => h0 _ _ ⟨d, rfl, s1.trans (Shg.same_upd hd), upd_same⟩⟩
  obtain ⟨d, rfl, s9, ed⟩ := h9
  have g09 := g08.trans (same_grows (T := T) s9)
  obtain ⟨dg, at_, wg, hg1, hg2, hg3⟩ := PA.same s9
  -- the party's stays
  refine name_at ⟨_, rfl, g, dg, _, rfl, hg1, g, dg, _, .ref at_, rfl, hg1, lk_stays _, ?_⟩
  refine ⟨_, rfl, Cm, rfl, ⟨_, SqL.of (s9 _ _ eC8)⟩, fun D hD => ?_⟩
  refine lc_rel (walk_list (K := K) (a := Cm) (xs := ws)) (fun j y H => ∃ x, (stW cs gs v0')[j]? = some x ∧ StayV H y x) hD (by rw [lC]; omega) (fun H1 s1 => SqL.of (s1 _ _ (s9 _ _ eC8))) (fun j y H H' st ⟨c, h1, t, h2, h3⟩ => ⟨c, h1, t, h2, st _ _ h3⟩) (fun j u H1 H2 hj s1 yy R k1 => ?_) fun HA ms sA eA lenA relA => ?_
  · obtain ⟨rfl, e5⟩ := yy
    obtain ⟨c, hc, t, rfl, ht⟩ := Shg.pair_get pC e5
    have ht1 := s1 _ _ (g09.ext _ _ ht fun _ z => nomatch z)
    have gt := DGet.k (k := .inr c.1) (s1 _ _ ed)
    have vc : valV (mergeK [] (((nmsW v0').zip gs).map fun p => ((Sum.inr p.1 : L2.Key), V.int p.2))) (.inr c.1) = some (.int (tkW v0' gs c.1)) := by
      have h := only_vals lv gv pl.all pl.nd c (List.mem_of_getElem? hc)
      unfold ticksK at h
      rw [ticks_pairs] at h
      exact h
    rw [vc] at gt
    refine ⟨t, _, rfl, SqT.of ht1, rfl, _, _, rfl, _, _, rfl, rfl, rfl, ?_⟩
    refine ⟨_, rfl, _, rfl, _, rfl, _, rfl, d, _, rfl, gt, by show 3 ≤ sizeLine; decide, fun q hq => k1 _ _ (Shg.same_upd hq) ⟨(c.1, c.2, tkW v0' gs c.1), ?_, q, rfl, upd_same⟩⟩
    rw [List.getElem?_map, hc]
    rfl
  have svA : StaysV HA ms (stW cs gs v0') := Shg.pair_of (by rw [List.length_map, lenA, lC]) fun j y q hy hq => by
    obtain ⟨x, h1, h2⟩ := relA j y hy
    rw [h1] at hq
    cases hq
    exact h2
  refine ⟨D, ms, rfl, .inl ⟨SqL.of eA, fun tt htt => ?_⟩⟩
  have sB := Shg.same_upd (o := .tup ms) htt
  have pd : Shp.PlainD 2 (.tuple ((stW cs gs v0').map fun x => .tuple [.str x.1, .int x.2.1, .int x.2.2])) := Shp.plain_tup fun e he => by
    obtain ⟨x, hx, rfl⟩ := List.mem_map.mp he
    obtain ⟨c, hc, rfl⟩ := List.mem_map.mp hx
    refine Shp.plain_tup fun e he => ?_
    simp only [List.mem_cons, List.not_mem_nil, or_false] at he
    rcases he with rfl | rfl | rfl
    · exact Shp.plain_str (pl.ok c hc).2.2 _
    · exact Shp.plain_int _ _
    · exact Shp.plain_int _ _
  refine ⟨.tuple ((stW cs gs v0').map fun x => .tuple [.str x.1, .int x.2.1, .int x.2.2]), .tuple ((stW cs gs v0').map fun x => .tuple [.str x.1, .int x.2.1, .int x.2.2]), .tup (SqT.of ((sA.trans sB) _ _ hg2)) (Shp.dp_of stay_dp (hg3.same (sA.trans sB))), .tup (SqT.of upd_same) (Shp.dp_of stay_dp (svA.same sB)), Shp.plain_shaped pd, Shp.plain_shaped pd, ?_⟩
  rw [Shp.plain_refl pd]
  exact kk _ (g09.trans (same_grows (sA.trans sB)))
end
end Jo
set_option Elab.async false
set_option linter.all false
set_option maxRecDepth 100000
set_option maxHeartbeats 2000000
namespace Jo
open PySem L2 Sho NdefX Shg Sh1
/-- what the three clauses need -/
structure ErrsQ (K : PySem.W.Frag) (mg : Str → Option Value) (CN CP CU : Addr) : Prop where
  gN : mg "Contradiction" = some (.ref CN)
  gP : mg "InvalidNumber" = some (.ref CP)
  gU : mg "UnknownGuest" = some (.ref CU)
  xU : XfC K CU
  nU : PySem.W.findIn K (.ref CU) "name" = some none
  nn : PySem.W.exmOne K (.ref CN) (.ref CN) = some true
  pn : PySem.W.exmOne K (.ref CP) (.ref CN) = some false
  pp : PySem.W.exmOne K (.ref CP) (.ref CP) = some true
  un : PySem.W.exmOne K (.ref CU) (.ref CN) = some false
  up : PySem.W.exmOne K (.ref CU) (.ref CP) = some false
  uu : PySem.W.exmOne K (.ref CU) (.ref CU) = some true
def OutQ (CN CP CU : Addr) (Q : VK) : XK := fun cls d H1 =>
  (cls = .ref CN ∧ ∀ p H2, Same H1 H2 → H2 p = some (.tup [.str "Contradiction"]) → Q (.ref p) H2) ∨
  (cls = .ref CP ∧ ∀ p H2, Same H1 H2 → H2 p = some (.tup [.str "InvalidNumber"]) → Q (.ref p) H2) ∨
  (cls = .ref CU ∧ ∃ (dd : Addr) (z : Str), d = some dd ∧ H1 dd = some (.xd [(("name" : Str), .str z)]) ∧ ∀ p H2, Same H1 H2 → H2 p = some (.tup [.str "UnknownGuest", .str z]) → Q (.ref p) H2)
section
variable {P : Program} {w : World} {K : PySem.W.Frag} {mg : Str → Option Value} {base : Heap}
theorem scOutQ : FnScope ["_law_work", "e"] ["_law_work"] (defScope sOut) := ⟨rfl, rfl, rfl, by decide +kernel, rfl, by decide +kernel, by decide +kernel⟩
theorem outcomeQ_run {g CN CP CU : Addr} {fd : FuncData} (F : Fun K "_law_outcome" "_law_outcome" sOut g fd) (bF : Binds K fd ["_law_work"] []) (EE : ErrsQ K mg CN CP CU)
    {cl : List (Str × Addr)} {fr : List Str} {ws : List (Option V)} {sp : SpL} {k : Nat} {A : Around} {outer : List Env} {s : Shared} {H : Hp} {f : Addr} {Q : VK} {E : XK} (hr : Room (k + 1) A) (e0 : Env0 P w K mg base A outer s H)
    (C : CellsAt cl fr ws s.heap H) (hact : Act P w K mg base (L2.CX P w) k cl fr sp f H) (q : ∀ E' : XK, (∀ cls d H1, OutQ CN CP CU Q cls d H1 → E' cls d H1) → sp ws H Q E') :
    codeAny (model P w) A (.call (.ref g) ⟨[.ref f], []⟩) (CR (L2.CX P w) outer P w H s Q E) s := by
  obtain ⟨oc, od, kV, doc, pm, an, cdv, ct, osl, rfl, lk, hcd⟩ := F.ex
  have KX : K.In s.heap := e0.mod.kin.keeps fun b o e => (e0.bs b o e).1
  refine LamX.run_ofS (N := ["_law_work", "e"]) (ps := ["_law_work"]) (us := [.ref f]) (vs := [.ref f]) lk hcd scOutQ hr e0 (bF s [.ref f] KX rfl) (.cons rfl .nil) rfl fun hr' => ?_
  have nd := scOutQ.nd
  refine ⟨_, pss_one (ps_try (Wout := fun cls d _ H' => E cls d H') (tb := fun W => tRet (tAct P w K mg base (L2.CX P w) k 0 cl fr ws fun σ => WE W σ)) rfl rfl nd (takes_of rfl rfl rfl rfl) (fun W pn xe tk po => pss_one (ps_ret (pe_act (i := 0) (CX := L2.CX P w) (k := k) (E := fun σ => WE W σ) hr' C (fun _ _ _ => List.not_mem_nil) (fun σ => passAt tk σ) rfl (.inl rfl)))) (l := [⟨.ref CN, none, _⟩, ⟨.ref CP, none, _⟩, ⟨.ref CU, some 1, _⟩])
    (.cons ⟨rfl, by decide, .inl EE.gN⟩ trivial (fun a oe cls d pn hz hf => pss_one (ps_ret (pe_tup (pa_cons pe_str pa_nil))))
      (.cons ⟨rfl, by decide, .inl EE.gP⟩ trivial (fun a oe cls d pn hz hf => pss_one (ps_ret (pe_tup (pa_cons pe_str pa_nil))))
        (.cons ⟨rfl, by decide, .inl EE.gU⟩ ⟨rfl, rfl⟩ (fun a oe cls d pn hz hf => pss_one (ps_ret (pe_tup (pa_cons pe_str (pa_cons (pe_xf EE.xU EE.nU hz hf (pv 1)) pa_nil))))) .nil)))), ?_⟩
  refine ⟨f, sp, rfl, hact, q _ fun cls d H1 o => ?_⟩
  rcases o with ⟨rfl, k1⟩ | ⟨rfl, k1⟩ | ⟨rfl, dd, z, rfl, hd, k1⟩
  · refine ⟨true, EE.nn, fun _ a ha => ?_, fun z => nomatch z⟩
    exact ⟨by show 1 ≤ sizeLine; decide, fun p hp => k1 p _ (same_upd hp) upd_same⟩
  · refine ⟨false, EE.pn, ?_, ?_⟩
    · intro z
      cases z
    intro _
    refine ⟨true, EE.pp, ?_, ?_⟩
    · intro _ a ha
      exact ⟨by show 1 ≤ sizeLine; decide, fun p hp => k1 p _ (same_upd hp) upd_same⟩
    · intro z
      cases z
  · refine ⟨false, EE.un, ?_, ?_⟩
    · intro z
      cases z
    intro _
    refine ⟨false, EE.up, ?_, ?_⟩
    · intro z
      cases z
    intro _
    refine ⟨true, EE.uu, ?_, ?_⟩
    · intro _ a ha
      refine ⟨_, rfl, rfl, rfl, dd, _, .str z, rfl, hd, rfl, by show 2 ≤ sizeLine; decide, fun p hp => ?_⟩
      exact k1 p _ (same_upd hp) upd_same
    · intro z
      cases z
end
end Jo
set_option Elab.async false
set_option linter.all false
set_option maxRecDepth 100000
set_option maxHeartbeats 8000000
set_option autoImplicit false
/-! _law_step of k08. -/
namespace Jo
open PySem L2 Sho NdefX Shg Sh1 Go Dw PyProof.Rows
abbrev NSp : List Str := ["_law_state", "_law_observer", "_law_ways_here", "_law_hidden", "_law_names", "_law_index", "_law_is_true", "_law_count", "_law_left", "_law_name", "_law_way"]
abbrev qStep : Str := "_law_step.<locals>.<lambda>"
abbrev nmL : List (Str × NameKind) := [("_law_count", .free), ("_law_index", .free), ("_law_observer", .free)]
abbrev frL : List Str := ["_law_observer", "_law_index", "_law_count"]
abbrev clL (n : Nat) : List (Str × Addr) := cloFrom (cellsFrom (n + 1) (defScope sLawStep).names []) nmL []
abbrev nmG : List (Str × NameKind) := [("_law_index", .free), ("_law_name", .free), ("_law_observer", .free)]
abbrev frG : List Str := ["_law_observer", "_law_index", "_law_name"]
abbrev clG (n : Nat) : List (Str × Addr) := cloFrom (cellsFrom (n + 1) (defScope sLawStep).names []) nmG []
theorem tup_relQ {te : TE} {ta : L2.TA} {σ : L2.St} {H : Hp} {Q : VK} (Pv : V → Hp → Prop) (h1 : ∀ R : VK, (∀ v H', Pv v H' → R v H') → te σ H R) (h2 : ∀ v H', Pv v H' → ta σ H' fun vs H2 => (v :: vs).length ≤ sizeLine ∧ ∀ p, H2 p = none → Q (.ref p) (upd H2 p (.tup (v :: vs)))) : tTup (tCons te ta) σ H Q := h1 _ h2
theorem draw_told {K : PySem.W.Frag} {H : Hp} {l a La : Addr} {ns : List Int} {o : HO} (d : DrawSt K H l a ns) (n : La ≠ l) (ap : Apart K La a (ns.map V.int)) : DrawSt K (upd H La o) l a ns := by
  obtain ⟨⟨p, s, r, e, k⟩, sc, len⟩ := d
  exact ⟨⟨p, s, r, by rw [upd_ne (Ne.symm n)]; exact e, k⟩, ap.upd sc, len⟩
theorem pair_filterQ {α β : Type} {R : α → β → Prop} (p : β → Bool) : ∀ {as : List α} {bs : List β}, PySem.Paired R as bs → PySem.Paired R (((as.zip bs).filter fun q => p q.2).map fun q => q.1) (bs.filter p)
  | _, _, .nil => .nil
  | _, _, .cons (a := a) (b := b) h r => by
    rw [List.zip_cons_cons]
    by_cases c : p b = true
    · rw [List.filter_cons_of_pos (by exact c), List.filter_cons_of_pos c, List.map_cons]
      exact .cons h (pair_filterQ p r)
    · rw [List.filter_cons_of_neg (by exact c), List.filter_cons_of_neg c]
      exact pair_filterQ p r
theorem _root_.Shg.Keep2.of_but {l S : Addr} {H H' : Hp} (b : But l H H') : Shg.Keep2 l S H H' := fun c o e n _ _ => b c o e n
theorem ifs_no {c : TT} {A u : TS} {D : Ends} {σ : L2.St} {H : Hp} {Pv : Hp → Prop} (hc : ∀ R : Bool → Hp → Prop, (∀ b H', Pv H' → R b H') → c σ H R) (hA : ∀ H', Pv H' → A { D with nx := u D } σ H') (hB : ∀ H', Pv H' → u D σ H') : tSeq (tIfS c A tNext) u D σ H :=
  hc _ fun b H' p => by
    cases b with
    | true => exact iteT (hA H' p)
    | false => exact iteF (hB H' p)
/-- what stands through a step's draws -/
structure SQ (K : PySem.W.Frag) (C : Addr) (T : List (Addr × Str)) (l a x La W Hd Nm : Addr) (ns : List Int) (cs : List (Str × Int)) (gs : List Int) (rs : List Rec) (ys : List V) (v0 : Way) (H : Hp) : Prop where
  d : DrawSt K H l a ns
  o : ObsJ C H x La cs gs rs
  t : LamX.Tabs T H
  w : H W = some (.lst ys)
  wy : WaysV H ys (left cs gs rs)
  wh : WayAt H Hd v0
  n : H Nm = some (.lst ((cs.map fun c => c.1).map V.str))
theorem SQ.but {K : PySem.W.Frag} {C : Addr} {T : List (Addr × Str)} {l a x La W Hd Nm : Addr} {ns : List Int} {cs : List (Str × Int)} {gs : List Int} {rs : List Rec} {ys : List V} {v0 : Way} {H H' : Hp} (u : SQ K C T l a x La W Hd Nm ns cs gs rs ys v0 H) (nLl : La ≠ l) (nWl : W ≠ l) (nNl : Nm ≠ l) (b : But l H H') (d : DrawSt K H' l a ns) : SQ K C T l a x La W Hd Nm ns cs gs rs ys v0 H' := by
  obtain ⟨zs, hl⟩ := draw_at u.d
  have k : ∀ c vs, H c = some (.tup vs) → H' c = some (.tup vs) := fun c vs q => b _ _ q (Dw.ne_at hl q fun z => nomatch z)
  exact ⟨d, u.o.draw hl nLl b, tabs_but u.t hl b, b _ _ u.w nWl, ways_monoV u.wy k, u.wh.mono k, b _ _ u.n nNl⟩
theorem SQ.same {K : PySem.W.Frag} {C : Addr} {T : List (Addr × Str)} {l a x La W Hd Nm : Addr} {ns : List Int} {cs : List (Str × Int)} {gs : List Int} {rs : List Rec} {ys : List V} {v0 : Way} {H H' : Hp} (u : SQ K C T l a x La W Hd Nm ns cs gs rs ys v0 H) (s : Same H H') : SQ K C T l a x La W Hd Nm ns cs gs rs ys v0 H' :=
  ⟨draw_ext u.d (LamX.ExtN.of s), u.o.same s, LamX.Tabs.ext u.t s, s _ _ u.w, ways_monoV u.wy fun b xs e => s _ _ e, u.wh.mono fun b xs e => s _ _ e, s _ _ u.n⟩
def spLamL (C CC : Addr) (T : List (Addr × Str)) : SpL := fun ws H Q E => ∃ (x La : Addr) (i n : Int) (cs : List (Str × Int)) (gs : List Int) (rs : List Rec), ws = [some (.ref x), some (.int i), some (.int n)] ∧ i.natAbs.log2 < 1920 ∧ (0 ≤ i ∧ i < (gs.length : Nat)) ∧ Judged C CC T H x La cs gs rs (i, .lift n) Q E
def spLamG (C CC : Addr) (T : List (Addr × Str)) : SpL := fun ws H Q E => ∃ (x La : Addr) (i : Int) (z : Str) (cs : List (Str × Int)) (gs : List Int) (rs : List Rec), ws = [some (.ref x), some (.int i), some (.str z)] ∧ i.natAbs.log2 < 1920 ∧ (0 ≤ i ∧ i < (gs.length : Nat)) ∧ z.length ≤ 100000 ∧ cs.length ≤ 1000 ∧ z ∈ cs.map (fun c => c.1) ∧ Judged C CC T H x La cs gs rs (i, .guest z) Q E
section
variable {P : Program} {w : World} {K : PySem.W.Frag} {mg : Str → Option Value} {base : Heap}
theorem scStep : FnScope NSp ["_law_state", "_law_observer", "_law_ways_here", "_law_hidden", "_law_names"] (defScope sLawStep) := ⟨rfl, rfl, rfl, by decide +kernel, rfl, by decide +kernel, by decide +kernel⟩
/-- what a step leaves -/
def Stepped (K : PySem.W.Frag) (C : Addr) (T : List (Addr × Str)) (H : Hp) (l a x La : Addr) (ns : List Int) (cs : List (Str × Int)) (gs : List Int) (rs : List Rec) (Q : VK) : Prop :=
  ∀ (H' : Hp) (p L tr : Addr) (r : Rec) (vf : V) (ys : List V), Keep2 l La H H' → DrawSt K H' l a ns → LamX.Tabs T H' → ObsJ C H' x La cs gs (if left cs gs (rs ++ [r]) = [] then rs else rs ++ [r]) → H' p = some (.tup [vf, .ref L, .ref tr]) → H' tr = some (.tup (recV r)) → H L = none → H' L = some (.lst ys) → WaysV H' ys (left cs gs (rs ++ [r])) → FitR gs [r] →
    (left cs gs (rs ++ [r]) = [] → ∃ q, vf = .ref q ∧ H' q = some (.tup [.str "Contradiction"])) → (left cs gs (rs ++ [r]) ≠ [] → vf = .int ((left cs gs (rs ++ [r])).length : Nat)) → Q (.ref p) H'
def spStep (K : PySem.W.Frag) (C : Addr) (T : List (Addr × Str)) : Sp := fun vs H Q _ => ∃ (l a x La W Hd Nm : Addr) (ns : List Int) (cs : List (Str × Int)) (gs : List Int) (rs : List Rec) (ys : List V) (v0 : Way), vs = [.ref l, .ref x, .ref W, .ref Hd, .ref Nm] ∧
  DrawSt K H l a ns ∧ ObsJ C H x La cs gs rs ∧ La ≠ l ∧ Apart K La a (ns.map V.int) ∧ rs.length < 900 ∧ FitR gs rs ∧ H W = some (.lst ys) ∧ W ≠ l ∧ WaysV H ys (left cs gs rs) ∧ WayAt H Hd v0 ∧ v0 ∈ lawW cs gs [[]] ∧ H Nm = some (.lst ((cs.map fun c => c.1).map V.str)) ∧ Nm ≠ l ∧ cs.length ≤ 6 ∧ 1 ≤ cs.length ∧ PlanQ cs gs ∧ LamX.Tabs T H ∧ Stepped K C T H l a x La ns cs gs rs Q
theorem ok_step {f c TP C fI CN CC CU f2 fL fG g : Addr} {fd fd2 fdL fdG fdO : FuncData} {T : List (Addr × Str)} (F : Shg.FunL K "_law_step" "_law_step" sLawStep f c fd) (B : Shg.Blt mg) (OC : ObsC K mg C fI) (EE : ErrsQ K mg CC CN CU)
    (TB : LamX.TabB base mg c TP) (hm : (TP, qStep) ∈ T) (hu : ∀ p ∈ T, p.1 = TP → p.2 = qStep)
    (G2 : FnOk P w K mg base CX0 1 f2 fd2 ["_law_state", "_law_count"] (spDrawn K)) (m2 : mg "_law_drawn" = some (.ref f2)) (k2 : PySem.W.keepIn K (.ref f2) = true) (b2 : Binds K fd2 ["_law_state", "_law_count"] [])
    (FO : Fun K "_law_outcome" "_law_outcome" sOut g fdO) (bO : Binds K fdO ["_law_work"] []) (mO : mg "_law_outcome" = some (.ref g)) (kO : PySem.W.keepIn K (.ref g) = true)
    (GL : FnOk P w K mg base (L2.CX P w) 9 fL fdL ["self", "index", "count"] (spSeeLiftQ C CN CC T)) (mL : Meth K C "see_lift" fL) (bL : Binds K fdL ["self", "index", "count"] [])
    (GG : FnOk P w K mg base (L2.CX P w) 9 fG fdG ["self", "index", "name"] (spSeeGuestQ C CN CU CC T)) (mG : Meth K C "see_guest" fG) (bG : Binds K fdG ["self", "index", "name"] []) :
    FnOk P w K mg base (L2.CX P w) 12 f fd ["_law_state", "_law_observer", "_law_ways_here", "_law_hidden", "_law_names"] (spStep K C T) := by
  refine F.okX scStep (fun vs H Q E h => ?_) (fun A outer s H vs Q E hr h => ?_)
  · obtain ⟨l, a, x, La, W, Hd, Nm, ns, cs, gs, rs, ys, v0, rfl, _⟩ := h
    rfl
  obtain ⟨l, a, x, La, W, Hd, Nm, ns, cs, gs, rs, ys, v0, rfl, hD, O, nLl, apL, lrs, fit, eW, nWl, wy, wh, hv0, eN, nNl, few, l1, pl, hT, kk⟩ := h
  have nd := scStep.nd
  have pass : Passes (L2.CX P w) (cxOf (L2.CX P w) P w K mg base NSp "_law_step" (defScope sLawStep) f (.ref c) A outer s H E) E := passes_call (takes_of rfl rfl rfl rfl) fun _ _ _ _ z => z
  refine ⟨_, (pss_cons (ps_asg (pe_tup (pa_cons (pe_call G2 (hr.mono (by decide)) rfl m2 k2 b2 .nil pass0 (pa_cons (pv 0) (pa_cons (pe_callB call_len_seq (by rfl) B.len PySem.boot_len (pa_cons (pv 3) pa_nil)) pa_nil))) (pa_cons (pe_cmpR op_gt (pe_call G2 (hr.mono (by decide)) rfl m2 k2 b2 .nil pass0 (pa_cons (pv 0) (pa_cons pe_int pa_nil))) pe_int (nomark _)) pa_nil))) (pg_tup rfl (pgs_cons (pg_name (i := 5) nd rfl (Or.inr rfl)) (pgs_cons (pg_name (i := 6) nd rfl (Or.inl rfl)) pgs_nil))))
      (pss_cons (ps_if (pt_cmpR op_eq (pe_call G2 (hr.mono (by decide)) rfl m2 k2 b2 .nil pass0 (pa_cons (pv 0) (pa_cons pe_int pa_nil))) pe_int (nomark _)) (pss_cons (ps_set (i := 7) nd rfl (Or.inr rfl) (pe_ifExp (pt_val (pv 6)) (pe_ix ix_tup (pe_ix ix_tup (pv 3) (pv 5) (fun _ _ => rfl)) pe_int (fun _ _ => rfl)) (pe_call G2 (hr.mono (by decide)) rfl m2 k2 b2 .nil pass0 (pa_cons (pv 0) (pa_cons (pe_op op_add (pe_callB call_len_seq (by rfl) B.len PySem.boot_len (pa_cons (pv 4) pa_nil)) pe_int) pa_nil)))))
      (pss_cons (ps_setLc (i := 8) (own := [("_law_way", 10)]) (g := gName 10) (tt := tTest (tOp rEq (tOp (rIxT K) (tOp (rIxT K) (tVar 10) (tVar 5)) (tC (.int 1))) (tVar 7))) (te := tVar 10) rfl nd rfl rfl (sw_true rfl rfl rfl (by decide +kernel)) (pi_list (pv 2)) (blkOk_by (own := [("_law_way", 10)]) (N := NSp) (sc := defScope sLawStep) (by decide +kernel))
        (fun _ _ _ _ _ => (pg_name (i := 10) nd rfl (Or.inl rfl))) (fun _ _ _ _ _ => pts_one (pt_cmpR op_eq (pe_ix ix_tup (pe_ix ix_tup (pv 10) (pv 5) (fun _ _ => rfl)) pe_int (fun _ _ => rfl)) (pv 7) (nomark _))) (fun _ _ _ _ _ => (pv 10)))
      (pss_one (ps_ret (pe_tup (pa_cons (pe_callAt (CX := L2.CX P w) (E := fun _ _ _ => False) (know := fun σ s2 H2 => CellsAt (clL s.heap.objs.size) frL [slotAt σ 1, slotAt σ 5, slotAt σ 7] s2.heap H2)
            (sp := fun σ v H1 Q' => ∃ f sp, v = .ref f ∧ Sho.Act P w K mg base (L2.CX P w) 10 (clL s.heap.objs.size) frL sp f H1 ∧ ∀ E' : XK, (∀ cls d H2, OutQ CC CN CU Q' cls d H2 → E' cls d H2) → sp [slotAt σ 1, slotAt σ 5, slotAt σ 7] H1 Q' E')
            (by rfl) mO kO passL (fun pins σ H' s' I => cells_of (js := [1, 5, 7]) (fr := frL) I (Caps.made (scope := scL nmL) I.ok (free_by (os := (defScope sLawStep).names) (by decide +kernel)) (by decide +kernel) rfl))
            (pa_cons (pe_lam TB rfl hm hu (free_by (os := (defScope sLawStep).names) (by decide +kernel))) pa_nil) (fun σ2 s2 H2 u v Q2 e0 kn rv h => by
              obtain ⟨f2', sp2, rfl, ac, q⟩ := h
              cases rv
              exact outcomeQ_run FO bO EE (hr.mono (by decide)) e0 kn ac q)) (pa_cons (pv 8) (pa_cons (pe_tup (pa_cons pe_str (pa_cons (pv 5) (pa_cons (pv 7) pa_nil)))) pa_nil)))))))) pss_nil)
      (pss_cons (ps_set (i := 9) nd rfl (Or.inr rfl) (pe_ifExp (pt_val (pv 6)) (pe_ix ix_tup (pe_ix ix_tup (pv 3) (pv 5) (fun _ _ => rfl)) pe_int (fun _ _ => rfl)) (pe_ix ix_list (pv 4) (pe_call G2 (hr.mono (by decide)) rfl m2 k2 b2 .nil pass0 (pa_cons (pv 0) (pa_cons (pe_callB call_len_seq (by rfl) B.len PySem.boot_len (pa_cons (pv 4) pa_nil)) pa_nil))) (fun _ _ => rfl))))
      (pss_cons (ps_setLc (i := 8) (own := [("_law_way", 10)]) (g := gName 10) (tt := tTest (tOp rEq (tOp (rIxT K) (tOp (rIxT K) (tVar 10) (tVar 5)) (tC (.int 0))) (tVar 9))) (te := tVar 10) rfl nd rfl rfl (sw_true rfl rfl rfl (by decide +kernel)) (pi_list (pv 2)) (blkOk_by (own := [("_law_way", 10)]) (N := NSp) (sc := defScope sLawStep) (by decide +kernel))
        (fun _ _ _ _ _ => (pg_name (i := 10) nd rfl (Or.inl rfl))) (fun _ _ _ _ _ => pts_one (pt_cmpR op_eq (pe_ix ix_tup (pe_ix ix_tup (pv 10) (pv 5) (fun _ _ => rfl)) pe_int (fun _ _ => rfl)) (pv 9) (nomark _))) (fun _ _ _ _ _ => (pv 10)))
      (pss_one (ps_ret (pe_tup (pa_cons (pe_callAt (CX := L2.CX P w) (E := fun _ _ _ => False) (know := fun σ s2 H2 => CellsAt (clG s.heap.objs.size) frG [slotAt σ 1, slotAt σ 5, slotAt σ 9] s2.heap H2)
            (sp := fun σ v H1 Q' => ∃ f sp, v = .ref f ∧ Sho.Act P w K mg base (L2.CX P w) 10 (clG s.heap.objs.size) frG sp f H1 ∧ ∀ E' : XK, (∀ cls d H2, OutQ CC CN CU Q' cls d H2 → E' cls d H2) → sp [slotAt σ 1, slotAt σ 5, slotAt σ 9] H1 Q' E')
            (by rfl) mO kO passL (fun pins σ H' s' I => cells_of (js := [1, 5, 9]) (fr := frG) I (Caps.made (scope := scL nmG) I.ok (free_by (os := (defScope sLawStep).names) (by decide +kernel)) (by decide +kernel) rfl))
            (pa_cons (pe_lam TB rfl hm hu (free_by (os := (defScope sLawStep).names) (by decide +kernel))) pa_nil) (fun σ2 s2 H2 u v Q2 e0 kn rv h => by
              obtain ⟨f2', sp2, rfl, ac, q⟩ := h
              cases rv
              exact outcomeQ_run FO bO EE (hr.mono (by decide)) e0 kn ac q)) (pa_cons (pv 8) (pa_cons (pe_tup (pa_cons pe_str (pa_cons (pv 5) (pa_cons (pv 9) pa_nil)))) pa_nil)))))))))), ?_⟩
  have lwy := Shg.pair_len wy
  have l720 := left_len (rs := rs) pl few
  have sz : 1000 < sizeLine := by decide
  obtain ⟨lv0, gv0⟩ := (law_all pl.nd pl.valid).1 v0 hv0
  have lgs := pl.all
  have S0 : SQ K C T l a x La W Hd Nm ns cs gs rs ys v0 H := ⟨hD, O, hT, eW, wy, wh, eN⟩
  obtain ⟨vh, hh, rh⟩ := id wh
  have lvh := Shg.pair_len rh
  -- which going, whether truly
  refine ⟨_, rfl, _, rfl, Hd, vh, rfl, .inr (SqT.of hh), l, a, ns, _, rfl, hD, by omega, by omega, fun r H1 r0 r1 b1 d1 => ?_⟩
  have S1 := S0.but nLl nWl nNl b1 d1
  refine ⟨_, rfl, l, a, ns, 4, rfl, d1, by decide, by decide, fun q H2 q0 q1 b2 d2 => ⟨_, _, rfl, rfl, by show 2 ≤ sizeLine; decide, fun tp htp => ⟨tp, _, rfl, SqT.of upd_same, rfl, _, _, rfl, _, _, rfl, rfl, ?_⟩⟩⟩
  have S2' := S1.but nLl nWl nNl b2 d2
  have s3 := Shg.same_upd (o := .tup [.int r, .bl (decide (0 < q))]) htp
  have S2 := S2'.same s3
  have B2 := (b1.trans b2).trans (But.of s3)
  obtain ⟨k, rfl⟩ := Int.eq_ofNat_of_zero_le r0
  have hk : k < gs.length := by omega
  have klog : ((k : Nat) : Int).natAbs.log2 < 1920 := by
    have : ∀ j : Fin 6, ((j.val : Nat) : Int).natAbs.log2 < 1920 := by decide
    exact this ⟨k, by omega⟩
  change _ at S2
  generalize upd H2 tp (.tup [.int (k : Int), .bl (decide (0 < q))]) = H3 at *
  generalize decide (0 < q) = tru at *
  clear S1 S2' s3 b1 b2 d1 d2 htp q0 q1 S0
  refine nx_of (ifs_no (Pv := fun H' => But l H3 H' ∧ DrawSt K H' l a ns) (fun R0 h0 => ⟨_, rfl, l, a, ns, 2, rfl, S2.d, by decide, by decide, fun q H4 q0 q1 b4 d4 => ⟨rfl, _, rfl, h0 _ _ ⟨b4, d4⟩⟩⟩) (fun H3' ⟨b3, d3⟩ => ?_) fun H3' ⟨b3, d3⟩ => ?_)
  · have S3 := S2.but nLl nWl nNl b3 d3
    have B3 := B2.trans b3
    refine asg_rel (fun v H' => ∃ n : Int, v = .int n ∧ But l H3' H' ∧ DrawSt K H' l a ns) (fun R0 h0 => ?_) fun vn H4 h4 => ?_
    · refine ⟨_, rfl, _, rfl, ite2 (fun c => ?_) (fun c => ?_)⟩
      · obtain ⟨vh3, hh3, rh3⟩ := S3.wh
        have lvh3 := Shg.pair_len rh3
        obtain ⟨u, hu⟩ : ∃ u, vh3[k]? = some u := ⟨_, List.getElem?_eq_getElem (by omega)⟩
        obtain ⟨p, hp, tq, rfl, hq⟩ := Shg.pair_get rh3 hu
        exact ⟨_, rfl, _, rfl, Hd, vh3, _, .ref tq, rfl, rfl, SqT.of hh3, atI_nat hu, tq, _, 1, .int (p.2 : Int), rfl, rfl, SqT.of hq, atI_nat (j := 1) rfl, h0 _ _ ⟨_, rfl, But.of (Same.refl _), d3⟩⟩
      · refine ⟨_, rfl, _, rfl, Nm, _, rfl, .inl (SqL.of S3.n), _, _, rfl, rfl, l, a, ns, _, rfl, d3, by rw [List.length_map, List.length_map]; omega, by rw [List.length_map, List.length_map]; omega, fun q H4 q0 q1 b4 d4 => h0 _ _ ⟨q, rfl, b4, d4⟩⟩
    obtain ⟨n, rfl, b4, d4⟩ := h4
    have S4 := S3.but nLl nWl nNl b4 d4
    have B4 := B3.trans b4
    clear b4 d4 b3 d3 S3 B3 S2 B2
    -- those that agree
    refine name_at (asg_rel (fun v H' => ∃ D : Addr, v = .ref D ∧ Same H4 H' ∧ H4 D = none ∧ H' D = some (.lst (((ys.zip (left cs gs rs)).filter fun q => okRec q.2 ((k : Int), Fc.lift n)).map fun q => q.1))) (fun R0 h0 => ?_) fun vL H5 h5 => ?_)
    · refine ⟨_, rfl, W, rfl, ⟨_, SqL.of S4.w⟩, fun D hD => ?_⟩
      have lz : (ys.zip (left cs gs rs)).length = ys.length := by rw [List.length_zip, lwy, Nat.min_self]
      refine lc_gather (walk_list (K := K) (a := W) (xs := ys)) (fun j => ((ys.zip (left cs gs rs))[j]?).bind fun q => if okRec q.2 ((k : Int), Fc.lift n) = true then some q.1 else none) hD (by omega) (fun H6 s6 => SqL.of (s6 _ _ S4.w)) (fun j u H7 H6 hj s6 yy R k1 => ?_) fun H6 s6 e6 => ?_
      · obtain ⟨rfl, e7⟩ := yy
        obtain ⟨v, hv, t, rfl, vs, ht, rv⟩ := Shg.pair_get S4.wy e7
        obtain ⟨lv, _⟩ := left_good pl v (List.mem_of_getElem? hv)
        have lvs := Shg.pair_len rv
        obtain ⟨u, hu⟩ : ∃ u, vs[k]? = some u := ⟨_, List.getElem?_eq_getElem (by omega)⟩
        obtain ⟨p, hp, tq, rfl, hq⟩ := Shg.pair_get rv hu
        have k2 := k1 _ (Same.refl _)
        rw [show (ys.zip (left cs gs rs))[j]? = some (V.ref t, v) from List.getElem?_zip_eq_some.mpr ⟨e7, hv⟩] at k2
        have ok : okRec v ((k : Int), Fc.lift n) = decide (V.int (p.2 : Int) = V.int n) := by
          unfold okRec
          rw [show (((k : Int), Fc.lift n).1.toNat) = k from Int.toNat_natCast k, hp]
          show okP p _ = _
          exact decide_eq_decide.mpr ⟨fun e => congrArg V.int e, fun e => by injection e⟩
        have k2 : R (if okRec v ((k : Int), Fc.lift n) = true then some (V.ref t) else none) _ := k2
        rw [ok] at k2
        refine ⟨rfl, _, rfl, _, rfl, t, vs, _, .ref tq, rfl, rfl, SqT.of (s6 _ _ ht), atI_nat hu, tq, _, 1, V.int (p.2 : Int), rfl, rfl, SqT.of (s6 _ _ hq), atI_nat (j := 1) rfl, _, rfl, rfl, _, rfl, ?_⟩
        by_cases q : V.int (p.2 : Int) = V.int n
        · rw [decide_eq_true q] at k2 ⊢
          exact iteT ⟨_, rfl, k2⟩
        · rw [decide_eq_false q] at k2 ⊢
          exact iteF k2
      · rw [← lz, gather_filter (ys.zip (left cs gs rs)) (fun q => okRec q.2 ((k : Int), Fc.lift n)) fun q => q.1] at e6
        exact h0 _ _ ⟨D, rfl, s6, hD, e6⟩
    obtain ⟨Lf, rfl, s5, fLf, eLf⟩ := h5
    have wl := left_snoc cs gs rs ((k : Int), Fc.lift n)
    have wLf : WaysV H5 (((ys.zip (left cs gs rs)).filter fun q => okRec q.2 ((k : Int), Fc.lift n)).map fun q => q.1) (left cs gs (rs ++ [((k : Int), Fc.lift n)])) := by
      rw [wl]
      exact pair_filterQ (fun v => okRec v ((k : Int), Fc.lift n)) (ways_monoV S4.wy fun b xs e => s5 _ _ e)
    have S5 := S4.same s5
    have B5 := B4.trans (But.of s5)
    have fL0 : H Lf = none := by
      cases e : H Lf with
      | none => rfl
      | some o =>
        by_cases q : Lf = l
        · obtain ⟨zs, hl⟩ := draw_at S4.d
          rw [q, hl] at fLf
          cases fLf
        · rw [B4 _ _ e q] at fLf
          cases fLf
    have nLf : Lf ≠ La := fun q => by
      obtain ⟨_, _, _, _, rv, _, _, _, _, h, _⟩ := S4.o
      rw [q, h] at fLf
      cases fLf
    have fitr : FitR gs [((k : Int), Fc.lift n)] := fun q hq => by
      rw [List.mem_singleton.mp hq]
      exact ⟨by show (0 : Int) ≤ (k : Int); omega, by show (k : Int) < (gs.length : Nat); omega⟩
    have cnt : (left cs gs (rs ++ [((k : Int), Fc.lift n)])).length = ways cs gs (rs ++ [((k : Int), Fc.lift n)]) := left_count pl.nd pl.valid fun q hq => (List.mem_append.mp hq).elim (fit q) (fitr q)
    -- what is said of it
    refine name_at (tup_relQ (fun v H' => Keep2 l La H H' ∧ DrawSt K H' l a ns ∧ LamX.Tabs T H' ∧ ObsJ C H' x La cs gs (if left cs gs (rs ++ [((k : Int), Fc.lift n)]) = [] then rs else rs ++ [((k : Int), Fc.lift n)]) ∧ H' Lf = some (.lst (((ys.zip (left cs gs rs)).filter fun q => okRec q.2 ((k : Int), Fc.lift n)).map fun q => q.1)) ∧ WaysV H' (((ys.zip (left cs gs rs)).filter fun q => okRec q.2 ((k : Int), Fc.lift n)).map fun q => q.1) (left cs gs (rs ++ [((k : Int), Fc.lift n)])) ∧ (left cs gs (rs ++ [((k : Int), Fc.lift n)]) = [] → ∃ q, v = .ref q ∧ H' q = some (.tup [.str "Contradiction"])) ∧ (left cs gs (rs ++ [((k : Int), Fc.lift n)]) ≠ [] → v = .int ((left cs gs (rs ++ [((k : Int), Fc.lift n)])).length : Nat))) (fun R0 h0 => ?_) fun vf H6 h6 => ?_)
    · refine cons_of ⟨S5.t, fun f0 c0 Hh Gh nh lh => ⟨_, rfl, f0, spLamL C CC T, rfl, ?_, fun E' hE => ?_⟩⟩
      · refine act0 (k := 9) (N := frL) (fr := frL) (sp := spLamL C CC T) lh (nscope_by (sc := scL nmL) (by decide +kernel)) (fun _ _ => rfl) fun A outer s H ws Q E hr hw h => ?_
        obtain ⟨x, La, i, n, cs, gs, rs, rfl, hl, hi, J⟩ := h
        refine ⟨_, pe_meth (pv 0) OC.cl mL GL hr bL .nil (passes_call (takes_of rfl rfl rfl rfl) fun _ _ _ _ z => z) (pa_cons (pv 1) (pa_cons (pv 2) pa_nil)), ?_⟩
        obtain ⟨dx, _, _, _, _, hx, _⟩ := id J.1
        refine ⟨_, rfl, x, dx, _, rfl, hx, no_f _ _ _ (by decide +kernel) (by decide +kernel) (by decide +kernel), _, rfl, _, rfl, ?_⟩
        exact ⟨x, La, i, n, cs, gs, rs, rfl, J.1, hl, fun _ => J, fun c => absurd hi c⟩
      · have k5 : ∀ b o, H5 b = some o → (∀ ps, o ≠ .tbl ps) → Hh b = some o := fun b o e n => Gh.ext _ _ e n
        have O5 := S5.o.ext Gh.ext
        have TT := Gh.tab S5.t
        have D5 := draw_ext S5.d Gh.ext
        have eLh := k5 _ _ eLf fun _ z => nomatch z
        have wLh := ways_monoV wLf fun b xs e => k5 _ _ e fun _ z => nomatch z
        have KP : Keep2 l La H Hh := (Keep2.of_but B5).trans (Keep2.ext Gh.ext)
        refine ⟨x, La, (k : Int), n, cs, gs, rs, rfl, klog, ⟨by omega, by omega⟩, O5, by omega, pl.valid, TT, fun pos HA t rv gA eA eT => ?_, fun zero HA gA => ?_⟩
        · have nonil : left cs gs (rs ++ [((k : Int), Fc.lift n)]) ≠ [] := fun z => by rw [z] at cnt; rw [← cnt] at pos; exact absurd pos (Nat.lt_irrefl _)
          have up : ∀ b xs, Hh b = some (.tup xs) → upd HA La (.lst (rv ++ [.ref t])) b = some (.tup xs) := fun b xs e => by
            have e2 := gA.ext _ _ e fun _ z => nomatch z
            rw [upd_ne fun q => by rw [q, eA] at e2; cases e2]
            exact e2
          refine h0 _ _ ⟨KP.trans ((Keep2.ext gA.ext).trans (Keep2.but But2.upd2)), draw_told (draw_ext D5 gA.ext) nLl apL, tabs_upd (gA.tab TT) eA, ?_, ?_, ways_monoV wLh up, fun z => absurd z nonil, fun _ => by rw [cnt]⟩
          · rw [if_neg nonil]
            exact (O5.ext gA.ext).push eA eT
          · rw [upd_ne nLf]
            exact gA.ext _ _ eLh fun _ z => nomatch z
        · have nil : left cs gs (rs ++ [((k : Int), Fc.lift n)]) = [] := by rw [zero] at cnt; exact List.length_eq_zero_iff.mp cnt
          refine hE _ _ _ (.inl ⟨rfl, fun p H2 s2 e2 => h0 _ _ ⟨KP.trans ((Keep2.ext gA.ext).trans (Keep2.of s2)), draw_ext (draw_ext D5 gA.ext) (LamX.ExtN.of s2), LamX.Tabs.ext (gA.tab TT) s2, ?_, s2 _ _ (gA.ext _ _ eLh fun _ z => nomatch z), ways_monoV wLh fun b xs e => s2 _ _ (gA.ext _ _ e fun _ z => nomatch z), fun _ => ⟨p, rfl, e2⟩, fun z => absurd nil z⟩⟩)
          rw [if_pos nil]
          exact (O5.ext gA.ext).same s2
    obtain ⟨kp, d6, t6, o6, e6, w6, hno, hyes⟩ := h6
    refine ⟨_, rfl, _, rfl, _, rfl, by show 3 ≤ sizeLine; decide, fun tr htr => ⟨by show 3 ≤ sizeLine; decide, fun p hp => ?_⟩⟩
    have u1 := Shg.same_upd (o := .tup [.str "lift", .int (k : Int), V.int n]) htr
    have u2 := Shg.same_upd (o := .tup [vf, .ref Lf, .ref tr]) hp
    have u12 := u1.trans u2
    exact kk _ p Lf tr ((k : Int), Fc.lift n) vf _ (kp.trans (Keep2.of u12)) (draw_ext d6 (LamX.ExtN.of u12)) (LamX.Tabs.ext t6 u12) (o6.same u12) upd_same (u2 _ _ upd_same) fL0 (u12 _ _ e6) (ways_monoV w6 fun b xs e => u12 _ _ e) fitr (fun z => (hno z).elim fun q h => ⟨q, h.1, u12 _ _ h.2⟩) hyes
  · have S3 := S2.but nLl nWl nNl b3 d3
    have B3 := B2.trans b3
    refine asg_rel (fun v H' => ∃ z : Str, v = .str z ∧ z ∈ cs.map (fun c => c.1) ∧ But l H3' H' ∧ DrawSt K H' l a ns) (fun R0 h0 => ?_) fun vn H4 h4 => ?_
    · refine ⟨_, rfl, _, rfl, ite2 (fun c => ?_) (fun c => ?_)⟩
      · obtain ⟨vh3, hh3, rh3⟩ := S3.wh
        have lvh3 := Shg.pair_len rh3
        obtain ⟨u, hu⟩ : ∃ u, vh3[k]? = some u := ⟨_, List.getElem?_eq_getElem (by omega)⟩
        obtain ⟨p, hp, tq, rfl, hq⟩ := Shg.pair_get rh3 hu
        exact ⟨_, rfl, _, rfl, Hd, vh3, _, .ref tq, rfl, rfl, SqT.of hh3, atI_nat hu, tq, _, 0, .str p.1, rfl, rfl, SqT.of hq, atI_nat (j := 0) rfl, h0 _ _ ⟨_, rfl, gw_names gv0 (List.mem_map.mpr ⟨p, List.mem_of_getElem? hp, rfl⟩), But.of (Same.refl _), d3⟩⟩
      · refine ⟨_, rfl, _, rfl, _, rfl, Nm, _, rfl, .inl (SqL.of S3.n), l, a, ns, _, rfl, d3, by rw [List.length_map, List.length_map]; omega, by rw [List.length_map, List.length_map]; omega, fun q H4 q0 q1 b4 d4 => ?_⟩
        obtain ⟨y, hy, ey⟩ := at_mem (xs := (cs.map fun c => c.1).map V.str) q0 q1
        obtain ⟨z, hz, rfl⟩ := List.mem_map.mp hy
        exact ⟨Nm, _, q, .str z, rfl, rfl, SqL.of (b4 _ _ S3.n nNl), ey, h0 _ _ ⟨z, rfl, hz, b4, d4⟩⟩
    obtain ⟨z, rfl, hzm, b4, d4⟩ := h4
    have zok : z.length ≤ 8 := by
      obtain ⟨c, hc, rfl⟩ := List.mem_map.mp hzm
      exact (pl.ok c hc).2.1
    have S4 := S3.but nLl nWl nNl b4 d4
    have B4 := B3.trans b4
    clear b4 d4 b3 d3 S3 B3 S2 B2
    -- those that agree
    refine name_at (asg_rel (fun v H' => ∃ D : Addr, v = .ref D ∧ Same H4 H' ∧ H4 D = none ∧ H' D = some (.lst (((ys.zip (left cs gs rs)).filter fun q => okRec q.2 ((k : Int), Fc.guest z)).map fun q => q.1))) (fun R0 h0 => ?_) fun vL H5 h5 => ?_)
    · refine ⟨_, rfl, W, rfl, ⟨_, SqL.of S4.w⟩, fun D hD => ?_⟩
      have lz : (ys.zip (left cs gs rs)).length = ys.length := by rw [List.length_zip, lwy, Nat.min_self]
      refine lc_gather (walk_list (K := K) (a := W) (xs := ys)) (fun j => ((ys.zip (left cs gs rs))[j]?).bind fun q => if okRec q.2 ((k : Int), Fc.guest z) = true then some q.1 else none) hD (by omega) (fun H6 s6 => SqL.of (s6 _ _ S4.w)) (fun j u H7 H6 hj s6 yy R k1 => ?_) fun H6 s6 e6 => ?_
      · obtain ⟨rfl, e7⟩ := yy
        obtain ⟨v, hv, t, rfl, vs, ht, rv⟩ := Shg.pair_get S4.wy e7
        obtain ⟨lv, _⟩ := left_good pl v (List.mem_of_getElem? hv)
        have lvs := Shg.pair_len rv
        obtain ⟨u, hu⟩ : ∃ u, vs[k]? = some u := ⟨_, List.getElem?_eq_getElem (by omega)⟩
        obtain ⟨p, hp, tq, rfl, hq⟩ := Shg.pair_get rv hu
        have k2 := k1 _ (Same.refl _)
        rw [show (ys.zip (left cs gs rs))[j]? = some (V.ref t, v) from List.getElem?_zip_eq_some.mpr ⟨e7, hv⟩] at k2
        have ok : okRec v ((k : Int), Fc.guest z) = decide (V.str p.1 = V.str z) := by
          unfold okRec
          rw [show (((k : Int), Fc.guest z).1.toNat) = k from Int.toNat_natCast k, hp]
          show okP p _ = _
          exact decide_eq_decide.mpr ⟨fun e => congrArg V.str e, fun e => by injection e⟩
        have k2 : R (if okRec v ((k : Int), Fc.guest z) = true then some (V.ref t) else none) _ := k2
        rw [ok] at k2
        refine ⟨rfl, _, rfl, _, rfl, t, vs, _, .ref tq, rfl, rfl, SqT.of (s6 _ _ ht), atI_nat hu, tq, _, 0, V.str p.1, rfl, rfl, SqT.of (s6 _ _ hq), atI_nat (j := 0) rfl, _, rfl, rfl, _, rfl, ?_⟩
        by_cases q : V.str p.1 = V.str z
        · rw [decide_eq_true q] at k2 ⊢
          exact iteT ⟨_, rfl, k2⟩
        · rw [decide_eq_false q] at k2 ⊢
          exact iteF k2
      · rw [← lz, gather_filter (ys.zip (left cs gs rs)) (fun q => okRec q.2 ((k : Int), Fc.guest z)) fun q => q.1] at e6
        exact h0 _ _ ⟨D, rfl, s6, hD, e6⟩
    obtain ⟨Lf, rfl, s5, fLf, eLf⟩ := h5
    have wl := left_snoc cs gs rs ((k : Int), Fc.guest z)
    have wLf : WaysV H5 (((ys.zip (left cs gs rs)).filter fun q => okRec q.2 ((k : Int), Fc.guest z)).map fun q => q.1) (left cs gs (rs ++ [((k : Int), Fc.guest z)])) := by
      rw [wl]
      exact pair_filterQ (fun v => okRec v ((k : Int), Fc.guest z)) (ways_monoV S4.wy fun b xs e => s5 _ _ e)
    have S5 := S4.same s5
    have B5 := B4.trans (But.of s5)
    have fL0 : H Lf = none := by
      cases e : H Lf with
      | none => rfl
      | some o =>
        by_cases q : Lf = l
        · obtain ⟨zs, hl⟩ := draw_at S4.d
          rw [q, hl] at fLf
          cases fLf
        · rw [B4 _ _ e q] at fLf
          cases fLf
    have nLf : Lf ≠ La := fun q => by
      obtain ⟨_, _, _, _, rv, _, _, _, _, h, _⟩ := S4.o
      rw [q, h] at fLf
      cases fLf
    have fitr : FitR gs [((k : Int), Fc.guest z)] := fun q hq => by
      rw [List.mem_singleton.mp hq]
      exact ⟨by show (0 : Int) ≤ (k : Int); omega, by show (k : Int) < (gs.length : Nat); omega⟩
    have cnt : (left cs gs (rs ++ [((k : Int), Fc.guest z)])).length = ways cs gs (rs ++ [((k : Int), Fc.guest z)]) := left_count pl.nd pl.valid fun q hq => (List.mem_append.mp hq).elim (fit q) (fitr q)
    -- what is said of it
    refine name_at (tup_relQ (fun v H' => Keep2 l La H H' ∧ DrawSt K H' l a ns ∧ LamX.Tabs T H' ∧ ObsJ C H' x La cs gs (if left cs gs (rs ++ [((k : Int), Fc.guest z)]) = [] then rs else rs ++ [((k : Int), Fc.guest z)]) ∧ H' Lf = some (.lst (((ys.zip (left cs gs rs)).filter fun q => okRec q.2 ((k : Int), Fc.guest z)).map fun q => q.1)) ∧ WaysV H' (((ys.zip (left cs gs rs)).filter fun q => okRec q.2 ((k : Int), Fc.guest z)).map fun q => q.1) (left cs gs (rs ++ [((k : Int), Fc.guest z)])) ∧ (left cs gs (rs ++ [((k : Int), Fc.guest z)]) = [] → ∃ q, v = .ref q ∧ H' q = some (.tup [.str "Contradiction"])) ∧ (left cs gs (rs ++ [((k : Int), Fc.guest z)]) ≠ [] → v = .int ((left cs gs (rs ++ [((k : Int), Fc.guest z)])).length : Nat))) (fun R0 h0 => ?_) fun vf H6 h6 => ?_)
    · refine cons_of ⟨S5.t, fun f0 c0 Hh Gh nh lh => ⟨_, rfl, f0, spLamG C CC T, rfl, ?_, fun E' hE => ?_⟩⟩
      · refine act0 (k := 9) (N := frG) (fr := frG) (sp := spLamG C CC T) lh (nscope_by (sc := scL nmG) (by decide +kernel)) (fun _ _ => rfl) fun A outer s H ws Q E hr hw h => ?_
        obtain ⟨x, La, i, z, cs, gs, rs, rfl, hl, hi, hz, lc, hm, J⟩ := h
        refine ⟨_, pe_meth (pv 0) OC.cl mG GG hr bG .nil (passes_call (takes_of rfl rfl rfl rfl) fun _ _ _ _ z => z) (pa_cons (pv 1) (pa_cons (pv 2) pa_nil)), ?_⟩
        obtain ⟨dx, _, _, _, _, hx, _⟩ := id J.1
        refine ⟨_, rfl, x, dx, _, rfl, hx, no_f _ _ _ (by decide +kernel) (by decide +kernel) (by decide +kernel), _, rfl, _, rfl, ?_⟩
        exact ⟨x, La, i, z, cs, gs, rs, rfl, J.1, hl, hz, lc, fun _ _ => J, fun _ c => absurd hm c, fun c => absurd hi c⟩
      · have k5 : ∀ b o, H5 b = some o → (∀ ps, o ≠ .tbl ps) → Hh b = some o := fun b o e n => Gh.ext _ _ e n
        have O5 := S5.o.ext Gh.ext
        have TT := Gh.tab S5.t
        have D5 := draw_ext S5.d Gh.ext
        have eLh := k5 _ _ eLf fun _ z => nomatch z
        have wLh := ways_monoV wLf fun b xs e => k5 _ _ e fun _ z => nomatch z
        have KP : Keep2 l La H Hh := (Keep2.of_but B5).trans (Keep2.ext Gh.ext)
        refine ⟨x, La, (k : Int), z, cs, gs, rs, rfl, klog, ⟨by omega, by omega⟩, by have := zok; omega, by omega, hzm, O5, by omega, pl.valid, TT, fun pos HA t rv gA eA eT => ?_, fun zero HA gA => ?_⟩
        · have nonil : left cs gs (rs ++ [((k : Int), Fc.guest z)]) ≠ [] := fun z => by rw [z] at cnt; rw [← cnt] at pos; exact absurd pos (Nat.lt_irrefl _)
          have up : ∀ b xs, Hh b = some (.tup xs) → upd HA La (.lst (rv ++ [.ref t])) b = some (.tup xs) := fun b xs e => by
            have e2 := gA.ext _ _ e fun _ z => nomatch z
            rw [upd_ne fun q => by rw [q, eA] at e2; cases e2]
            exact e2
          refine h0 _ _ ⟨KP.trans ((Keep2.ext gA.ext).trans (Keep2.but But2.upd2)), draw_told (draw_ext D5 gA.ext) nLl apL, tabs_upd (gA.tab TT) eA, ?_, ?_, ways_monoV wLh up, fun z => absurd z nonil, fun _ => by rw [cnt]⟩
          · rw [if_neg nonil]
            exact (O5.ext gA.ext).push eA eT
          · rw [upd_ne nLf]
            exact gA.ext _ _ eLh fun _ z => nomatch z
        · have nil : left cs gs (rs ++ [((k : Int), Fc.guest z)]) = [] := by rw [zero] at cnt; exact List.length_eq_zero_iff.mp cnt
          refine hE _ _ _ (.inl ⟨rfl, fun p H2 s2 e2 => h0 _ _ ⟨KP.trans ((Keep2.ext gA.ext).trans (Keep2.of s2)), draw_ext (draw_ext D5 gA.ext) (LamX.ExtN.of s2), LamX.Tabs.ext (gA.tab TT) s2, ?_, s2 _ _ (gA.ext _ _ eLh fun _ z => nomatch z), ways_monoV wLh fun b xs e => s2 _ _ (gA.ext _ _ e fun _ z => nomatch z), fun _ => ⟨p, rfl, e2⟩, fun z => absurd nil z⟩⟩)
          rw [if_pos nil]
          exact (O5.ext gA.ext).same s2
    obtain ⟨kp, d6, t6, o6, e6, w6, hno, hyes⟩ := h6
    refine ⟨_, rfl, _, rfl, _, rfl, by show 3 ≤ sizeLine; decide, fun tr htr => ⟨by show 3 ≤ sizeLine; decide, fun p hp => ?_⟩⟩
    have u1 := Shg.same_upd (o := .tup [.str "guest", .int (k : Int), V.str z]) htr
    have u2 := Shg.same_upd (o := .tup [vf, .ref Lf, .ref tr]) hp
    have u12 := u1.trans u2
    exact kk _ p Lf tr ((k : Int), Fc.guest z) vf _ (kp.trans (Keep2.of u12)) (draw_ext d6 (LamX.ExtN.of u12)) (LamX.Tabs.ext t6 u12) (o6.same u12) upd_same (u2 _ _ upd_same) fL0 (u12 _ _ e6) (ways_monoV w6 fun b xs e => u12 _ _ e) fitr (fun z => (hno z).elim fun q h => ⟨q, h.1, u12 _ _ h.2⟩) hyes
end
end Jo
set_option Elab.async false
set_option linter.all false
set_option maxRecDepth 100000
set_option maxHeartbeats 8000000
set_option autoImplicit false
/-! The law of k08. -/
namespace Jo
open PySem L2 Sho NdefX Shg Sh1 Go Dw PyProof.Rows
abbrev NQl : List Str := ["_law_script", "_law_state", "_law_turn", "_law_comings", "_law_goings", "_law_observer", "_law_ways_here", "_law_records", "_law_hidden", "_law_names", "_law_more", "_law_found", "_law_left", "_law_record", "_law_size", "_law_works", "_law_expected", "_law_name", "_law_come", "_law_work"]
abbrev qLaw08 : Str := "law.<locals>.<lambda>"
abbrev nm2 : List (Str × NameKind) := [("_law_observer", .free), ("_law_size", .free)]
abbrev fr2 : List Str := ["_law_observer", "_law_size"]
abbrev cl2 (n : Nat) : List (Str × Addr) := cloFrom (cellsFrom (n + 1) (defScope sLaw).names []) nm2 []
abbrev nm1 : List (Str × NameKind) := [("_law_observer", .free)]
abbrev fr1 : List Str := ["_law_observer"]
abbrev cl1 (n : Nat) : List (Str × Addr) := cloFrom (cellsFrom (n + 1) (defScope sLaw).names []) nm1 []
theorem not_fpQ {cl : List (Str × Addr)} {fr : List Str} {ws : List (Option V)} {h : Heap} {H : Hp} {fp : List Addr} (C : CellsAt cl fr ws h H) (hfp : ∀ b ∈ fp, ∃ o, h.get? b = some o ∧ ∀ v, o.data ≠ .cell v) : ∀ y c, cl.lookup y = some c → c ∉ fp := fun y c e m => by
  obtain ⟨_, v, o, ho, hd⟩ := C.all y c e
  obtain ⟨o', ho', n⟩ := hfp c m
  rw [ho] at ho'
  cases ho'
  exact n v hd
/-! ### what stands through a turn -/
structure TQ (K : PySem.W.Frag) (T : List (Addr × Str)) (l a : Addr) (ns : List Int) (Cm Gm Hd Nm : Addr) (cs : List (Str × Int)) (gs : List Int) (ws : List V) (v0 : Way) (H : Hp) : Prop where
  d : DrawSt K H l a ns
  t : LamX.Tabs T H
  c : H Cm = some (.lst ws)
  cp : PairsAt H ws cs
  g : H Gm = some (.lst (gs.map V.int))
  wh : WayAt H Hd v0
  n : H Nm = some (.lst ((cs.map fun c => c.1).map V.str))
/-- lists that lie apart from that of the draws and that of the records -/
structure ApQ (l La Cm Gm Nm : Addr) : Prop where
  lc : Cm ≠ l
  lg : Gm ≠ l
  ln : Nm ≠ l
  ac : Cm ≠ La
  ag : Gm ≠ La
  an : Nm ≠ La
section
variable {K : PySem.W.Frag} {C : Addr} {T : List (Addr × Str)} {l a x La Cm Gm Hd Nm W Rl : Addr} {ns : List Int} {cs : List (Str × Int)} {gs : List Int} {rs : List Rec} {ys ws rws : List V} {v0 : Way} {H H' : Hp}
theorem keep_tup (k : Keep2 l La H H') {zs rv : List V} (hl : H l = some (.lst zs)) (hA : H La = some (.lst rv)) : ∀ b xs, H b = some (.tup xs) → H' b = some (.tup xs) := fun b xs e => k b _ e (fun q => by rw [q, hl] at e; cases e) (fun q => by rw [q, hA] at e; cases e) fun _ z => nomatch z
theorem keep_lst (k : Keep2 l La H H') {b : Addr} {xs : List V} (e : H b = some (.lst xs)) (n : b ≠ l) (m : b ≠ La) : H' b = some (.lst xs) := k b _ e n m fun _ z => nomatch z
theorem TQ.keep (u : TQ K T l a ns Cm Gm Hd Nm cs gs ws v0 H) (ap : ApQ l La Cm Gm Nm) {rv : List V} (hA : H La = some (.lst rv)) (k : Keep2 l La H H') (d : DrawSt K H' l a ns) (t : LamX.Tabs T H') : TQ K T l a ns Cm Gm Hd Nm cs gs ws v0 H' := by
  obtain ⟨zs, hl⟩ := draw_at u.d
  have kt := keep_tup k hl hA
  exact ⟨d, t, keep_lst k u.c ap.lc ap.ac, pair_mono (fun _ _ ⟨t, e, h⟩ => ⟨t, e, kt _ _ h⟩) u.cp, keep_lst k u.g ap.lg ap.ag, u.wh.mono kt, keep_lst k u.n ap.ln ap.an⟩
theorem obs_at {x La : Addr} {rs : List Rec} (o : ObsJ C H x La cs gs rs) : ∃ rv, H La = some (.lst rv) := by
  obtain ⟨_, _, _, _, rv, _, _, _, _, h, _⟩ := o
  exact ⟨rv, h⟩
/-- .. and through the observations -/
structure LQ (K : PySem.W.Frag) (C : Addr) (T : List (Addr × Str)) (l a : Addr) (ns : List Int) (x La Cm Gm Hd Nm : Addr) (cs : List (Str × Int)) (gs : List Int) (ws : List V) (v0 : Way) (W Rl : Addr) (rs : List Rec) (ys rws : List V) (H : Hp) : Prop where
  b : TQ K T l a ns Cm Gm Hd Nm cs gs ws v0 H
  o : ObsJ C H x La cs gs rs
  w : H W = some (.lst ys)
  wl : W ≠ l
  wa : W ≠ La
  wy : WaysV H ys (left cs gs rs)
  ne : left cs gs rs ≠ []
  r : H Rl = some (.lst rws)
  rl : Rl ≠ l
  ra : Rl ≠ La
  rr : PySem.Paired (RecAt H) rws rs
  fit : FitR gs rs
theorem LQ.keep (u : LQ K C T l a ns x La Cm Gm Hd Nm cs gs ws v0 W Rl rs ys rws H) (ap : ApQ l La Cm Gm Nm) (k : Keep2 l La H H') (o : ObsJ C H' x La cs gs rs) (d : DrawSt K H' l a ns) (t : LamX.Tabs T H') : LQ K C T l a ns x La Cm Gm Hd Nm cs gs ws v0 W Rl rs ys rws H' := by
  obtain ⟨zs, hl⟩ := draw_at u.b.d
  obtain ⟨rv, hA⟩ := obs_at u.o
  have kt := keep_tup k hl hA
  exact ⟨u.b.keep ap hA k d t, o, keep_lst k u.w u.wl u.wa, u.wl, u.wa, ways_monoV u.wy kt, u.ne, keep_lst k u.r u.rl u.ra, u.rl, u.ra, pair_mono (fun _ _ ⟨t, e, h⟩ => ⟨t, e, kt _ _ h⟩) u.rr, u.fit⟩
theorem LQ.same (u : LQ K C T l a ns x La Cm Gm Hd Nm cs gs ws v0 W Rl rs ys rws H) (ap : ApQ l La Cm Gm Nm) (s : Same H H') : LQ K C T l a ns x La Cm Gm Hd Nm cs gs ws v0 W Rl rs ys rws H' :=
  u.keep ap (Keep2.of s) (u.o.same s) (draw_ext u.b.d (LamX.ExtN.of s)) (LamX.Tabs.ext u.b.t s)
theorem LQ.grows (u : LQ K C T l a ns x La Cm Gm Hd Nm cs gs ws v0 W Rl rs ys rws H) (ap : ApQ l La Cm Gm Nm) (g : Grows T H H') : LQ K C T l a ns x La Cm Gm Hd Nm cs gs ws v0 W Rl rs ys rws H' :=
  u.keep ap (Keep2.ext g.ext) (u.o.ext g.ext) (draw_ext u.b.d g.ext) (g.tab u.b.t)
theorem LQ.draw (u : LQ K C T l a ns x La Cm Gm Hd Nm cs gs ws v0 W Rl rs ys rws H) (ap : ApQ l La Cm Gm Nm) (n : La ≠ l) (b : But l H H') (d : DrawSt K H' l a ns) : LQ K C T l a ns x La Cm Gm Hd Nm cs gs ws v0 W Rl rs ys rws H' := by
  obtain ⟨zs, hl⟩ := draw_at u.b.d
  exact u.keep ap (Keep2.of_but b) (u.o.draw hl n b) d (tabs_but u.b.t hl b)
end
/-! ### data -/
def wayD (v : Way) : PyData := .tuple (v.map fun p => .tuple [.str p.1, .int (p.2 : Int)])
theorem dp_way {K : PySem.W.Frag} {H : Hp} : ∀ u (v : Way), (∃ t, u = V.ref t ∧ WayAt H t v) → Dp K H u (wayD v) := fun u v ⟨t, e, vs, h1, h2⟩ => by
  rw [e]
  refine .tup (SqT.of h1) (Shp.dp_of (R := OneAt H) (f := fun p : Str × Nat => PyData.tuple [.str p.1, .int (p.2 : Int)]) (fun u p ⟨t, e, h⟩ => ?_) h2)
  rw [e]
  exact .tup (SqT.of h) (.cons (.str _) (.cons (.int _) .nil))
theorem plain_ways {cs : List (Str × Int)} {gs : List Int} {rs : List Rec} (p : PlanQ cs gs) : Shp.PlainD 3 (.list ((left cs gs rs).map wayD)) := Shp.plain_lst fun e he => by
  obtain ⟨v, hv, rfl⟩ := List.mem_map.mp he
  refine Shp.plain_tup fun e he => ?_
  obtain ⟨q, hq, rfl⟩ := List.mem_map.mp he
  have hn := gw_names (left_good p v hv).2 (List.mem_map.mpr ⟨q, hq, rfl⟩)
  obtain ⟨c, hc, ec⟩ := List.mem_map.mp hn
  refine Shp.plain_tup fun e he => ?_
  simp only [List.mem_cons, List.not_mem_nil, or_false] at he
  rcases he with rfl | rfl
  · rw [← ec]
    exact Shp.plain_str (p.ok c hc).2.2 _
  · exact Shp.plain_int _ _
def recD : Rec → PyData
  | (i, .guest z) => .tuple [.str "guest", .int i, .str z]
  | (i, .lift n) => .tuple [.str "lift", .int i, .int n]
theorem rec_stand {H : Hp} : ∀ v (r : Rec), RecAt H v r → Smm.Stands H 1 v (recD r) := fun v r ⟨t, e, h⟩ => by
  obtain ⟨i, f⟩ := r
  cases f with
  | guest z => exact .inr (.inl ⟨t, _, _, e, rfl, h, (by show 3 ≤ 1000; decide), .cons (.inr ⟨_, rfl, rfl⟩) (.cons (.inl ⟨_, rfl, rfl⟩) (.cons (.inr ⟨_, rfl, rfl⟩) .nil))⟩)
  | lift n => exact .inr (.inl ⟨t, _, _, e, rfl, h, (by show 3 ≤ 1000; decide), .cons (.inr ⟨_, rfl, rfl⟩) (.cons (.inl ⟨_, rfl, rfl⟩) (.cons (.inl ⟨_, rfl, rfl⟩) .nil))⟩)
theorem recs_stand {H : Hp} {a : Addr} {xs : List V} {rs : List Rec} (e : H a = some (.lst xs)) (r : PySem.Paired (RecAt H) xs rs) (le : xs.length ≤ 1000) : Smm.Stands H 2 (.ref a) (.list (rs.map recD)) :=
  .inr (.inr ⟨a, xs, _, rfl, rfl, e, le, pair_mapR (S := fun y e => Smm.Stands H 1 y e) (f := recD) rec_stand r⟩)
/-! ### what is refused at the end -/
def spOutR (C CN : Addr) (T : List (Addr × Str)) : SpL := fun ws H _ E => ∃ (x La : Addr) (n : Int) (cs : List (Str × Int)) (gs : List Int) (rs : List Rec), ws = [some (.ref x), some (.int n)] ∧ ObsJ C H x La cs gs rs ∧ n.natAbs.log2 < 1920 ∧ ¬ (0 ≤ n ∧ n < (gs.length : Nat)) ∧ rs.length < 1000 ∧ Valid9 cs gs ∧ LamX.Tabs T H ∧ E (.ref CN) none H
def spNegR (C CN : Addr) : SpL := fun ws H _ E => ∃ (x La : Addr) (cs : List (Str × Int)) (gs : List Int) (rs : List Rec), ws = [some (.ref x)] ∧ ObsJ C H x La cs gs rs ∧ cs.length ≤ 1000 ∧ E (.ref CN) none H
def spNoR (C CU : Addr) : SpL := fun ws H _ E => ∃ (x La : Addr) (cs : List (Str × Int)) (gs : List Int) (rs : List Rec), ws = [some (.ref x)] ∧ ObsJ C H x La cs gs rs ∧ cs.length ≤ 1000 ∧ 0 < gs.length ∧ ("nobody" : Str) ∉ cs.map (fun c => c.1) ∧ ∀ (H' : Hp) (d : Addr), Same H H' → H' d = some (.xd [(("name" : Str), .str "nobody")]) → E (.ref CU) (some d) H'
def expV : Nat → List V
  | 3 => [.str "UnknownGuest", .str "nobody"]
  | _ => [.str "InvalidNumber"]
abbrev expD : PyData := .list [.tuple [.str "InvalidNumber"], .tuple [.str "InvalidNumber"], .tuple [.str "InvalidNumber"], .tuple [.str "UnknownGuest", .str "nobody"]]
theorem ten_nobody : ("nobody" : Str) ∉ tenN := by decide +kernel
section
variable {P : Program} {w : World} {K : PySem.W.Frag} {mg : Str → Option Value} {base : Heap}
/-- one of the works: of two kinds of captures -/
def workQ (P : Program) (w : World) (K : PySem.W.Frag) (mg : Str → Option Value) (base : Heap) (CC CN CU : Addr) (clA clB : List (Str × Addr)) (wa wb : List (Option V)) (v : V) (H1 : Hp) (Q' : VK) : Prop :=
  ∃ f, v = .ref f ∧ ((∃ sp, Sho.Act P w K mg base (L2.CX P w) 10 clA fr2 sp f H1 ∧ ∀ E' : XK, (∀ cls d H2, OutQ CC CN CU Q' cls d H2 → E' cls d H2) → sp wa H1 Q' E') ∨
    ∃ sp, Sho.Act P w K mg base (L2.CX P w) 10 clB fr1 sp f H1 ∧ ∀ E' : XK, (∀ cls d H2, OutQ CC CN CU Q' cls d H2 → E' cls d H2) → sp wb H1 Q' E')
def teQ (P : Program) (w : World) (K : PySem.W.Frag) (mg : Str → Option Value) (base : Heap) (CC CN CU : Addr) (clA clB : List (Str × Addr)) (wa wb : List (Option V)) : TE := fun σ' H' Q' => tCons (tVar 19) tNil σ' H' fun vs H1 => ∃ v, vs = [v] ∧ workQ P w K mg base CC CN CU clA clB wa wb v H1 Q'
def spLaw08 (K : PySem.W.Frag) (T : List (Addr × Str)) : Sp := fun vs H Q _ => ∃ (a : Addr) (ns : List Int), vs = [.ref a] ∧ SqL K H a (ns.map V.int) ∧ ns.length ≤ 63 ∧ LamX.Tabs T H ∧ ∀ H', Q (.bl true) H'
theorem scLaw08 : FnScope NQl ["_law_script"] (defScope sLaw) := ⟨rfl, rfl, rfl, by decide +kernel, rfl, by decide +kernel, by decide +kernel⟩
/-- the defs that the law calls -/
structure Defs08 (P : Program) (w : World) (K : PySem.W.Frag) (mg : Str → Option Value) (base : Heap) (T : List (Addr × Str)) (C fI CC CN CU : Addr) : Prop where
  B : Shg.Blt mg
  OC : ObsC K mg C fI
  EE : ErrsQ K mg CC CN CU
  start : ∃ f fd, FnOk P w K mg base CX0 1 f fd ["_law_script"] (spStart K) ∧ mg "_law_start" = some (.ref f) ∧ PySem.W.keepIn K (.ref f) = true ∧ Binds K fd ["_law_script"] []
  drawn : ∃ f fd, FnOk P w K mg base CX0 1 f fd ["_law_state", "_law_count"] (spDrawn K) ∧ mg "_law_drawn" = some (.ref f) ∧ PySem.W.keepIn K (.ref f) = true ∧ Binds K fd ["_law_state", "_law_count"] []
  plan : ∃ f fd, FnOk P w K mg base CX0 2 f fd ["_law_state", "_law_most"] (spPlanQ K) ∧ mg "_law_plan" = some (.ref f) ∧ PySem.W.keepIn K (.ref f) = true ∧ Binds K fd ["_law_state", "_law_most"] []
  ways : ∃ f fd, FnOk P w K mg base CX0 1 f fd ["_law_comings", "_law_goings"] spLawWays ∧ mg "_law_ways" = some (.ref f) ∧ PySem.W.keepIn K (.ref f) = true ∧ Binds K fd ["_law_comings", "_law_goings"] []
  same : ∃ f fd, (∀ n, FnOk P w K mg base CX0 (n + 1) f fd ["_law_result", "_law_expected"] (Smm.spSame n)) ∧ mg "_law_same" = some (.ref f) ∧ PySem.W.keepIn K (.ref f) = true ∧ Binds K fd ["_law_result", "_law_expected"] []
  step : ∃ f fd, FnOk P w K mg base (L2.CX P w) 12 f fd ["_law_state", "_law_observer", "_law_ways_here", "_law_hidden", "_law_names"] (spStep K C T) ∧ mg "_law_step" = some (.ref f) ∧ PySem.W.keepIn K (.ref f) = true ∧ Binds K fd ["_law_state", "_law_observer", "_law_ways_here", "_law_hidden", "_law_names"] []
  agrees : ∃ f fd, FnOk P w K mg base (L2.CX P w) 9 f fd ["_law_observer", "_law_ways_here", "_law_comings", "_law_goings", "_law_index"] (spAgrees C T) ∧ mg "_law_agrees" = some (.ref f) ∧ PySem.W.keepIn K (.ref f) = true ∧ Binds K fd ["_law_observer", "_law_ways_here", "_law_comings", "_law_goings", "_law_index"] []
  outcome : ∃ f fd, Fun K "_law_outcome" "_law_outcome" sOut f fd ∧ mg "_law_outcome" = some (.ref f) ∧ PySem.W.keepIn K (.ref f) = true ∧ Binds K fd ["_law_work"] []
  new : ∃ fd, FnOk P w K mg base (L2.CX P w) 4 fI fd ["self", "comings", "goings"] (spObsJ C) ∧ Binds K fd ["self", "comings", "goings"] []
  recs : ∃ p g fd, FnOk P w K mg base CX0 1 g fd ["self"] (spRecJ C) ∧ PropOf K C "records" p g ∧ Binds K fd ["self"] []
  lift : ∃ g fd, FnOk P w K mg base (L2.CX P w) 9 g fd ["self", "index", "count"] (spSeeLiftQ C CN CC T) ∧ Meth K C "see_lift" g ∧ Binds K fd ["self", "index", "count"] []
  gst : ∃ g fd, FnOk P w K mg base (L2.CX P w) 9 g fd ["self", "index", "name"] (spSeeGuestQ C CN CU CC T) ∧ Meth K C "see_guest" g ∧ Binds K fd ["self", "index", "name"] []
  poss : ∃ g fd, FnOk P w K mg base (L2.CX P w) 8 g fd ["self", "index"] (spPossibleQ C CN T) ∧ Meth K C "possible_guests" g ∧ Binds K fd ["self", "index"] []
theorem ok_law08 {f c TP C fI CC CN CU : Addr} {fd : FuncData} {T : List (Addr × Str)} (F : Shg.FunL K "law" "law" sLaw f c fd) (D : Defs08 P w K mg base T C fI CC CN CU) (TB : LamX.TabB base mg c TP) (hm : (TP, qLaw08) ∈ T) (hu : ∀ p ∈ T, p.1 = TP → p.2 = qLaw08) :
    FnOk P w K mg base (L2.CX P w) 13 f fd ["_law_script"] (spLaw08 K T) := by
  obtain ⟨B, OC, EE, ⟨f1, fd1, G1, m1, k1, b1⟩, ⟨f2, fd2, G2, m2, k2, b2⟩, ⟨fP, fdP, GP, mP, kP, bP⟩, ⟨fY, fdY, GY, mY, kY, bY⟩, ⟨fS, fdS, GS, mS, kS, bS⟩, ⟨fT, fdT, GT, mT, kT, bT⟩, ⟨fA, fdA, GA, mA, kA, bA⟩, ⟨fO, fdO, FO, mO, kO, bO⟩, ⟨fdN, GN, bN⟩, ⟨ap, fR, fdR, GR, pR, bR⟩, ⟨fL, fdL, GL, mL, bL⟩, ⟨fG, fdG, GG, mG, bG⟩, ⟨fQ, fdQ, GQ, mQ, bQ⟩⟩ := D
  refine F.okX scLaw08 (fun vs H Q E h => ?_) (fun A outer s H vs Q E hr h => ?_)
  · obtain ⟨a, ns, rfl, _⟩ := h
    rfl
  obtain ⟨a, ns, rfl, ha, hl, hT, kk⟩ := h
  have nd := scLaw08.nd
  have GS0 := GS 0
  have GS2 := GS 2
  have pass : Passes (L2.CX P w) (cxOf (L2.CX P w) P w K mg base NQl "law" (defScope sLaw) f (.ref c) A outer s H E) E := passes_call (takes_of rfl rfl rfl rfl) fun _ _ _ _ z => z
  refine ⟨_, (pss_cons (ps_set (i := 1) nd rfl (Or.inl rfl) (pe_call G1 (hr.mono (by decide)) rfl m1 k1 b1 .nil pass0 (pa_cons (pv 0) pa_nil)))
      (pss_cons (ps_for (passes_of rfl) rfl (pi_range1 (by rfl) B.range (pa_cons pe_int pa_nil)) (pg_name (i := 2) nd rfl (Or.inl rfl)) (pss_cons (ps_asg (pe_call GP (hr.mono (by decide)) rfl mP kP bP .nil pass0 (pa_cons (pv 1) (pa_cons pe_int pa_nil))) (pg_tup rfl (pgs_cons (pg_name (i := 3) nd rfl (Or.inl rfl)) (pgs_cons (pg_name (i := 4) nd rfl (Or.inl rfl)) pgs_nil))))
      (pss_cons (ps_asg (pe_tup (pa_cons (pe_make OC.mkr GN (hr.mono (by decide)) rfl OC.gm bN .nil pass (pa_cons (pe_callTy call_tuple_of (by rfl) B.tuple (by decide +kernel) (pa_cons (pv 3) pa_nil)) (pa_cons (pe_callTy call_tuple_of (by rfl) B.tuple (by decide +kernel) (pa_cons (pv 4) pa_nil)) pa_nil))) (pa_cons (pe_call GY (hr.mono (by decide)) rfl mY kY bY .nil pass0 (pa_cons (pv 3) (pa_cons (pv 4) pa_nil))) (pa_cons (pe_lst pa_nil) pa_nil)))) (pg_tup rfl (pgs_cons (pg_name (i := 5) nd rfl (Or.inr rfl)) (pgs_cons (pg_name (i := 6) nd rfl (Or.inl rfl)) (pgs_cons (pg_name (i := 7) nd rfl (Or.inl rfl)) pgs_nil)))))
      (pss_cons (ps_par (i := 8) (j := 9) rfl nd rfl rfl (by decide) rfl rfl (pa_cons (pe_ix ix_list (pv 6) (pe_call G2 (hr.mono (by decide)) rfl m2 k2 b2 .nil pass0 (pa_cons (pv 1) (pa_cons (pe_callB call_len_seq (by rfl) B.len PySem.boot_len (pa_cons (pv 6) pa_nil)) pa_nil))) (fun _ _ => rfl)) (pa_cons (pe_lc (own := [("_law_name", 17), ("_law_come", 18)]) (g := gTup K 2 (gCons (gName 17) (gCons (gName 18) gNil))) (tt := tYes) (te := tVar 17) rfl nd (pi_list (pv 3)) (blkOk_by (own := [("_law_name", 17), ("_law_come", 18)]) (N := NQl) (sc := defScope sLaw) (by decide +kernel))
        (fun _ _ _ _ _ => pg_tup rfl (pgs_cons (pg_name (i := 17) nd rfl (Or.inl rfl)) (pgs_cons (pg_name (i := 18) nd rfl (Or.inl rfl)) pgs_nil))) (fun _ _ _ _ _ => pts_nil) (fun _ _ _ _ _ => (pv 17))) pa_nil)) (by rfl))
      (pss_cons (ps_for (passes_of rfl) rfl (pi_range1 (by rfl) B.range (pa_cons (pe_call G2 (hr.mono (by decide)) rfl m2 k2 b2 .nil pass0 (pa_cons (pv 1) (pa_cons pe_int pa_nil))) pa_nil)) (pg_name (i := 10) nd rfl (Or.inl rfl)) (pss_cons (ps_asg (pe_call GT (hr.mono (by decide)) rfl mT kT bT .nil pass (pa_cons (pv 1) (pa_cons (pv 5) (pa_cons (pv 6) (pa_cons (pv 8) (pa_cons (pv 9) pa_nil)))))) (pg_tup rfl (pgs_cons (pg_name (i := 11) nd rfl (Or.inl rfl)) (pgs_cons (pg_name (i := 12) nd rfl (Or.inl rfl)) (pgs_cons (pg_name (i := 13) nd rfl (Or.inl rfl)) pgs_nil)))))
      (pss_cons (ps_if (pt_cmpR (op_eqD hr.units) (pv 12) (pe_lst pa_nil) (nomark _)) (pss_one (ps_if (pt_cmpR (op_neD hr.units) (pv 11) (pe_tup (pa_cons pe_str pa_nil)) (nomark _)) (pss_one (ps_ret pe_bl)) pss_nil)) (pss_one (ps_if (pt_not (pt_val (pe_call GS0 (hr.mono (by decide)) rfl mS kS bS .nil pass0 (pa_cons (pv 11) (pa_cons (pe_callB call_len_seq (by rfl) B.len PySem.boot_len (pa_cons (pv 12) pa_nil)) pa_nil))))) (pss_one (ps_ret pe_bl)) (pss_one (ps_par (i := 6) (j := 7) rfl nd rfl rfl (by decide) rfl rfl (pa_cons (pv 12) (pa_cons (pe_op op_cat (pv 7) (pe_lst (pa_cons (pv 13) pa_nil))) pa_nil)) (by rfl))))))
      (pss_cons (ps_if (pt_not (pt_val (pe_call GS2 (hr.mono (by decide)) rfl mS kS bS .nil pass0 (pa_cons (pe_prop (pv 5) OC.cl pR GR (hr.mono (by decide)) bR .nil pass0 rfl) (pa_cons (pv 7) pa_nil))))) (pss_one (ps_ret pe_bl)) pss_nil)
      (pss_cons (ps_expr (pe_bm PySem.F.plainAttrs_list PySem.F.slot_list_append PySem.F.type_list_append mt_append (pe_prop (pv 5) OC.cl pR GR (hr.mono (by decide)) bR .nil pass0 rfl) (pa_cons pe_int pa_nil)))
      (pss_one (ps_if (pt_not (pt_val (pe_call GA (hr.mono (by decide)) rfl mA kA bA .nil pass (pa_cons (pv 5) (pa_cons (pv 6) (pa_cons (pv 3) (pa_cons (pv 4) (pa_cons (pe_call G2 (hr.mono (by decide)) rfl m2 k2 b2 .nil pass0 (pa_cons (pv 1) (pa_cons (pe_callB call_len_seq (by rfl) B.len PySem.boot_len (pa_cons (pv 4) pa_nil)) pa_nil))) pa_nil)))))))) (pss_one (ps_ret pe_bl)) pss_nil)))))))
      (pss_cons (ps_set (i := 14) nd rfl (Or.inr rfl) (pe_callB call_len_seq (by rfl) B.len PySem.boot_len (pa_cons (pv 4) pa_nil)))
      (pss_cons (ps_set (i := 15) nd rfl (Or.inl rfl) (pe_lst (pa_cons (pe_lam TB rfl hm hu (free_by (os := (defScope sLaw).names) (by decide +kernel))) (pa_cons (pe_lamD TB rfl hm hu (free_by (os := (defScope sLaw).names) (by decide +kernel)) pe_int) pa_nil))))
      (pss_cons (ps_set (i := 15) nd rfl (Or.inl rfl) (pe_op op_cat (pv 15) (pe_lst (pa_cons (pe_lamD TB rfl hm hu (free_by (os := (defScope sLaw).names) (by decide +kernel)) pe_int) (pa_cons (pe_lamD TB rfl hm hu (free_by (os := (defScope sLaw).names) (by decide +kernel)) pe_int) pa_nil)))))
      (pss_cons (ps_set (i := 16) nd rfl (Or.inl rfl) (pe_op op_cat (pe_op op_rep (pe_lst (pa_cons (pe_tup (pa_cons pe_str pa_nil)) pa_nil)) pe_int) (pe_lst (pa_cons (pe_tup (pa_cons pe_str (pa_cons pe_str pa_nil))) pa_nil))))
      (pss_one (ps_if (pt_cmpR (op_neD hr.units) (pe_lcS (P := fun σ s' H' => CellsAt (cl2 s.heap.objs.size) fr2 [slotAt σ 5, slotAt σ 14] s'.heap H' ∧ CellsAt (cl1 s.heap.objs.size) fr1 [slotAt σ 5] s'.heap H') (own := [("_law_work", 19)]) (g := gName 19) (tt := tYes) (te := fun σ => teQ P w K mg base CC CN CU (cl2 s.heap.objs.size) (cl1 s.heap.objs.size) [slotAt σ 5, slotAt σ 14] [slotAt σ 5]) rfl nd
            (pi_list (pv 15)) (blkOk_by (own := [("_law_work", 19)]) (N := NQl) (sc := defScope sLaw) (by decide +kernel))
            (fun pins σ H' s' I => ⟨cells_of (js := [5, 14]) (fr := fr2) I (Caps.made (scope := scL nm2) I.ok (free_by (os := (defScope sLaw).names) (by decide +kernel)) (by decide +kernel) rfl), cells_of (js := [5]) (fr := fr1) I (Caps.made (scope := scL nm1) I.ok (free_by (os := (defScope sLaw).names) (by decide +kernel)) (by decide +kernel) rfl)⟩)
            (fun _ _ _ _ _ => (pg_name (i := 19) nd rfl (Or.inl rfl))) (fun _ _ _ _ _ => pts_nil)
            (fun σ s' H' C' cl' fp hC hfp => pe_callAt (CX := L2.CX P w) (E := fun _ _ _ => False) (know := fun _ s2 H2 => CellsAt (cl2 s.heap.objs.size) fr2 [slotAt σ 5, slotAt σ 14] s2.heap H2 ∧ CellsAt (cl1 s.heap.objs.size) fr1 [slotAt σ 5] s2.heap H2)
              (sp := fun _ v H1 Q' => workQ P w K mg base CC CN CU (cl2 s.heap.objs.size) (cl1 s.heap.objs.size) [slotAt σ 5, slotAt σ 14] [slotAt σ 5] v H1 Q')
              (by rfl) mO kO passL (fun pins σ2 H2 s2 I => ⟨cells_kept I hC.1 (not_fpQ hC.1 hfp), cells_kept I hC.2 (not_fpQ hC.2 hfp)⟩) (pa_cons (pv 19) pa_nil) (fun σ2 s2 H2 u v Q2 e0 kn rv h => by
                obtain ⟨f2, rfl, ⟨sp2, ac, q⟩ | ⟨sp2, ac, q⟩⟩ := h
                · cases rv
                  exact outcomeQ_run FO bO EE (hr.mono (by decide)) e0 kn.1 ac q
                · cases rv
                  exact outcomeQ_run FO bO EE (hr.mono (by decide)) e0 kn.2 ac q))) (pv 16) (nomark _)) (pss_one (ps_ret pe_bl)) pss_nil)))))))))))
      (pss_one (ps_ret pe_bl)))), ?_⟩
  refine ⟨_, rfl, a, ns, rfl, ha, hl, fun H1 l s1 hl1 D1 => name_at ?_⟩
  refine ⟨_, rfl, by decide, by decide, for_it walk_range (fun i σ H' => ∃ o2 o3 o4 o5 o6 o7 o8 o9 oa ob oc od oe og oh, σ = [some (.ref a), some (.ref l), o2, o3, o4, o5, o6, o7, o8, o9, oa, ob, oc, od, oe, og, oh, none, none, none] ∧ DrawSt K H' l a ns ∧ LamX.Tabs T H')
    ⟨none, none, none, none, none, none, none, none, none, none, none, none, none, none, none, rfl, D1, LamX.Tabs.ext hT s1⟩ (fun _ _ _ _ _ => trivial) ?_ ?_⟩
  · rintro i0 y0 σ H3 H2 hi0 ⟨o2, o3, o4, o5, o6, o7, o8, o9, oa, ob, oc, od, oe, og, oh, rfl, D2, T2⟩ ⟨rfl, ey0⟩
    obtain ⟨z2, hl2⟩ := draw_at D2
    -- the plan
    refine ⟨_, rfl, l, a, ns, 6, rfl, D2, by decide, by decide, fun H3 p Cm Gm ws cs gs b3 d3 nC0 nG0 nCG ep eC pC eG l1 ln pl => ⟨p, _, rfl, SqT.of ep, rfl, _, _, rfl, _, _, rfl, rfl, ?_⟩⟩
    have few : cs.length ≤ 6 := by omega
    have T3 := tabs_but T2 hl2 b3
    have lgc := pl.all
    have nCl : Cm ≠ l := fun q => by rw [q, hl2] at nC0; cases nC0
    have nGl : Gm ≠ l := fun q => by rw [q, hl2] at nG0; cases nG0
    clear ep b3 hl2 T2 D2
    -- the observer, the ways
    refine nx_of (asg_seq (Jo.tup_relQ (fun v H' => ∃ x La, v = .ref x ∧ Same H3 H' ∧ H3 La = none ∧ ObsJ C H' x La cs gs []) (fun R0 h0 => ?_) fun vx H4 h4 => ?_))
    · refine ⟨_, rfl, Cm, ws, rfl, .inl ⟨SqL.of eC, fun t1 ht1 => ?_⟩⟩
      have u1 := Shg.same_upd (o := .tup ws) ht1
      refine ⟨_, rfl, Gm, _, rfl, .inl ⟨SqL.of (u1 _ _ eG), fun t2 ht2 => ?_⟩⟩
      have u2 := Shg.same_upd (o := .tup (gs.map V.int)) ht2
      have u12 := u1.trans u2
      intro x dx hx hdx ne
      have bc : badC [] 0 cs = none := badC_none (by rw [List.nil_append]; exact pl.nd) fun c hc => ⟨(pl.ok c hc).1, (pl.late c hc).1, by have := (pl.late c hc).2; omega⟩
      have bg : badG cs 0 0 gs = none := badG_none pl.rise (fun g hg => by
        obtain ⟨i, hi⟩ := List.getElem?_of_mem hg
        have := pl.in_ i g hi
        omega) (fun j g h => by rw [Nat.zero_add]; exact (pl.in_ j g h).2.2) (by omega)
      refine make_obs (fI := fI) hx hdx ne (u2 _ _ upd_same) (pair_mono (fun _ _ ⟨t, e, h⟩ => ⟨t, e, u12 _ _ h⟩) pC) upd_same (by omega) (by omega) (fun c hc => by have := (pl.ok c hc).2.1; omega) bc bg fun La HJ hLa sJ O => ⟨rfl, h0 _ _ ⟨x, La, rfl, u12.trans sJ, ?_, O⟩⟩
      cases e : H3 La with
      | none => rfl
      | some o => rw [u12 _ _ e] at hLa; cases hLa
    obtain ⟨x, La, rfl, s4, fLa, O4⟩ := h4
    have nLl : La ≠ l := fun q => by
      obtain ⟨zs, hz⟩ := draw_at d3
      rw [q, hz] at fLa
      cases fLa
    have apL : Apart K La a (ns.map V.int) := Apart.new d3.sc fLa
    have nCA : Cm ≠ La := fun q => by rw [← q, eC] at fLa; cases fLa
    have nGA : Gm ≠ La := fun q => by rw [← q, eG] at fLa; cases fLa
    obtain ⟨rv4, hA4⟩ := obs_at O4
    have eC4 := s4 _ _ eC
    have eG4 := s4 _ _ eG
    have pC4 : PairsAt H4 ws cs := pair_mono (fun _ _ ⟨t, e, h⟩ => ⟨t, e, s4 _ _ h⟩) pC
    have D4 := draw_ext d3 (LamX.ExtN.of s4)
    have T4 := LamX.Tabs.ext T3 s4
    obtain ⟨z4, hl4⟩ := draw_at D4
    clear s4 fLa eC eG pC d3 T3
    refine ⟨_, rfl, _, rfl, Cm, Gm, ws, cs, gs, rfl, eC4, pC4, eG4, few, pl.nd, pl.valid, fun W H5 ys s5 fW eW wy => ⟨Nat.zero_le _, fun Rl hRl => ⟨by show 3 ≤ sizeLine; decide, fun tp htp => ⟨tp, _, rfl, SqT.of upd_same, rfl, _, _, rfl, _, _, rfl, _, _, rfl, rfl, ?_⟩⟩⟩⟩
    have nWl : W ≠ l := fun q => by rw [q, hl4] at fW; cases fW
    have nWA : W ≠ La := fun q => by rw [q, hA4] at fW; cases fW
    have nRl : Rl ≠ l := fun q => by rw [q, s5 _ _ hl4] at hRl; cases hRl
    have nRA : Rl ≠ La := fun q => by rw [q, s5 _ _ hA4] at hRl; cases hRl
    have u6 := Shg.same_upd (o := .lst []) hRl
    have u7 := Shg.same_upd (o := .tup [.ref x, .ref W, .ref Rl]) htp
    have eR6 := u7 _ _ (upd_same (H := H5) (a := Rl) (o := .lst []))
    have s6 := s5.trans (u6.trans u7)
    have eW6 := (u6.trans u7) _ _ eW
    have wy6 : WaysV (upd (upd H5 Rl (.lst [])) tp (.tup [.ref x, .ref W, .ref Rl])) ys (left cs gs []) := by
      have e : left cs gs [] = lawW cs gs [[]] := List.filter_eq_self.mpr fun _ _ => rfl
      rw [e]
      exact ways_monoV wy fun b xs e => (u6.trans u7) _ _ e
    generalize upd (upd H5 Rl (.lst [])) tp (.tup [.ref x, .ref W, .ref Rl]) = H6 at *
    have O6 := O4.same s6
    have eC6 := s6 _ _ eC4
    have eG6 := s6 _ _ eG4
    have pC6 : PairsAt H6 ws cs := pair_mono (fun _ _ ⟨t, e, h⟩ => ⟨t, e, s6 _ _ h⟩) pC4
    have D6 := draw_ext D4 (LamX.ExtN.of s6)
    have T6 := LamX.Tabs.ext T4 s6
    have lC := Shg.pair_len pC6
    have lW := Shg.pair_len wy
    obtain ⟨allG, le720, nonil⟩ := law_all pl.nd pl.valid
    have ld := dfac_le (n := cs.length) (i := gs.length) few (by omega)
    have wpos : 0 < (lawW cs gs [[]]).length := List.length_pos_iff.mpr nonil
    have sz : 1000 < sizeLine := by decide
    clear u6 u7 hRl htp s5 s6 eW fW eC4 eG4 pC4 D4 T4 O4 hA4 hl4
    -- who really goes when; the names
    refine ⟨_, rfl, _, rfl, _, rfl, W, _, rfl, .inl (SqL.of eW6), l, a, ns, _, rfl, D6, by omega, by omega, fun r H7 r0 r1 b7 d7 => ?_⟩
    obtain ⟨z6, hl6⟩ := draw_at D6
    have T7 := tabs_but T6 hl6 b7
    have k7 : ∀ c vs, H6 c = some (.tup vs) → H7 c = some (.tup vs) := fun c vs q => b7 _ _ q (Dw.ne_at hl6 q fun z => nomatch z)
    have O7 := O6.draw hl6 nLl b7
    have eC7 := b7 _ _ eC6 nCl
    have eG7 := b7 _ _ eG6 nGl
    have eW7 := b7 _ _ eW6 nWl
    have eR7 := b7 _ _ eR6 nRl
    have pC7 : PairsAt H7 ws cs := pair_mono (fun _ _ ⟨t, e, h⟩ => ⟨t, e, k7 _ _ h⟩) pC6
    have wy7 := ways_monoV wy6 k7
    obtain ⟨y, hy, ey⟩ := at_mem (xs := ys) r0 r1
    obtain ⟨j, hj⟩ := List.getElem?_of_mem hy
    obtain ⟨v0, hv0, Hd, rfl, wh7⟩ := Shg.pair_get wy7 hj
    have hv0 : v0 ∈ lawW cs gs [[]] := (List.mem_filter.mp (List.mem_of_getElem? hv0)).1
    refine ⟨W, ys, r, .ref Hd, rfl, rfl, SqL.of eW7, ey, _, rfl, Cm, rfl, ⟨_, SqL.of eC7⟩, fun Nm hNm => ?_⟩
    clear b7 eC6 eG6 eW6 eR6 pC6 wy6 O6 T6 D6 hl6 z6 ey hj hy wy
    refine lc_map (walk_list (K := K) (a := Cm) (xs := ws)) (fun j => (cs[j]?).map fun c => V.str c.1) hNm (by omega) (fun H8 s8 => SqL.of (s8 _ _ eC7)) (fun j u H9 H8 hj s8 yy R k1 => ?_) (fun j hj => ⟨_, by rw [List.getElem?_eq_getElem (by omega)]; rfl⟩) fun H8 s8 e8 => ?_
    · obtain ⟨rfl, e2⟩ := yy
      obtain ⟨c, hc, t, rfl, ht⟩ := Shg.pair_get pC7 e2
      exact ⟨t, _, rfl, SqT.of (s8 _ _ ht), rfl, _, _, rfl, _, _, rfl, rfl, rfl, _, rfl, k1 _ _ (Same.refl _) (by rw [hc]; rfl)⟩
    rw [lC, gather_map cs fun c => V.str c.1] at e8
    obtain ⟨z7, hl7⟩ := draw_at d7
    obtain ⟨rv7, hA7⟩ := obs_at O7
    have ap : ApQ l La Cm Gm Nm := ⟨nCl, nGl, fun q => (by rw [q, hl7] at hNm; cases hNm), nCA, nGA, fun q => (by rw [q, hA7] at hNm; cases hNm)⟩
    have L8 : LQ K C T l a ns x La Cm Gm Hd Nm cs gs ws v0 W Rl [] ys [] H8 := by
      have kt : ∀ b xs, H7 b = some (.tup xs) → H8 b = some (.tup xs) := fun b xs e => s8 _ _ e
      refine ⟨⟨draw_ext d7 (LamX.ExtN.of s8), LamX.Tabs.ext T7 s8, s8 _ _ eC7, pair_mono (fun _ _ ⟨t, e, h⟩ => ⟨t, e, kt _ _ h⟩) pC7, s8 _ _ eG7, wh7.mono kt, by rw [e8, List.map_map]; rfl⟩, O7.same s8, s8 _ _ eW7, nWl, nWA, ways_monoV wy7 kt, ?_, s8 _ _ eR7, nRl, nRA, .nil, fun _ h => nomatch h⟩
      have e : left cs gs [] = lawW cs gs [[]] := List.filter_eq_self.mpr fun _ _ => rfl
      rw [e]
      exact nonil
    clear s8 e8 hl7 z7 hA7 rv7 wh7 wy7 pC7 eR7 eW7 eG7 eC7 O7 T7 k7 d7 r0 r1 hNm
    refine ⟨_, _, rfl, ?_⟩
    -- the observations
    refine ⟨_, rfl, l, a, ns, 7, rfl, L8.b.d, by decide, by decide, fun r H9 r0 r1 b9 d9 => ⟨_, rfl, by omega, by omega, ?_⟩⟩
    have L9 := L8.draw ap nLl b9 d9
    refine for_it walk_range (fun i σ H' => ∃ (oa ob oc od : Option V) (W Rl : Addr) (rs : List Rec) (ys rws : List V), σ = [some (.ref a), some (.ref l), some y0, some (.ref Cm), some (.ref Gm), some (.ref x), some (.ref W), some (.ref Rl), some (.ref Hd), some (.ref Nm), oa, ob, oc, od, oe, og, oh, none, none, none] ∧ LQ K C T l a ns x La Cm Gm Hd Nm cs gs ws v0 W Rl rs ys rws H' ∧ rs.length ≤ i)
      ⟨_, _, _, _, W, Rl, [], ys, [], rfl, L9, Nat.le_refl _⟩ (fun _ _ _ _ _ => trivial) ?_ ?_
    · rintro i y1 σ HF HE hi ⟨oa, ob, oc, od, W, Rl, rs, ys, rws, rfl, LE, lrs⟩ ⟨rfl, ey⟩
      have hi7 : i < 7 := by omega
      clear ey hi L8 L9 b9 d9 nWl nWA nRl nRA lW
      obtain ⟨zE, hlE⟩ := draw_at LE.b.d
      obtain ⟨rvE, hAE⟩ := obs_at LE.o
      refine ⟨_, rfl, _, rfl, _, rfl, _, rfl, _, rfl, l, a, x, La, W, Hd, Nm, ns, cs, gs, rs, ys, v0, rfl, LE.b.d, LE.o, nLl, apL, by omega, LE.fit, LE.w, LE.wl, LE.wy, LE.b.wh, hv0, LE.b.n, ap.ln, few, l1, pl, LE.b.t, fun HG p Lf tr rc vf zs kp dG tG oG ep etr fL eL wz fitr hno hyes => ⟨p, _, rfl, SqT.of ep, rfl, _, _, rfl, _, _, rfl, _, _, rfl, rfl, ?_⟩⟩
      have nLfl : Lf ≠ l := fun q => by rw [q, hlE] at fL; cases fL
      have nLfA : Lf ≠ La := fun q => by rw [q, hAE] at fL; cases fL
      have ktE := keep_tup kp hlE hAE
      have lz := Shg.pair_len wz
      have l720 := left_len (rs := rs ++ [rc]) pl few
      -- refused or not
      refine nx_of (Dw.ifs_join (fun σ' H' => ∃ (W Rl : Addr) (rs : List Rec) (ys rws : List V), σ' = [some (.ref a), some (.ref l), some y0, some (.ref Cm), some (.ref Gm), some (.ref x), some (.ref W), some (.ref Rl), some (.ref Hd), some (.ref Nm), some y1, some vf, some (.ref Lf), some (.ref tr), oe, og, oh, none, none, none] ∧ LQ K C T l a ns x La Cm Gm Hd Nm cs gs ws v0 W Rl rs ys rws H' ∧ rs.length ≤ i + 1) (fun N hN => ?_) ?_)
      · refine ⟨_, rfl, Nat.zero_le _, fun e0 he0 => ?_⟩
        have s10 := Shg.same_upd (o := .lst []) he0
        have pw := plain_ways (rs := rs ++ [rc]) pl
        refine ⟨.list ((left cs gs (rs ++ [rc])).map wayD), .list [], .lst (SqL.of (s10 _ _ eL)) (Shp.dp_of dp_way (ways_monoV wz fun b xs e => s10 _ _ e)), .lst (SqL.of upd_same) .nil, Shp.plain_shaped pw, Shp.nil_shaped, _, rfl, ?_⟩
        rw [Shp.eqv_nil]
        generalize upd HG e0 (.lst []) = H10 at s10
        by_cases c : left cs gs (rs ++ [rc]) = []
        · rw [c, List.map_nil]
          rw [if_pos c] at oG
          obtain ⟨q, rfl, hq⟩ := hno c
          have LG := (LE.keep ap kp oG dG tG).same ap s10
          refine iteT ⟨_, rfl, by show 1 ≤ sizeLine; decide, fun q2 hq2 => ?_⟩
          have s11 := Shg.same_upd (o := .tup [.str "Contradiction"]) hq2
          have p1 : Shp.PlainD 1 (.tuple [.str "Contradiction"]) := Shp.plain_tup fun e he => by
            rw [List.mem_singleton.mp he]
            exact Shp.plain_str (by decide +kernel) _
          refine ⟨.tuple [.str "Contradiction"], .tuple [.str "Contradiction"], .tup (SqT.of ((s10.trans s11) _ _ hq)) (.cons (.str _) .nil), .tup (SqT.of upd_same) (.cons (.str _) .nil), Shp.plain_shaped p1, Shp.plain_shaped p1, _, rfl, ?_⟩
          rw [Shp.plain_refl p1]
          exact iteF (hN _ _ ⟨W, Rl, rs, ys, rws, rfl, LG.same ap s11, by omega⟩)
        · have e1 : ((left cs gs (rs ++ [rc])).map wayD).isEmpty = false := by
            rw [List.isEmpty_eq_false_iff]
            exact fun z => c (List.map_eq_nil_iff.mp z)
          rw [e1]
          rw [if_neg c] at oG
          obtain rfl := hyes c
          refine iteF ⟨_, rfl, _, rfl, Lf, _, rfl, .inl (SqL.of (s10 _ _ eL)), .int ((left cs gs (rs ++ [rc])).length : Nat), .int (zs.length : Nat), .int (zs.length : Nat), rfl, .inl ⟨_, rfl, by rw [lz]⟩, .inl ⟨_, rfl, rfl⟩, fun H11 s11 => ⟨_, rfl, iteF ?_⟩⟩
          have s0 := s10.trans s11
          have eRG := keep_lst kp LE.r LE.rl LE.ra
          have lrw := Shg.pair_len LE.rr
          refine ⟨_, rfl, _, rfl, _, rfl, by show 1 ≤ sizeLine; decide, fun q hq => ?_⟩
          have s12 := Shg.same_upd (o := .lst [.ref tr]) hq
          refine ⟨Rl, q, rws, [.ref tr], rfl, rfl, (s0.trans s12) _ _ eRG, upd_same, by rw [List.length_singleton]; omega, fun R2 hR2 => ⟨_, _, rfl, ?_⟩⟩
          have s13 := Shg.same_upd (o := .lst (rws ++ [.ref tr])) hR2
          have s03 := (s0.trans s12).trans s13
          obtain ⟨zG, hlG⟩ := draw_at dG
          obtain ⟨rvG, hAG⟩ := obs_at oG
          have n1 : R2 ≠ l := fun q => by rw [q, (s0.trans s12) _ _ hlG] at hR2; cases hR2
          have n2 : R2 ≠ La := fun q => by rw [q, (s0.trans s12) _ _ hAG] at hR2; cases hR2
          refine hN _ _ ⟨Lf, R2, rs ++ [rc], zs, rws ++ [.ref tr], rfl, ⟨(LE.b.keep ap hAE kp dG tG).keep ap hAG (Keep2.of s03) (draw_ext dG (LamX.ExtN.of s03)) (LamX.Tabs.ext tG s03), oG.same s03, s03 _ _ eL, nLfl, nLfA, ways_monoV wz fun b xs e => s03 _ _ e, c, upd_same, n1, n2, ?_, fun r hr => (List.mem_append.mp hr).elim (LE.fit r) (fitr r)⟩, by rw [List.length_append]; show rs.length + 1 ≤ i + 1; omega⟩
          exact pair_app (pair_mono (fun _ _ ⟨t, e, h⟩ => ⟨t, e, s03 _ _ (ktE _ _ h)⟩) LE.rr) (.cons ⟨tr, rfl, s03 _ _ etr⟩ .nil)
      clear kp dG tG oG ep etr fL eL wz fitr hno hyes lz l720 nLfl nLfA ktE LE hlE hAE lrs
      rintro σ' HG ⟨W, Rl, rs, ys, rws, rfl, LG, lrs⟩
      have lrw := Shg.pair_len LG.rr
      -- the records
      obtain ⟨dx, _, _, _, rv, hx, _, _, _, hA, pR⟩ := id LG.o
      have lrv := Shg.pair_len pR
      refine ⟨_, rfl, x, dx, _, rfl, hx, x, La, cs, gs, rs, rfl, LG.o, fun lr rv' eA' hlr => ?_⟩
      obtain rfl : rv' = rv := by
        rw [hA] at eA'
        injection eA' with eA'
        injection eA' with eA'
        exact eA'.symm
      have s10 := Shg.same_upd (o := .lst rv') hlr
      refine ⟨_, rfl, .ref lr, .ref Rl, .list (rs.map recD), rfl, recs_stand upd_same (pair_mono (fun _ _ ⟨t, e, h⟩ => ⟨t, e, s10 _ _ h⟩) pR) (by omega), recs_stand (s10 _ _ LG.r) (pair_mono (fun _ _ ⟨t, e, h⟩ => ⟨t, e, s10 _ _ h⟩) LG.rr) (by omega), fun H11 s11 => ⟨_, rfl, iteF ?_⟩⟩
      have L11 := LG.same ap (s10.trans s11)
      clear s10 s11 hlr eA' LG pR hA hx lrv
      obtain ⟨dx, _, _, _, rv, hx, _, _, _, hA, pR⟩ := id L11.o
      have lrv := Shg.pair_len pR
      refine nx_of ⟨_, rfl, x, dx, _, rfl, hx, x, La, cs, gs, rs, rfl, L11.o, fun lr rv' eA' hlr => ⟨.inl ⟨rfl, _, SqL.of upd_same⟩, lr, rv', _, rfl, rfl, upd_same, ?_, ?_⟩⟩
      · obtain rfl : rv' = rv := by
          rw [hA] at eA'
          injection eA' with eA'
          injection eA' with eA'
          exact eA'.symm
        omega
      rw [upd_upd]
      have L12 := L11.same ap (Shg.same_upd (o := .lst (rv' ++ [.int 0])) hlr)
      generalize upd H11 lr (.lst (rv' ++ [.int 0])) = H12 at L12
      clear L11 hlr eA' pR hA hx lrv
      -- what is known
      refine ⟨_, rfl, _, rfl, _, rfl, _, rfl, _, rfl, _, rfl, Gm, _, rfl, .inl (SqL.of L12.b.g), l, a, ns, _, rfl, L12.b.d, by rw [List.length_map]; omega, by rw [List.length_map]; omega, fun r H13 r0 r1 b13 d13 => ?_⟩
      have L13 := L12.draw ap nLl b13 d13
      obtain ⟨k, rfl⟩ := Int.eq_ofNat_of_zero_le r0
      have hk : k < gs.length := by rw [List.length_map] at r1; omega
      refine ⟨x, La, W, Cm, Gm, k, cs, gs, rs, ys, ws, rfl, L13.o, by omega, L13.fit, L13.w, L13.wy, L13.b.c, L13.b.cp, L13.b.g, few, pl, hk, L13.ne, L13.b.t, fun H14 g14 => ⟨_, rfl, iteF ?_⟩⟩
      exact nx_of ⟨_, _, _, _, W, Rl, rs, ys, rws, rfl, L13.grows ap g14, by omega⟩
    clear L8 L9 b9 d9 nWl nWA nRl nRA lW
    rintro σ HE ⟨oa, ob, oc, od, W, Rl, rs, ys, rws, rfl, LE, lrs⟩
    have rs7 : rs.length < 1000 := by omega
    -- the end
    refine nx_of ⟨_, rfl, Gm, _, rfl, .inl (SqL.of LE.b.g), name_at ?_⟩
    rw [List.length_map]
    have glen : gs.length ≤ 6 := by omega
    have glog : ((gs.length : Nat) : Int).natAbs.log2 < 1920 := by
      have : ∀ j : Fin 7, ((j.val : Nat) : Int).natAbs.log2 < 1920 := by decide
      exact this ⟨gs.length, by omega⟩
    have nob : ("nobody" : Str) ∉ cs.map fun c => c.1 := fun z => by
      rw [pl.nm] at z
      exact ten_nobody (List.mem_of_mem_take z)
    -- the first two
    refine nx_of (asg_rel (fun v H' => ∃ L f0 f1, v = .ref L ∧ Grows T HE H' ∧ H' L = some (.lst [.ref f0, .ref f1]) ∧ Sho.Act P w K mg base (L2.CX P w) 10 (cl2 s.heap.objs.size) fr2 (spOutR C CN T) f0 H' ∧ Sho.Act P w K mg base (L2.CX P w) 10 (cl1 s.heap.objs.size) fr1 (spNegR C CN) f1 H') (fun R0 h0 => ?_) fun v1 HF h1 => ?_)
    · refine lst_of (cons_of ⟨LE.b.t, fun f0 c0 H1 G1 n0 l0 => cons_of ⟨G1.tab LE.b.t, fun f1 c1 t1 H2 G2 n1 l1 => ⟨by show 2 ≤ sizeLine; decide, fun L hL => ?_⟩⟩⟩)
      have gL := Grows.upd (T := T) (o := HO.lst [.ref f0, .ref f1]) hL
      have a0 : Sho.Act P w K mg base (L2.CX P w) 10 (cl2 s.heap.objs.size) fr2 (spOutR C CN T) f0 H1 :=
        act0 (k := 9) (N := fr2) (fr := fr2) (sp := spOutR C CN T) l0 (nscope_by (sc := scL nm2) (by decide +kernel)) (fun _ _ => rfl) fun A outer s H ws Q E hr hw h => by
          obtain ⟨x, La, n, cs, gs, rs, rfl, O, hl, hn, _, _, _, hE⟩ := h
          refine ⟨_, pe_meth (pv 0) OC.cl mL GL hr bL .nil (passes_call (takes_of rfl rfl rfl rfl) fun _ _ _ _ z => z) (pa_cons (pv 1) (pa_cons pe_int pa_nil)), ?_⟩
          obtain ⟨dx, _, _, _, _, hx, _⟩ := id O
          exact ⟨_, rfl, x, dx, _, rfl, hx, no_f _ _ _ (by decide +kernel) (by decide +kernel) (by decide +kernel), _, rfl, x, La, n, 0, cs, gs, rs, rfl, O, hl, fun c => absurd c hn, fun _ => hE⟩
      have a1 : Sho.Act P w K mg base (L2.CX P w) 10 (cl1 s.heap.objs.size) fr1 (spNegR C CN) f1 H2 :=
        act1 (k := 9) (x := "_law_a") (N := ["_law_a", "_law_observer"]) (fr := fr1) (sp := spNegR C CN) l1 rfl (nscope_by (sc := scL [("_law_a", .local), ("_law_observer", .free)]) (by decide +kernel)) (fun _ _ _ => ⟨_, rfl, rfl⟩) fun A outer s H ws Q E hr hw h => by
          obtain ⟨x, La, cs, gs, rs, rfl, O, lc, hE⟩ := h
          refine ⟨_, pe_meth (pv 1) OC.cl mG GG hr bG .nil (passes_call (takes_of rfl rfl rfl rfl) fun _ _ _ _ z => z) (pa_cons (pe_op op_sub pe_int pe_int) (pa_cons pe_str pa_nil)), ?_⟩
          obtain ⟨dx, _, _, _, _, hx, _⟩ := id O
          exact ⟨_, rfl, x, dx, _, rfl, hx, no_f _ _ _ (by decide +kernel) (by decide +kernel) (by decide +kernel), _, _, rfl, rfl, x, La, 0 - 1, "nobody", cs, gs, rs, rfl, O, by decide, by decide +kernel, lc, fun c => absurd c.1 (by decide), fun c => absurd c.1 (by decide), fun _ => hE⟩
      exact h0 _ _ ⟨L, f0, f1, rfl, (G1.trans G2).trans gL, upd_same, a0.ext (G2.trans gL).ext, a1.ext gL.ext⟩
    obtain ⟨L1, f0, f1, rfl, g1, e1, a0, a1⟩ := h1
    -- two more
    refine name_at (asg_rel (fun v H' => ∃ L f2 f3, v = .ref L ∧ Grows T HF H' ∧ H' L = some (.lst [.ref f0, .ref f1, .ref f2, .ref f3]) ∧ Sho.Act P w K mg base (L2.CX P w) 10 (cl2 s.heap.objs.size) fr2 (spOutR C CN T) f2 H' ∧ Sho.Act P w K mg base (L2.CX P w) 10 (cl1 s.heap.objs.size) fr1 (spNoR C CU) f3 H') (fun R0 h0 => ?_) fun v2 HG h2 => ?_)
    · have TF := g1.tab LE.b.t
      refine ⟨_, rfl, lst_of (cons_of ⟨TF, fun f2 c2 t2 H1 G1 n2 l2 => cons_of ⟨G1.tab TF, fun f3 c3 t3 H2 G2 n3 l3 => ⟨by show 2 ≤ sizeLine; decide, fun L hL => ?_⟩⟩⟩)⟩
      have gL := Grows.upd (T := T) (o := HO.lst [.ref f2, .ref f3]) hL
      have a2 : Sho.Act P w K mg base (L2.CX P w) 10 (cl2 s.heap.objs.size) fr2 (spOutR C CN T) f2 H1 :=
        act1 (k := 9) (x := "_law_b") (N := ["_law_b", "_law_observer", "_law_size"]) (fr := fr2) (sp := spOutR C CN T) l2 rfl (nscope_by (sc := scL [("_law_b", .local), ("_law_observer", .free), ("_law_size", .free)]) (by decide +kernel)) (fun _ _ _ => ⟨_, rfl, rfl⟩) fun A outer s H ws Q E hr hw h => by
          obtain ⟨x, La, n, cs, gs, rs, rfl, O, hl, hn, lr, va, ht, hE⟩ := h
          refine ⟨_, pe_meth (pv 1) OC.cl mQ GQ (hr.mono (by decide)) bQ .nil (passes_call (takes_of rfl rfl rfl rfl) fun _ _ _ _ z => z) (pa_cons (pv 2) pa_nil), ?_⟩
          obtain ⟨dx, _, _, _, _, hx, _⟩ := id O
          exact ⟨_, rfl, x, dx, _, rfl, hx, no_f _ _ _ (by decide +kernel) (by decide +kernel) (by decide +kernel), _, rfl, x, La, n, cs, gs, rs, rfl, O, hl, lr, va, ht, fun c => absurd c hn, fun _ => hE⟩
      have a3 : Sho.Act P w K mg base (L2.CX P w) 10 (cl1 s.heap.objs.size) fr1 (spNoR C CU) f3 H2 :=
        act1 (k := 9) (x := "_law_c") (N := ["_law_c", "_law_observer"]) (fr := fr1) (sp := spNoR C CU) l3 rfl (nscope_by (sc := scL [("_law_c", .local), ("_law_observer", .free)]) (by decide +kernel)) (fun _ _ _ => ⟨_, rfl, rfl⟩) fun A outer s H ws Q E hr hw h => by
          obtain ⟨x, La, cs, gs, rs, rfl, O, lc, gpos, no, hE⟩ := h
          refine ⟨_, pe_meth (pv 1) OC.cl mG GG hr bG .nil (passes_call (takes_of rfl rfl rfl rfl) fun _ _ _ _ z => z) (pa_cons pe_int (pa_cons pe_str pa_nil)), ?_⟩
          obtain ⟨dx, _, _, _, _, hx, _⟩ := id O
          exact ⟨_, rfl, x, dx, _, rfl, hx, no_f _ _ _ (by decide +kernel) (by decide +kernel) (by decide +kernel), x, La, 0, "nobody", cs, gs, rs, rfl, O, by decide, by decide +kernel, lc, fun _ c => absurd c no, fun _ _ => hE, fun c => absurd ⟨by decide, by omega⟩ c⟩
      have e1L : (upd H2 L (.lst [.ref f2, .ref f3])) L1 = some (.lst [.ref f0, .ref f1]) := ((G1.trans G2).trans gL).ext _ _ e1 fun _ z => nomatch z
      refine ⟨L1, L, _, _, rfl, rfl, e1L, upd_same, by show 4 ≤ sizeLine; decide, fun L3 hL3 => ?_⟩
      have g3 := Grows.upd (T := T) (o := HO.lst ([.ref f0, .ref f1] ++ [.ref f2, .ref f3])) hL3
      exact h0 _ _ ⟨L3, f2, f3, rfl, ((G1.trans G2).trans gL).trans g3, upd_same, a2.ext ((G2.trans gL).trans g3).ext, a3.ext (gL.trans g3).ext⟩
    obtain ⟨L3, f2, f3, rfl, g2, e3, a2, a3⟩ := h2
    have g12 := g1.trans g2
    have a0 := a0.ext g2.ext
    have a1 := a1.ext g2.ext
    have LG := LE.grows ap g12
    clear LE g1 g2 g12 e1
    -- what is expected
    refine name_at (asg_rel (fun v H' => ∃ X u u2, v = .ref X ∧ Same HG H' ∧ H' X = some (.lst [.ref u, .ref u, .ref u, .ref u2]) ∧ H' u = some (.tup [.str "InvalidNumber"]) ∧ H' u2 = some (.tup [.str "UnknownGuest", .str "nobody"])) (fun R0 h0 => ?_) fun vX HH hX => ?_)
    · refine ⟨by show 1 ≤ sizeLine; decide, fun u hu => ⟨by show 1 ≤ sizeLine; decide, fun p1 hp1 => ⟨p1, 3, _, rfl, rfl, upd_same, by decide, by decide, by show 3 ≤ sizeLine; decide, fun r1 hr1 => ⟨by show 2 ≤ sizeLine; decide, fun u2 hu2 => ⟨by show 1 ≤ sizeLine; decide, fun p2 hp2 => ?_⟩⟩⟩⟩⟩
      have w1 := Shg.same_upd (o := .tup [.str "InvalidNumber"]) hu
      have w2 := Shg.same_upd (o := .lst [.ref u]) hp1
      have w3 := Shg.same_upd (o := .lst (List.replicate (3 : Int).toNat [.ref u]).flatten) hr1
      have w4 := Shg.same_upd (o := .tup [.str "UnknownGuest", .str "nobody"]) hu2
      have w5 := Shg.same_upd (o := .lst [.ref u2]) hp2
      refine ⟨r1, p2, [.ref u, .ref u, .ref u], [.ref u2], rfl, rfl, (w4.trans w5) _ _ upd_same, upd_same, by show 4 ≤ sizeLine; decide, fun X hX => ?_⟩
      have w6 := Shg.same_upd (o := .lst ([.ref u, .ref u, .ref u] ++ [.ref u2])) hX
      exact h0 _ _ ⟨X, u, u2, rfl, ((((w1.trans w2).trans w3).trans w4).trans w5).trans w6, upd_same, ((((w2.trans w3).trans w4).trans w5).trans w6) _ _ upd_same, (w5.trans w6) _ _ upd_same⟩
    obtain ⟨X, u, u2, rfl, sX, eX, eu, eu2⟩ := hX
    have LH := LG.same ap sX
    have a0 := a0.ext (LamX.ExtN.of sX)
    have a1 := a1.ext (LamX.ExtN.of sX)
    have a2 := a2.ext (LamX.ExtN.of sX)
    have a3 := a3.ext (LamX.ExtN.of sX)
    have e3H := sX _ _ e3
    clear LG e3 sX
    refine name_at (if_rel1 (fun H' => DrawSt K H' l a ns ∧ LamX.Tabs T H') (fun R0 h0 => ?_) fun HZ hZ => ⟨_, _, _, _, _, _, _, _, _, _, _, _, _, _, _, rfl, hZ.1, hZ.2⟩)
    refine ⟨_, rfl, L3, rfl, ⟨_, SqL.of e3H⟩, fun D hD => ?_⟩
    refine lc_rel (walk_list (K := K) (a := L3) (xs := [.ref f0, .ref f1, .ref f2, .ref f3])) (fun i y H => ∃ t, y = .ref t ∧ H t = some (.tup (expV i))) hD (by show 4 ≤ sizeLine; decide) (fun H1 s1 => SqL.of (s1 _ _ e3H)) (fun i y H H' st ⟨t, e, ht⟩ => ⟨t, e, st _ _ ht⟩) (fun i y H1 H' hi s1 yy R k1 => ?_) fun H7 zs s7 e7 len7 rel7 => ?_
    · obtain ⟨rfl, e2⟩ := yy
      have L1 := LH.same ap s1
      have ex := LamX.ExtN.of s1
      match i, hi with
      | 0, _ =>
        obtain rfl : V.ref f0 = y := Option.some.inj e2
        exact ⟨rfl, _, rfl, _, rfl, f0, rfl, .inl ⟨_, a0.ext ex, fun E' hE => ⟨x, La, _, cs, gs, rs, rfl, L1.o, glog, by omega, rs7, pl.valid, L1.b.t, hE _ _ _ (.inr (.inl ⟨rfl, fun p H2 s2 e2 => k1 _ _ s2 ⟨p, rfl, e2⟩⟩))⟩⟩⟩
      | 1, _ =>
        obtain rfl : V.ref f1 = y := Option.some.inj e2
        exact ⟨rfl, _, rfl, _, rfl, f1, rfl, .inr ⟨_, a1.ext ex, fun E' hE => ⟨x, La, cs, gs, rs, rfl, L1.o, by omega, hE _ _ _ (.inr (.inl ⟨rfl, fun p H2 s2 e2 => k1 _ _ s2 ⟨p, rfl, e2⟩⟩))⟩⟩⟩
      | 2, _ =>
        obtain rfl : V.ref f2 = y := Option.some.inj e2
        exact ⟨rfl, _, rfl, _, rfl, f2, rfl, .inl ⟨_, a2.ext ex, fun E' hE => ⟨x, La, _, cs, gs, rs, rfl, L1.o, glog, by omega, rs7, pl.valid, L1.b.t, hE _ _ _ (.inr (.inl ⟨rfl, fun p H2 s2 e2 => k1 _ _ s2 ⟨p, rfl, e2⟩⟩))⟩⟩⟩
      | 3, _ =>
        obtain rfl : V.ref f3 = y := Option.some.inj e2
        exact ⟨rfl, _, rfl, _, rfl, f3, rfl, .inr ⟨_, a3.ext ex, fun E' hE => ⟨x, La, cs, gs, rs, rfl, L1.o, by omega, by omega, nob, fun H8 d s8 e8 => hE _ _ _ (.inr (.inr ⟨rfl, d, "nobody", rfl, e8, fun t H9 s9 e9 => k1 _ _ (s8.trans s9) ⟨t, rfl, e9⟩⟩))⟩⟩⟩
    have len4 : zs.length = 4 := len7
    obtain ⟨z0, z1, z2, z3, rfl⟩ : ∃ z0 z1 z2 z3, zs = [z0, z1, z2, z3] := by
      match zs, len4 with
      | [z0, z1, z2, z3], _ => exact ⟨z0, z1, z2, z3, rfl⟩
    obtain ⟨t0, rfl, q0⟩ := rel7 0 z0 rfl
    obtain ⟨t1, rfl, q1⟩ := rel7 1 z1 rfl
    obtain ⟨t2, rfl, q2⟩ := rel7 2 z2 rfl
    obtain ⟨t3, rfl, q3⟩ := rel7 3 z3 rfl
    have pD : Shp.PlainD 2 expD := Shp.plain_lst fun e he => by
      simp only [List.mem_cons, List.not_mem_nil, or_false] at he
      rcases he with rfl | rfl | rfl | rfl <;> exact Shp.plain_tup fun e he => (by
        simp only [List.mem_cons, List.not_mem_nil, or_false] at he
        first | (rcases he with rfl | rfl <;> exact Shp.plain_str (by decide +kernel) _) | (rw [he]; exact Shp.plain_str (by decide +kernel) _))
    have dN : ∀ {t : Addr}, H7 t = some (.tup [.str "InvalidNumber"]) → Dp K H7 (.ref t) (.tuple [.str "InvalidNumber"]) := fun h => .tup (SqT.of h) (.cons (.str _) .nil)
    have dU : ∀ {t : Addr}, H7 t = some (.tup [.str "UnknownGuest", .str "nobody"]) → Dp K H7 (.ref t) (.tuple [.str "UnknownGuest", .str "nobody"]) := fun h => .tup (SqT.of h) (.cons (.str _) (.cons (.str _) .nil))
    refine ⟨_, rfl, expD, expD, .lst (SqL.of e7) (.cons (dN q0) (.cons (dN q1) (.cons (dN q2) (.cons (dU q3) .nil)))), .lst (SqL.of (s7 _ _ eX)) (.cons (dN (s7 _ _ eu)) (.cons (dN (s7 _ _ eu)) (.cons (dN (s7 _ _ eu)) (.cons (dU (s7 _ _ eu2)) .nil)))), Shp.plain_shaped pD, Shp.plain_shaped pD, _, rfl, ?_⟩
    rw [Shp.plain_refl pD]
    exact h0 _ ⟨draw_ext LH.b.d (LamX.ExtN.of s7), LamX.Tabs.ext LH.b.t s7⟩
  · rintro σ H2 ⟨o2, o3, o4, o5, o6, o7, o8, o9, oa, ob, oc, od, oe, og, oh, rfl, _, _⟩
    exact nx_of (kk _)
end
end Jo
set_option Elab.async false
set_option linter.all false
set_option maxRecDepth 100000
set_option maxHeartbeats 4000000
/-! The head's facts of k08. -/
namespace Jo
open PySem L2 Sho NdefX He Shh Shg Sh1 Shd Go
abbrev dm (C m qual : Str) (st : Stmt) : Dn := ⟨fun K => ma K (ga K C) m, m, qual, st, fun _ => []⟩
abbrev dp (C m qual : Str) (st : Stmt) : Dn := ⟨fun K => getA K (ga K C) m, m, qual, st, fun _ => []⟩
abbrev dnE (x : Str) (qual : Str) (st : Stmt) : Dn := ⟨fun K => eInit K x, "__init__", qual, st, fun K => [(("__class__" : Str), cellA K (eInit K x))]⟩
theorem sblt {mg : Str → Option Value} (k : ∀ x, x ∈ bltNames → mg x = none) : Sh1.Blt mg := ⟨k _ (by simp), k _ (by simp), k _ (by simp), k _ (by simp), k _ (by simp), k _ (by simp), k _ (by simp), k _ (by simp), k _ (by simp), k _ (by simp), k _ (by simp)⟩
theorem ernO_ok {K : Shh.Fr} {mg : Str → Option Value} {x : Str} (gm : mg x = some (.ref (ga K x))) (c : ernB K x = true) : ErrO K mg x (ga K x) := by
  obtain ⟨c1, c⟩ := ba c
  obtain ⟨c2, c⟩ := ba c
  obtain ⟨c3, c⟩ := ba c
  obtain ⟨c4, c5⟩ := ba c
  exact ⟨c1, gm, c2, of_decide_eq_true c3, of_decide_eq_true c4, of_decide_eq_true c5⟩
theorem all_of {α : Type} (P : α → Prop) : ∀ {l : List α}, (∀ i : Nat, ∀ a, l[i]? = some a → P a) → ∀ x ∈ l, P x := fun h x hx => by
  obtain ⟨i, hi⟩ := List.getElem?_of_mem hx
  exact h i x hi
theorem errC_InvalidStay {K : Shh.Fr} {mg : Str → Option Value} {P : Program} (E : ErrF "/claim/cut.py" K "InvalidStay" "index") (D : FunF K "__init__" "InvalidStay.__init__" sInvInit [(("__class__" : Str), cellA K (eInit K "InvalidStay"))] (eInit K "InvalidStay")) (hf : P.main.file = "/claim/cut.py") (sup : mg "super" = none)
    (h2 : (P.main.scope.names.lookup ("super" : Str)).isSome = false) (gm : mg "InvalidStay" = some (.ref (ga K "InvalidStay"))) : ErrC P K mg "InvalidStay" "index" nfInv (ga K "InvalidStay") :=
  ⟨⟨_, _, _, err_txt E D hf sup ⟨_, rfl, rfl⟩ h2 (by decide +kernel) (by decide +kernel) (by decide +kernel), E.ini, E.ity⟩, E.sup, E.xf, E.no, gm, E.exm⟩
theorem errC_UnknownGuest {K : Shh.Fr} {mg : Str → Option Value} {P : Program} (E : ErrF "/claim/cut.py" K "UnknownGuest" "name") (D : FunF K "__init__" "UnknownGuest.__init__" sUnkInit [(("__class__" : Str), cellA K (eInit K "UnknownGuest"))] (eInit K "UnknownGuest")) (hf : P.main.file = "/claim/cut.py") (sup : mg "super" = none)
    (h2 : (P.main.scope.names.lookup ("super" : Str)).isSome = false) (gm : mg "UnknownGuest" = some (.ref (ga K "UnknownGuest"))) : ErrC P K mg "UnknownGuest" "name" nfUnk (ga K "UnknownGuest") :=
  ⟨⟨_, _, _, err_txt E D hf sup ⟨_, rfl, rfl⟩ h2 (by decide +kernel) (by decide +kernel) (by decide +kernel), E.ini, E.ity⟩, E.sup, E.xf, E.no, gm, E.exm⟩
theorem errC_InvalidGoings {K : Shh.Fr} {mg : Str → Option Value} {P : Program} (E : ErrF "/claim/cut.py" K "InvalidGoings" "index") (D : FunF K "__init__" "InvalidGoings.__init__" sGoingsInit [(("__class__" : Str), cellA K (eInit K "InvalidGoings"))] (eInit K "InvalidGoings")) (hf : P.main.file = "/claim/cut.py") (sup : mg "super" = none)
    (h2 : (P.main.scope.names.lookup ("super" : Str)).isSome = false) (gm : mg "InvalidGoings" = some (.ref (ga K "InvalidGoings"))) : ErrC P K mg "InvalidGoings" "index" nfGo (ga K "InvalidGoings") :=
  ⟨⟨_, _, _, err_txt E D hf sup ⟨_, rfl, rfl⟩ h2 (by decide +kernel) (by decide +kernel) (by decide +kernel), E.ini, E.ity⟩, E.sup, E.xf, E.no, gm, E.exm⟩
theorem funS08 {K : Shh.Fr} {x qual : Str} {st : Stmt} {f : Addr} (F : FunF K x qual st [] f) : FunS K x qual st f := by
  obtain ⟨oc, od, doc, pm, an, ct, osl, lk, hcd⟩ := F.ex
  exact ⟨oc, od, doc, pm, an, _, ct, osl, lk, hcd⟩
abbrev glo08 : List Str := "is_name" :: "is_within" :: "is_tick" :: "is_stay" :: "_check_stays" :: "_check_comings" :: "_check_goings" :: "_after_going" :: "_ways_to_go" :: "_law_start" :: "_law_drawn" :: "_law_same" :: "_law_outcome" :: "_law_plan" :: "_law_ways" :: "_law_agrees" :: "InvalidStay" :: "UnknownGuest" :: "InvalidGoings" :: "TooManyGuests" :: "Contradiction" :: "InvalidNumber" :: "GoingObserver" :: "Party" :: "bottom_up" :: "_law_step" :: "law" :: []
abbrev keep08 : List Str := ["is_name", "is_within", "is_tick", "is_stay", "_check_stays", "_check_comings", "_check_goings", "_after_going", "_ways_to_go", "_law_start", "_law_drawn", "_law_same", "_law_outcome", "_law_plan", "_law_ways", "_law_agrees", "bottom_up", "_law_step", "law"]
def fn08 : List Dn := [Shd.dn "is_name" sIsName, Shd.dn "is_within" sIsWithin, Shd.dn "is_tick" sIsTick, Shd.dn "is_stay" sIsStay, Shd.dn "_check_stays" sCheck, Shd.dn "_check_comings" sCheckComings, Shd.dn "_check_goings" sCheckGoings, Shd.dn "_after_going" sAfterGoing, Shd.dn "_ways_to_go" sWaysToGo, Shd.dn "_law_start" sStart, Shd.dn "_law_drawn" sDrawn, Shd.dn "_law_same" sSame, Shd.dn "_law_outcome" sOut, Shd.dn "_law_plan" sLawPlan, Shd.dn "_law_ways" sLawWays, Shd.dn "_law_agrees" sLawAgrees, dnE "InvalidStay" "InvalidStay.__init__" sInvInit, dnE "UnknownGuest" "UnknownGuest.__init__" sUnkInit, dnE "InvalidGoings" "InvalidGoings.__init__" sGoingsInit, dm "GoingObserver" "__init__" "GoingObserver.__init__" sGoingObserver_Init, dp "GoingObserver" "records" "GoingObserver.records" sGoingObserver_Records, dm "GoingObserver" "way_count" "GoingObserver.way_count" sGoingObserver_WayCount, dm "GoingObserver" "see_lift" "GoingObserver.see_lift" sGoingObserver_SeeLift, dm "GoingObserver" "see_guest" "GoingObserver.see_guest" sGoingObserver_SeeGuest, dm "GoingObserver" "possible_guests" "GoingObserver.possible_guests" sGoingObserver_PossibleGuests, dm "GoingObserver" "find_party" "GoingObserver.find_party" sGoingObserver_FindParty, dm "GoingObserver" "_check_index" "GoingObserver._check_index" sGoingObserver_CheckIndex, dm "GoingObserver" "_names" "GoingObserver._names" sGoingObserver_Names, dm "GoingObserver" "_ways_with" "GoingObserver._ways_with" sGoingObserver_WaysWith, dm "GoingObserver" "_accept" "GoingObserver._accept" sGoingObserver_Accept, dm "Party" "__init__" "Party.__init__" sPInit, dp "Party" "stays" "Party.stays" sPStays, Shd.dn "bottom_up" sBottomUp, Shd.dn "_law_step" sLawStep, Shd.dn "law" sLaw]
def fa08 : List (Shh.Fr → Bool) := [fun K => gloB K glo08, fun K => freeB K bltNames, fun K => keepB K keep08, fun K => decide (Shd.tabA K "bottom_up" ≠ Shd.tabA K "_law_step"), fun K => decide (Shd.tabA K "bottom_up" ≠ Shd.tabA K "law"), fun K => decide (Shd.tabA K "_law_step" ≠ Shd.tabA K "law"), fun K => (Fa.int "LONGEST_NAME" 8).ok K, fun K => (Fa.int "LAST_TICK" 1000000000).ok K, fun K => (Fa.int "MOST_GUESTS" 10).ok K, fun K => errB "/claim/cut.py" K "InvalidStay" "index", fun K => errB "/claim/cut.py" K "UnknownGuest" "name", fun K => errB "/claim/cut.py" K "InvalidGoings" "index", fun K => ernB K "TooManyGuests", fun K => ernB K "Contradiction", fun K => ernB K "InvalidNumber", fun K => decide (PySem.W.exmOne K (.ref (ga K "InvalidNumber")) (.ref (ga K "Contradiction")) = some false), fun K => decide (PySem.W.exmOne K (.ref (ga K "UnknownGuest")) (.ref (ga K "Contradiction")) = some false), fun K => decide (PySem.W.exmOne K (.ref (ga K "UnknownGuest")) (.ref (ga K "InvalidNumber")) = some false), fun K => freeB K ["zip"], fun K => (Fa.cls "GoingObserver").ok K, fun K => ["_comings", "_goings", "_accepted"].all fun x => (Fa.noat "GoingObserver" x).ok K, fun K => (Fa.mkr "GoingObserver").ok K, fun K => PySem.W.keepIn K (.ref (ma K (ga K "GoingObserver") "__init__")), fun K => propB K (ga K "GoingObserver") "records", fun K => PySem.W.keepIn K (.ref (getA K (ga K "GoingObserver") "records")), fun K => (Fa.meth "GoingObserver" "way_count").ok K, fun K => (Fa.meth "GoingObserver" "see_lift").ok K, fun K => (Fa.meth "GoingObserver" "see_guest").ok K, fun K => (Fa.meth "GoingObserver" "possible_guests").ok K, fun K => (Fa.meth "GoingObserver" "find_party").ok K, fun K => (Fa.meth "GoingObserver" "_check_index").ok K, fun K => (Fa.meth "GoingObserver" "_names").ok K, fun K => (Fa.meth "GoingObserver" "_ways_with").ok K, fun K => (Fa.meth "GoingObserver" "_accept").ok K, fun K => partyB K (ga K "Party"), fun K => dunB K (ga K "Party") "__init__", fun K => propB K (ga K "Party") "stays", fun K => PySem.W.keepIn K (.ref (getA K (ga K "Party") "stays"))]
def tf08 : List (Shh.Fr → Addr) := [fun K => ga K "bottom_up", fun K => ga K "_law_step", fun K => ga K "law"]
abbrev T08 (K : Shh.Fr) : List (Addr × Str) := [(Shd.tabA K "bottom_up", qBot), (Shd.tabA K "_law_step", qStep), (Shd.tabA K "law", qLaw08)]
abbrev cs08 (K : Shh.Fr) : List (Addr × Addr) := [(codeA K (ga K "bottom_up"), Shd.tabA K "bottom_up"), (codeA K (ga K "_law_step"), Shd.tabA K "_law_step"), (codeA K (ga K "law"), Shd.tabA K "law")]
theorem facts08 {P : Program} {w : World} {K : Shh.Fr} {h : Heap} {mg : Str → Option Value} (X : K.In h) (G : h.Ns mainGlobals mg) (c : SaysS fa08 fn08 tf08 h K) (hf : P.main.file = "/claim/cut.py") (hs : (P.main.scope.names.lookup ("super" : Str)).isSome = false) :
    ∃ fd : FuncData, (∀ (s : Shared) (v : Value), BindsTo s fd ⟨[v], []⟩ [("_law_script", v)]) ∧ ∀ base : Heap, (∀ p ∈ cs08 K, LamX.TabB base mg p.1 p.2) → FnOk P w K mg base (L2.CX P w) 13 (ga K "law") fd ["_law_script"] (spLaw08 K (T08 K)) := by
  have B := Shd.blt_ok X G (c.fact 1)
  have B1 : Sh1.Blt mg := sblt fun x hx => freeB_ok X G (c.fact 1) hx
  have g : ∀ x, x ∈ glo08 → mg x = some (.ref (ga K x)) := fun x hx => gloB_ok X G (c.fact 0) hx
  have kp : ∀ x, x ∈ keep08 → PySem.W.keepIn K (.ref (ga K x)) = true := fun x hx => keepB_ok (c.fact 2) hx
  obtain ⟨tg8, g8⟩ := int_ok X G (x := "LONGEST_NAME") (i := 8) (c.fact 6)
  obtain ⟨tg9, g9⟩ := int_ok X G (x := "LAST_TICK") (i := 1000000000) (c.fact 7)
  obtain ⟨tg10, g10⟩ := int_ok X G (x := "MOST_GUESTS") (i := 10) (c.fact 8)
  have ECI : ErrC P K mg "InvalidStay" "index" nfInv (ga K "InvalidStay") := errC_InvalidStay (errB_ok (K := K) (file := "/claim/cut.py") (x := "InvalidStay") (fld := "index") (c.fact 9)) (c.def_ 16 (d := dnE "InvalidStay" "InvalidStay.__init__" sInvInit)) hf B.sup hs (g "InvalidStay" (by simp))
  have ECU : ErrC P K mg "UnknownGuest" "name" nfUnk (ga K "UnknownGuest") := errC_UnknownGuest (errB_ok (K := K) (file := "/claim/cut.py") (x := "UnknownGuest") (fld := "name") (c.fact 10)) (c.def_ 17 (d := dnE "UnknownGuest" "UnknownGuest.__init__" sUnkInit)) hf B.sup hs (g "UnknownGuest" (by simp))
  have ECG : ErrC P K mg "InvalidGoings" "index" nfGo (ga K "InvalidGoings") := errC_InvalidGoings (errB_ok (K := K) (file := "/claim/cut.py") (x := "InvalidGoings") (fld := "index") (c.fact 11)) (c.def_ 18 (d := dnE "InvalidGoings" "InvalidGoings.__init__" sGoingsInit)) hf B.sup hs (g "InvalidGoings" (by simp))
  have ET : ErrO K mg "TooManyGuests" (ga K "TooManyGuests") := ernO_ok (g "TooManyGuests" (by simp)) (c.fact 12)
  have EC : ErrO K mg "Contradiction" (ga K "Contradiction") := ernO_ok (g "Contradiction" (by simp)) (c.fact 13)
  have EN : ErrO K mg "InvalidNumber" (ga K "InvalidNumber") := ernO_ok (g "InvalidNumber" (by simp)) (c.fact 14)
  have xnc : PySem.W.exmOne K (.ref (ga K "InvalidNumber")) (.ref (ga K "Contradiction")) = some false := of_decide_eq_true (c.fact 15)
  have xuc : PySem.W.exmOne K (.ref (ga K "UnknownGuest")) (.ref (ga K "Contradiction")) = some false := of_decide_eq_true (c.fact 16)
  have xun : PySem.W.exmOne K (.ref (ga K "UnknownGuest")) (.ref (ga K "InvalidNumber")) = some false := of_decide_eq_true (c.fact 17)
  have mZ : mg "zip" = none := freeB_ok X G (c.fact 18) (by simp)
  have go_c : Cls K (ga K "GoingObserver") := cls_ok (c.fact 19)
  have go_na : ((["_comings", "_goings", "_accepted"] : List Str).all fun x => (Fa.noat "GoingObserver" x).ok K) = true := c.fact 20
  have go_n : ∀ x, x ∈ (["_comings", "_goings", "_accepted"] : List Str) → NoAttr K (ga K "GoingObserver") x := fun x hx => noat_ok (List.all_eq_true.mp go_na x hx)
  have go_m : Mk K (ga K "GoingObserver") (ma K (ga K "GoingObserver") "__init__") := mkr_ok (c.fact 21)
  have go_mk : PySem.W.keepIn K (.ref (ma K (ga K "GoingObserver") "__init__")) = true := c.fact 22
  obtain ⟨fdI, FI, bI, _⟩ := FunF.funW (c.def_ 19 (d := dm "GoingObserver" "__init__" "GoingObserver.__init__" sGoingObserver_Init)) go_mk
  have bI := bI ["self", "comings", "goings"] (fun _ _ _ _ _ _ us hl => match us, hl with | [_, _, _], _ => rfl)
  have PR : PropOf K (ga K "GoingObserver") "records" (ma K (ga K "GoingObserver") "records") (getA K (ga K "GoingObserver") "records") := propB_ok (c.fact 23)
  have PRk : PySem.W.keepIn K (.ref (getA K (ga K "GoingObserver") "records")) = true := c.fact 24
  obtain ⟨fdR, FR, bR, _⟩ := FunF.funW (c.def_ 20 (d := dp "GoingObserver" "records" "GoingObserver.records" sGoingObserver_Records)) PRk
  have bR := bR ["self"] (fun _ _ _ _ _ _ us hl => match us, hl with | [_], _ => rfl)
  have MW : Meth K (ga K "GoingObserver") "way_count" (ma K (ga K "GoingObserver") "way_count") := meth_ok (c.fact 25)
  obtain ⟨fdW, FW, bW, _⟩ := FunF.funW (c.def_ 21 (d := dm "GoingObserver" "way_count" "GoingObserver.way_count" sGoingObserver_WayCount)) MW.kp
  have bW := bW ["self"] (fun _ _ _ _ _ _ us hl => match us, hl with | [_], _ => rfl)
  have MSL : Meth K (ga K "GoingObserver") "see_lift" (ma K (ga K "GoingObserver") "see_lift") := meth_ok (c.fact 26)
  obtain ⟨fdSL, FSL, bSL, _⟩ := FunF.funW (c.def_ 22 (d := dm "GoingObserver" "see_lift" "GoingObserver.see_lift" sGoingObserver_SeeLift)) MSL.kp
  have bSL := bSL ["self", "index", "count"] (fun _ _ _ _ _ _ us hl => match us, hl with | [_, _, _], _ => rfl)
  have MSG : Meth K (ga K "GoingObserver") "see_guest" (ma K (ga K "GoingObserver") "see_guest") := meth_ok (c.fact 27)
  obtain ⟨fdSG, FSG, bSG, _⟩ := FunF.funW (c.def_ 23 (d := dm "GoingObserver" "see_guest" "GoingObserver.see_guest" sGoingObserver_SeeGuest)) MSG.kp
  have bSG := bSG ["self", "index", "name"] (fun _ _ _ _ _ _ us hl => match us, hl with | [_, _, _], _ => rfl)
  have MPG : Meth K (ga K "GoingObserver") "possible_guests" (ma K (ga K "GoingObserver") "possible_guests") := meth_ok (c.fact 28)
  obtain ⟨fdPG, FPG, bPG, _⟩ := FunF.funW (c.def_ 24 (d := dm "GoingObserver" "possible_guests" "GoingObserver.possible_guests" sGoingObserver_PossibleGuests)) MPG.kp
  have bPG := bPG ["self", "index"] (fun _ _ _ _ _ _ us hl => match us, hl with | [_, _], _ => rfl)
  have MFP : Meth K (ga K "GoingObserver") "find_party" (ma K (ga K "GoingObserver") "find_party") := meth_ok (c.fact 29)
  obtain ⟨fdFP, FFP, bFP, _⟩ := FunF.funW (c.def_ 25 (d := dm "GoingObserver" "find_party" "GoingObserver.find_party" sGoingObserver_FindParty)) MFP.kp
  have bFP := bFP ["self"] (fun _ _ _ _ _ _ us hl => match us, hl with | [_], _ => rfl)
  have MCX : Meth K (ga K "GoingObserver") "_check_index" (ma K (ga K "GoingObserver") "_check_index") := meth_ok (c.fact 30)
  obtain ⟨fdCX, FCX, bCX, _⟩ := FunF.funW (c.def_ 26 (d := dm "GoingObserver" "_check_index" "GoingObserver._check_index" sGoingObserver_CheckIndex)) MCX.kp
  have bCX := bCX ["self", "index"] (fun _ _ _ _ _ _ us hl => match us, hl with | [_, _], _ => rfl)
  have MNM : Meth K (ga K "GoingObserver") "_names" (ma K (ga K "GoingObserver") "_names") := meth_ok (c.fact 31)
  obtain ⟨fdNM, FNM, bNM, _⟩ := FunF.funW (c.def_ 27 (d := dm "GoingObserver" "_names" "GoingObserver._names" sGoingObserver_Names)) MNM.kp
  have bNM := bNM ["self"] (fun _ _ _ _ _ _ us hl => match us, hl with | [_], _ => rfl)
  have MWW : Meth K (ga K "GoingObserver") "_ways_with" (ma K (ga K "GoingObserver") "_ways_with") := meth_ok (c.fact 32)
  obtain ⟨fdWW, FWW, bWW, _⟩ := FunF.funW (c.def_ 28 (d := dm "GoingObserver" "_ways_with" "GoingObserver._ways_with" sGoingObserver_WaysWith)) MWW.kp
  have bWW := bWW ["self", "record"] (fun _ _ _ _ _ _ us hl => match us, hl with | [_, _], _ => rfl)
  have MAC : Meth K (ga K "GoingObserver") "_accept" (ma K (ga K "GoingObserver") "_accept") := meth_ok (c.fact 33)
  obtain ⟨fdAC, FAC, bAC, _⟩ := FunF.funW (c.def_ 29 (d := dm "GoingObserver" "_accept" "GoingObserver._accept" sGoingObserver_Accept)) MAC.kp
  have bAC := bAC ["self", "record"] (fun _ _ _ _ _ _ us hl => match us, hl with | [_, _], _ => rfl)
  have PF := partyB_ok (K := K) (g "Party" (by simp)) (c.fact 34)
  have dPI : DunF K (ga K "Party") "__init__" := dunB_ok (c.fact 35)
  have DPI := c.def_ 30 (d := dm "Party" "__init__" "Party.__init__" sPInit)
  have PST : PropOf K (ga K "Party") "stays" (ma K (ga K "Party") "stays") (getA K (ga K "Party") "stays") := propB_ok (c.fact 36)
  have PSTk : PySem.W.keepIn K (.ref (getA K (ga K "Party") "stays")) = true := c.fact 37
  obtain ⟨fdST, FST, bST, _⟩ := FunF.funW (c.def_ 31 (d := dp "Party" "stays" "Party.stays" sPStays)) PSTk
  have bST := bST ["self"] (fun _ _ _ _ _ _ us hl => match us, hl with | [_], _ => rfl)
  obtain ⟨fd_0, F_0, b_0, _⟩ := FunF.funW (c.def_ 0 (d := Shd.dn "is_name" sIsName)) (kp "is_name" (by simp))
  have b_0 := b_0 ["word"] (fun _ _ _ _ _ _ us hl => match us, hl with | [_], _ => rfl)
  have m_0 := g "is_name" (by simp)
  have k_0 := kp "is_name" (by simp)
  obtain ⟨fd_1, F_1, b_1, _⟩ := FunF.funW (c.def_ 1 (d := Shd.dn "is_within" sIsWithin)) (kp "is_within" (by simp))
  have b_1 := b_1 ["number", "low", "high"] (fun _ _ _ _ _ _ us hl => match us, hl with | [_, _, _], _ => rfl)
  have m_1 := g "is_within" (by simp)
  have k_1 := kp "is_within" (by simp)
  obtain ⟨fd_2, F_2, b_2, _⟩ := FunF.funW (c.def_ 2 (d := Shd.dn "is_tick" sIsTick)) (kp "is_tick" (by simp))
  have b_2 := b_2 ["number"] (fun _ _ _ _ _ _ us hl => match us, hl with | [_], _ => rfl)
  have m_2 := g "is_tick" (by simp)
  have k_2 := kp "is_tick" (by simp)
  obtain ⟨fd_3, F_3, b_3, _⟩ := FunF.funW (c.def_ 3 (d := Shd.dn "is_stay" sIsStay)) (kp "is_stay" (by simp))
  have b_3 := b_3 ["name", "come", "go"] (fun _ _ _ _ _ _ us hl => match us, hl with | [_, _, _], _ => rfl)
  have m_3 := g "is_stay" (by simp)
  have k_3 := kp "is_stay" (by simp)
  obtain ⟨fd_4, F_4, b_4, _⟩ := FunF.funW (c.def_ 4 (d := Shd.dn "_check_stays" sCheck)) (kp "_check_stays" (by simp))
  have b_4 := b_4 ["stays", "most"] (fun _ _ _ _ _ _ us hl => match us, hl with | [_, _], _ => rfl)
  have m_4 := g "_check_stays" (by simp)
  have k_4 := kp "_check_stays" (by simp)
  obtain ⟨fd_5, F_5, b_5, _⟩ := FunF.funW (c.def_ 5 (d := Shd.dn "_check_comings" sCheckComings)) (kp "_check_comings" (by simp))
  have b_5 := b_5 ["comings"] (fun _ _ _ _ _ _ us hl => match us, hl with | [_], _ => rfl)
  have m_5 := g "_check_comings" (by simp)
  have k_5 := kp "_check_comings" (by simp)
  obtain ⟨fd_6, F_6, b_6, _⟩ := FunF.funW (c.def_ 6 (d := Shd.dn "_check_goings" sCheckGoings)) (kp "_check_goings" (by simp))
  have b_6 := b_6 ["comings", "goings"] (fun _ _ _ _ _ _ us hl => match us, hl with | [_, _], _ => rfl)
  have m_6 := g "_check_goings" (by simp)
  have k_6 := kp "_check_goings" (by simp)
  obtain ⟨fd_7, F_7, b_7, _⟩ := FunF.funW (c.def_ 7 (d := Shd.dn "_after_going" sAfterGoing)) (kp "_after_going" (by simp))
  have b_7 := b_7 ["piles", "seen"] (fun _ _ _ _ _ _ us hl => match us, hl with | [_, _], _ => rfl)
  have m_7 := g "_after_going" (by simp)
  have k_7 := kp "_after_going" (by simp)
  obtain ⟨fd_8, F_8, b_8, _⟩ := FunF.funW (c.def_ 8 (d := Shd.dn "_ways_to_go" sWaysToGo)) (kp "_ways_to_go" (by simp))
  have b_8 := b_8 ["comings", "goings", "records"] (fun _ _ _ _ _ _ us hl => match us, hl with | [_, _, _], _ => rfl)
  have m_8 := g "_ways_to_go" (by simp)
  have k_8 := kp "_ways_to_go" (by simp)
  obtain ⟨fd_9, F_9, b_9, _⟩ := FunF.funW (c.def_ 9 (d := Shd.dn "_law_start" sStart)) (kp "_law_start" (by simp))
  have b_9 := b_9 ["_law_script"] (fun _ _ _ _ _ _ us hl => match us, hl with | [_], _ => rfl)
  have m_9 := g "_law_start" (by simp)
  have k_9 := kp "_law_start" (by simp)
  obtain ⟨fd_10, F_10, b_10, _⟩ := FunF.funW (c.def_ 10 (d := Shd.dn "_law_drawn" sDrawn)) (kp "_law_drawn" (by simp))
  have b_10 := b_10 ["_law_state", "_law_count"] (fun _ _ _ _ _ _ us hl => match us, hl with | [_, _], _ => rfl)
  have m_10 := g "_law_drawn" (by simp)
  have k_10 := kp "_law_drawn" (by simp)
  obtain ⟨fd_11, F_11, b_11, _⟩ := FunF.funW (c.def_ 11 (d := Shd.dn "_law_same" sSame)) (kp "_law_same" (by simp))
  have b_11 := b_11 ["_law_result", "_law_expected"] (fun _ _ _ _ _ _ us hl => match us, hl with | [_, _], _ => rfl)
  have m_11 := g "_law_same" (by simp)
  have k_11 := kp "_law_same" (by simp)
  obtain ⟨fd_12, F_12, b_12, _⟩ := FunF.funW (c.def_ 12 (d := Shd.dn "_law_outcome" sOut)) (kp "_law_outcome" (by simp))
  have b_12 := b_12 ["_law_work"] (fun _ _ _ _ _ _ us hl => match us, hl with | [_], _ => rfl)
  have m_12 := g "_law_outcome" (by simp)
  have k_12 := kp "_law_outcome" (by simp)
  obtain ⟨fd_13, F_13, b_13, _⟩ := FunF.funW (c.def_ 13 (d := Shd.dn "_law_plan" sLawPlan)) (kp "_law_plan" (by simp))
  have b_13 := b_13 ["_law_state", "_law_most"] (fun _ _ _ _ _ _ us hl => match us, hl with | [_, _], _ => rfl)
  have m_13 := g "_law_plan" (by simp)
  have k_13 := kp "_law_plan" (by simp)
  obtain ⟨fd_14, F_14, b_14, _⟩ := FunF.funW (c.def_ 14 (d := Shd.dn "_law_ways" sLawWays)) (kp "_law_ways" (by simp))
  have b_14 := b_14 ["_law_comings", "_law_goings"] (fun _ _ _ _ _ _ us hl => match us, hl with | [_, _], _ => rfl)
  have m_14 := g "_law_ways" (by simp)
  have k_14 := kp "_law_ways" (by simp)
  obtain ⟨fd_15, F_15, b_15, _⟩ := FunF.funW (c.def_ 15 (d := Shd.dn "_law_agrees" sLawAgrees)) (kp "_law_agrees" (by simp))
  have b_15 := b_15 ["_law_observer", "_law_ways_here", "_law_comings", "_law_goings", "_law_index"] (fun _ _ _ _ _ _ us hl => match us, hl with | [_, _, _, _, _], _ => rfl)
  have m_15 := g "_law_agrees" (by simp)
  have k_15 := kp "_law_agrees" (by simp)
  have ne01 : Shd.tabA K "bottom_up" ≠ Shd.tabA K "_law_step" := of_decide_eq_true (c.fact 3)
  have ne02 : Shd.tabA K "bottom_up" ≠ Shd.tabA K "law" := of_decide_eq_true (c.fact 4)
  have ne12 : Shd.tabA K "_law_step" ≠ Shd.tabA K "law" := of_decide_eq_true (c.fact 5)
  obtain ⟨fdT0, FT0, bT0, _⟩ := FunF.funL9 (c.def_ 32 (d := Shd.dn "bottom_up" sBottomUp))
  have bT0 := bT0 ["stays"] (fun _ _ _ _ _ _ us hl => match us, hl with | [_], _ => rfl)
  have mT0 := g "bottom_up" (by simp)
  have kT0 := kp "bottom_up" (by simp)
  obtain ⟨fdT1, FT1, bT1, _⟩ := FunF.funL9 (c.def_ 33 (d := Shd.dn "_law_step" sLawStep))
  have bT1 := bT1 ["_law_state", "_law_observer", "_law_ways_here", "_law_hidden", "_law_names"] (fun _ _ _ _ _ _ us hl => match us, hl with | [_, _, _, _, _], _ => rfl)
  have mT1 := g "_law_step" (by simp)
  have kT1 := kp "_law_step" (by simp)
  obtain ⟨fdL, FL, _, bL⟩ := FunF.funL9 (c.def_ 34 (d := Shd.dn "law" sLaw))
  refine ⟨fdL, fun s v => bL ["_law_script"] (fun _ _ _ _ _ _ us hl => match us, hl with | [_], _ => rfl) s [v] rfl, fun base hT => ?_⟩
  have TT0 : LamX.TabB base mg (codeA K (ga K "bottom_up")) (Shd.tabA K "bottom_up") := hT (codeA K (ga K "bottom_up"), Shd.tabA K "bottom_up") (by simp)
  have hT0 : (Shd.tabA K "bottom_up", qBot) ∈ T08 K := by simp
  have uT0 : ∀ p ∈ T08 K, p.1 = Shd.tabA K "bottom_up" → p.2 = qBot := fun p hp e => by
    rcases List.mem_cons.mp hp with rfl | hp
    · rfl
    rcases List.mem_cons.mp hp with rfl | hp
    · exact absurd e.symm ne01
    rcases List.mem_cons.mp hp with rfl | hp
    · exact absurd e.symm ne02
    cases hp
  have TT1 : LamX.TabB base mg (codeA K (ga K "_law_step")) (Shd.tabA K "_law_step") := hT (codeA K (ga K "_law_step"), Shd.tabA K "_law_step") (by simp)
  have hT1 : (Shd.tabA K "_law_step", qStep) ∈ T08 K := by simp
  have uT1 : ∀ p ∈ T08 K, p.1 = Shd.tabA K "_law_step" → p.2 = qStep := fun p hp e => by
    rcases List.mem_cons.mp hp with rfl | hp
    · exact absurd e ne01
    rcases List.mem_cons.mp hp with rfl | hp
    · rfl
    rcases List.mem_cons.mp hp with rfl | hp
    · exact absurd e.symm ne12
    cases hp
  have TT2 : LamX.TabB base mg (codeA K (ga K "law")) (Shd.tabA K "law") := hT (codeA K (ga K "law"), Shd.tabA K "law") (by simp)
  have hT2 : (Shd.tabA K "law", qLaw08) ∈ T08 K := by simp
  have uT2 : ∀ p ∈ T08 K, p.1 = Shd.tabA K "law" → p.2 = qLaw08 := fun p hp e => by
    rcases List.mem_cons.mp hp with rfl | hp
    · exact absurd e ne02
    rcases List.mem_cons.mp hp with rfl | hp
    · exact absurd e ne12
    rcases List.mem_cons.mp hp with rfl | hp
    · rfl
    cases hp
  have OC : ObsC K mg (ga K "GoingObserver") (ma K (ga K "GoingObserver") "__init__") := ⟨g "GoingObserver" (by simp), go_c, go_n _ (by simp), go_n _ (by simp), go_n _ (by simp), go_m⟩
  have M : Mk K (ga K "Party") (ma K (ga K "Party") "__init__") := dPI.mkr PF.makes PF.kp
  have G_0 : FnOk P w K mg base CX0 1 _ _ _ _ := ok_isName F_0 B1 g8
  have G_1 : FnOk P w K mg base CX0 1 _ _ _ _ := Sh1.ok_isWithin F_1 B1
  have GW4 : FnOk P w K mg base CX0 1 _ _ _ Sh4.spIsWithin := Sh4.ok_isWithin F_1 B
  have G_2 : FnOk P w K mg base CX0 2 _ _ _ _ := ok_isTick F_2 g9 G_1 m_1 k_1 b_1
  have G_3 : FnOk P w K mg base CX0 3 _ _ _ _ := ok_isStay F_3 G_0 m_0 k_0 b_0 G_2 m_2 k_2 b_2
  have G_4 : FnOk P w K mg base (L2.CX P w) 4 _ _ _ _ := ok_check F_4 B1 ECI G_3 m_3 k_3 b_3
  have GI : FnR P w K mg base (L2.CX P w) 5 _ (spPNew (ga K "Party") (ga K "InvalidStay")) := ok_pinit (funS08 DPI) PF.pc G_4 m_4 k_4 b_4
  have GB : FnOk P w K mg base CX0 5 _ _ _ _ := ok_bottom (T := T08 K) FT0 B TT0 hT0 uT0
  have G_5 : FnOk P w K mg base (L2.CX P w) 3 _ _ _ _ := ok_checkC F_5 B ET ECI g10 g9 G_0 m_0 k_0 b_0 GW4 m_1 k_1 b_1
  have G_6 : FnOk P w K mg base (L2.CX P w) 3 _ _ _ _ := ok_checkG F_6 B ECG g9 GW4 m_1 k_1 b_1
  have G_7 : FnOk P w K mg base CX0 1 _ _ _ _ := ok_afterJ F_7 B
  have G_8 : FnOk P w K mg base CX0 6 _ _ _ _ := ok_waysJ (T := T08 K) F_8 B GB mT0 kT0 bT0 G_7 m_7 k_7 b_7
  have GO : FnOk P w K mg base (L2.CX P w) 4 _ _ _ _ := ok_obsJ FI OC G_5 m_5 k_5 b_5 G_6 m_6 k_6 b_6
  have GR : FnOk P w K mg base CX0 1 _ _ _ (spRecJ (ga K "GoingObserver")) := ok_recordsJ FR B OC
  have GW : FnOk P w K mg base CX0 7 _ _ _ _ := ok_wayCountJ FW OC G_8 m_8 k_8 b_8
  have GX : FnOk P w K mg base (L2.CX P w) 3 _ _ _ _ := ok_indexQ FCX B OC EN GW4 m_1 k_1 b_1
  have GN : FnOk P w K mg base CX0 1 _ _ _ _ := ok_namesJ FNM OC
  have GWW : FnOk P w K mg base CX0 7 _ _ _ _ := ok_with FWW OC G_8 m_8 k_8 b_8
  have GAC : FnOk P w K mg base (L2.CX P w) 8 _ _ _ _ := ok_acceptQ FAC OC EC GWW MWW bWW
  have GSL : FnOk P w K mg base (L2.CX P w) 9 _ _ _ _ := ok_seeLiftQ FSL OC GX MCX bCX GAC MAC bAC
  have GSG : FnOk P w K mg base (L2.CX P w) 9 _ _ _ _ := ok_seeGuestQ FSG OC ECU GX MCX bCX GN MNM bNM GAC MAC bAC
  have GPG : FnOk P w K mg base (L2.CX P w) 8 _ _ _ _ := ok_possibleQ FPG B OC GX MCX bCX GN MNM bNM GWW MWW bWW
  have GFP : FnOk P w K mg base (L2.CX P w) 7 _ _ _ _ := ok_find FFP B mZ OC PF.pc G_8 m_8 k_8 b_8 M GI
  have GST : FnOk P w K mg base CX0 1 _ _ _ _ := ok_pstays FST PF.pc
  have G_10 : FnOk P w K mg base CX0 1 _ _ _ _ := ok_drawn F_10 B1
  have G_9 : FnOk P w K mg base CX0 1 _ _ _ _ := ok_start F_9
  have G_11 := fun n => Smm.ok_same (P := P) (w := w) (base := base) F_11 B m_11 b_11 n
  have G_13 : FnOk P w K mg base CX0 2 _ _ _ _ := ok_planQ F_13 B G_10 m_10 k_10 b_10
  have G_14 : FnOk P w K mg base CX0 1 _ _ _ _ := ok_lawWays F_14 B
  have G_15 : FnOk P w K mg base (L2.CX P w) 9 _ _ _ _ := ok_agrees (T := T08 K) F_15 B OC PF.pc G_11 m_11 k_11 b_11 GW MW bW GPG MPG bPG GFP MFP bFP GST PST bST
  have EE : ErrsQ K mg (ga K "Contradiction") (ga K "InvalidNumber") (ga K "UnknownGuest") := ⟨EC.gm, EN.gm, ECU.gm, ECU.xf, ECU.no, EC.exm, xnc, EN.exm, xuc, xun, ECU.exm⟩
  have GTT : FnOk P w K mg base (L2.CX P w) 12 _ _ _ _ := ok_step (T := T08 K) FT1 B OC EE TT1 hT1 uT1 G_10 m_10 k_10 b_10 F_12 b_12 m_12 k_12 GSL MSL bSL GSG MSG bSG
  exact ok_law08 (C := (ga K "GoingObserver")) (fI := ma K (ga K "GoingObserver") "__init__") FL ⟨B, OC, EE, ⟨_, _, G_9, m_9, k_9, b_9⟩, ⟨_, _, G_10, m_10, k_10, b_10⟩, ⟨_, _, G_13, m_13, k_13, b_13⟩, ⟨_, _, G_14, m_14, k_14, b_14⟩, ⟨_, _, G_11, m_11, k_11, b_11⟩, ⟨_, _, GTT, mT1, kT1, bT1⟩, ⟨_, _, G_15, m_15, k_15, b_15⟩, ⟨_, _, F_12, m_12, k_12, b_12⟩,
    ⟨_, GO, bI⟩, ⟨_, _, _, GR, PR, bR⟩, ⟨_, _, GSL, MSL, bSL⟩, ⟨_, _, GSG, MSG, bSG⟩, ⟨_, _, GPG, MPG, bPG⟩⟩ TT2 hT2 uT2
end Jo
set_option Elab.async false
set_option linter.all false
set_option maxRecDepth 100000
set_option maxHeartbeats 0
namespace Jo
open PySem PySem.Spec PyProof.Rows L2 Sho He Shh Shd
abbrev R08 : PySem.W.OpenRow := PySem.W.OpenLaw.row PySem.Challenge.rw_shoepile_k08_goings_by_search
abbrev hk08 : PySem.W.Hook := hookS 6 fa08 fn08 tf08
def ob08 (s : PySem.W.SharedT) : Shh.AlS := obsS 6 fa08 fn08 tf08 (HandSHeadRun.getT s)
theorem ob08_eq (s : PySem.W.SharedT) : ob08 s = hk08.obs s.abs := obsS_eq (HandSHeadRun.getT_eq s)
def looseA : List Str := ["_wall", "PartyError", "InvalidStay", "UnknownGuest", "InvalidNumber", "TooManyGuests", "InvalidGoings", "Contradiction", "LAST_TICK", "LONGEST_NAME", "is_name", "is_within", "is_tick", "is_stay", "bottom_up", "lifted_from"]
def looseB : List Str := ["_check_stays", "Party", "MOST_GUESTS", "_check_comings", "_check_goings", "_after_going", "_ways_to_go", "GoingObserver", "_law_start", "_law_drawn", "_law_same", "_law_outcome", "_law_plan", "_law_ways", "_law_agrees", "_law_step"]
def loose08 : List Str := looseA ++ looseB
theorem run08 (w : World) : HandSHeadRun.RunEq R08 (PySem.W.view R08.prog [37]) hk08 ob08 20000 loose08 w := by
  intro os
  kernel_rfl
theorem at08 {w : World} {K : Shh.Fr} {h : Heap} {mg : Str → Option Value} {fa : Addr} (KX : K.In h) (G : h.Ns mainGlobals mg) (c : SaysS fa08 fn08 tf08 h K) (hmg : mg "law" = some (.ref fa)) :
    LamX.LawAtS PySem.Challenge.rw_shoepile_k08_goings_by_search w K (L2.CX PySem.Challenge.rw_shoepile_k08_goings_by_search.prog w) 13 63 "_law_script" mg fa h := by
  obtain ⟨fd, hb, hF⟩ := facts08 (P := PySem.Challenge.rw_shoepile_k08_goings_by_search.prog) (w := w) KX G c rfl (by decide +kernel)
  have e : fa = ga K "law" := by
    have q := hmg.symm.trans (gloB_ok KX G (xs := glo08) (c.fact 0) (x := "law") (by simp))
    injection q with q
    injection q
  subst e
  have t0 : (fun K => ga K "bottom_up") ∈ tf08 := List.mem_cons_self
  have t1 : (fun K => ga K "_law_step") ∈ tf08 := List.mem_cons_of_mem _ (List.mem_cons_self)
  have t2 : (fun K => ga K "law") ∈ tf08 := List.mem_cons_of_mem _ (List.mem_cons_of_mem _ (List.mem_cons_self))
  refine ⟨fd, cs08 K, spLaw08 K (T08 K), ?_, ?_, ?_, hb, fun H a ns hl _ ht hS => ?_, fun base _ _ hT => hF base hT⟩
  · exact fun p hp => by
      rcases List.mem_cons.mp hp with rfl | hp
      · exact c.empty _ t0
      rcases List.mem_cons.mp hp with rfl | hp
      · exact c.empty _ t1
      rcases List.mem_cons.mp hp with rfl | hp
      · exact c.empty _ t2
      cases hp
  · exact fun p hp => by
      rcases List.mem_cons.mp hp with rfl | hp
      · exact c.out _ t0
      rcases List.mem_cons.mp hp with rfl | hp
      · exact c.out _ t1
      rcases List.mem_cons.mp hp with rfl | hp
      · exact c.out _ t2
      cases hp
  · exact fun p hp => by
      rcases List.mem_cons.mp hp with rfl | hp
      · exact PySem.W.codeHd_of_K KX (c.hd _ t0)
      rcases List.mem_cons.mp hp with rfl | hp
      · exact PySem.W.codeHd_of_K KX (c.hd _ t1)
      rcases List.mem_cons.mp hp with rfl | hp
      · exact PySem.W.codeHd_of_K KX (c.hd _ t2)
      cases hp
  · refine ⟨a, ns, rfl, hS, hl, ?_, fun _ => rfl⟩
    exact fun p hp => by
      rcases List.mem_cons.mp hp with rfl | hp
      · exact LamX.TabS.nil (ht _ List.mem_cons_self)
      rcases List.mem_cons.mp hp with rfl | hp
      · exact LamX.TabS.nil (ht _ (List.mem_cons_of_mem _ List.mem_cons_self))
      rcases List.mem_cons.mp hp with rfl | hp
      · exact LamX.TabS.nil (ht _ (List.mem_cons_of_mem _ (List.mem_cons_of_mem _ List.mem_cons_self)))
      cases hp
end Jo
open PySem PySem.W PySem.Calls PyProof.Rows
theorem PySem.Challenge.cw_shoepile_k08_goings_by_search_holds : PySem.Challenge.rw_shoepile_k08_goings_by_search.Holds := by
  w_on; o_law
  refine HandSHeadRun.head_any (r := OpenLaw.row PySem.Challenge.rw_shoepile_k08_goings_by_search) (q := view (OpenLaw.row PySem.Challenge.rw_shoepile_k08_goings_by_search).prog [37]) (H := Jo.hk08) (ob := Jo.ob08) (M := 20000) (loose := Jo.loose08) (d := HandSHeadRun.topDef (OpenLaw.row PySem.Challenge.rw_shoepile_k08_goings_by_search).prog 37) (kwd := []) Jo.ob08_eq
    (by kernel_rfl) (fun s => by kernel_rfl) Jo.run08 (by kernel_rfl) (by kernel_rfl) (by kernel_rfl) (by rfl) (by first | assumption | decide +kernel) (by decide +kernel) ⟨rfl, rfl, rfl, rfl, rfl, by decide +kernel⟩ ?hw ?hc
  case hw => w_witness2
  case hc =>
    refine LamX.walk_ofTsE (l := PySem.Challenge.rw_shoepile_k08_goings_by_search) (n := 63) (k := 13) (x := "_law_script") (CX := fun w => L2.CX PySem.Challenge.rw_shoepile_k08_goings_by_search.prog w) rfl (by decide) (by kernel_rfl) ⟨rfl, by decide, by decide⟩ ?F ?hCX
    case hCX =>
      rintro w H s e s' ⟨a, B, H', cls, d, _, _, _, _, _, _, _, z⟩
      exact z
    case F =>
      intro w mg fa h Y G hmg0
      obtain ⟨K, KX, c⟩ := Y
      have hmg : mg ("law" : PySem.Str) = some (.ref fa) := by
        have e : (HandSHeadRun.topDef (OpenLaw.row PySem.Challenge.rw_shoepile_k08_goings_by_search).prog 37).name = ("law" : PySem.Str) := by kernel_rfl
        rw [← e]
        exact hmg0
      exact ⟨K, KX, Jo.at08 KX G c hmg⟩
