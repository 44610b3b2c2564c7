import PyProof.Rows.All
import Wide.All
import OpenK.AllK
import Wide.FinOn
import PyProof.EqAt
import PyProof.EqKinds
import PyProof.TupleCall
import KE.KExcSuper
import KE.KSuper
import HandS.ForExc
import HandS.ExcInit
import PyProof.FString
import PyProof.FString2
import PyProof.FString4
import PyProof.ReprRoads
import HandS.ForMost
import PyProof.ReprReads
import PyProof.Rows.RowBridgeK
import HandS.ExcIs
import HandS.ExcValue
import HandS.ExcBuiltin
import KE.KExcIs
import OpenK.KMore
import PyProof.ReprLen
import HandS.RaiseMore
import HandS.IsInst
import HandS.TryMany
import HandS.OwnEq
import HandS.ExcOwn
import HandS.Property
import PyProof.InstNe
import PyProof.Rows.SeqRoads
import KE.KOpsOwn
import HandS.TupMul
import HandS.TupAny
import PyProof.StrOps2
import HandS.Comp
import HandS.Iter
import HandS.Deep
import HandS.Zip
import HandS.Style
import KE.DataMinMax
import KE.KTupSum
import HandS.SetFor
import HandS.TupSets
import HandS.ClsMeth
import HandS.GenList
import PyProof.FitsInt
import HandS.Conv
import HandS.Walk
import HandS.Defaults
import KE.RegKSuper
import PySem.Challenge.RW_nearsettled_k02_tables_made_of_others
set_option Elab.async false
set_option linter.all false
set_option maxRecDepth 100000
set_option maxHeartbeats 4000000
/-! An own error class over an own base over ValueError, whose __init__ says super().__init__(text) and stores one field. -/
namespace PySem
namespace NearX
open PySem.W PySem.Calls PyProof.Rows PySem.HandSPX
def iA (f : Str) (p1 p2 : Pos) : Arguments := { posonlyargs := [], args := [{ arg := "self", annotation := none, pos := p1 }, { arg := f, annotation := none, pos := p2 }], vararg := none, kwonlyargs := [], kw_defaults := [], kwarg := none, defaults := [] }
def iB (f : Str) (parts : List Expr) (jp a b c d e q1 q2 q3 q4 : Pos) : List Stmt :=
  [.Expr (.Call (.Attribute (.Call (.Name "super" a) [] [] b) "__init__" c) [.JoinedStr parts jp] [] d) e, .Assign [.Attribute (.Name "self" q1) f q2] (.Name f q3) q4]
def iS (f : Str) : Scope := { kind := .function, names := [(PySem.Str.ofString "self", .local), (f, .local), (PySem.Str.ofString "__class__", .free), (PySem.Str.ofString "super", .globalImplicit)], isGenerator := false, isCoroutine := false, more := [] }
/-- what the written part says of the class named x at C, of its __init__ at fI, which stores the field f -/
structure NearTxt (P : Program) (K : Frag) (mg : Str → Option Value) (x f : Str) (C fI : Addr) (parts : List Expr) (jp : Pos) : Prop where
  fs : f = "number" ∨ f = "answer" ∨ f = "line"
  gC : mg x = some (.ref C)
  cls : ∃ nm q N bs bm sn sub ab col dd k0 k1 k2 k3 k5, K.lookup C = some (excClassObj nm q C N bs bm true sn sub ab col dd k0 k1 k2 k3 k5 "ValueError.__new__") ∧ refsVE bm = true
  sa : findIn K (.ref C) "__setattr__" = some (some (.builtin "object.__setattr__"))
  ga : findIn K (.ref C) "__getattribute__" = some (some (.builtin "BaseException.__getattribute__"))
  gg : findIn K (.ref C) "__getattr__" = some none
  noN : findIn K (.ref C) f = some none
  iC : findIn K (.ref C) "__init__" = some (some (.ref fI))
  tC : typeIn K (.ref fI) = some (.type "function")
  kC : keepIn K (.ref C) = true
  exC : subIn K (.ref C) (.type "BaseException") = some true
  tyC : typeIn K (.ref C) = some (.type "type")
  hdC : hasDictIn K C = true
  te : exmOne K (.ref C) (.ref C) = some true
  subV : subIn K (.ref C) (.type "ValueError") = some true
  subC : mroIn K C (.ref C) = some true
  tp : nsIn K cStatics "thirdparty.any" = some none
  sup : ks_superIn K C C "__init__" = some (some (.builtin "ValueError.__init__"))
  nosup : mg "super" = none
  htop : (P.main.scope.names.lookup ("super" : Str)).isSome = false
  fn : ∃ (oc : Value) (od : Option Addr) (doc pm : Value) (an : Option Addr) (cda : Addr) (ct : Value) (osl : Array (Option Value)) (cc : Addr) (qual : Str) (p1 p2 a b c d e q1 q2 q3 q4 : Pos),
    K.lookup fI = some ⟨oc, od, .func (ksFn "__init__" qual (iA f p1 p2) (iB f parts jp a b c d e q1 q2 q3 q4) (iS f) .none .none doc pm an (.ref cda) ct cc), osl⟩ ∧ codeIn K (.ref cda) qual = true ∧
    (∃ (ccl : Value) (cdd : Option Addr) (vs : Array Value) (ccs : Array (Option Value)) (file : Str) (tf : Tok), K.lookup cda = some ⟨ccl, cdd, .fields vs, ccs⟩ ∧ vs[2]? = some (.str file tf) ∧ ((P.main.file : Str) == file) = true) ∧
    (∃ (cl : Value) (cld : Option Addr) (csl : Array (Option Value)), K.lookup cc = some ⟨cl, cld, .cell (some (.ref C)), csl⟩) ∧
    (∃ pl : Sem Bool, ∀ env : Env, eval (.Call (.Attribute (.Call (.Name "super" a) [] [] b) "__init__" c) [.JoinedStr parts jp] [] d) env = (do
      let ov ← attributeBase (.Call (.Name "super" a) [] [] b) "__init__" env (eval (.Call (.Name "super" a) [] [] b) env)
      standAt c.atName
      let (g, first) ← holding [ov] (getMethod ov "__init__" pl)
      callWith d g first (backTo d (starEach [.JoinedStr parts jp] env)) []))
/-- what __init__ leaves of a fresh exception at x -/
structure InitEnd (h h' : Heap) (x C dx : Addr) (f : Str) (v : Value) : Prop where
  keep : ∀ b o, b ≠ x → h.get? b = some o → h'.get? b = some o
  obj : ∃ t1, h'.get? x = some { cls := .ref C, dict := some dx, data := .fields #[.ref t1, .none, .none, .none, .bool false, .none] }
  dbig : h.objs.size ≤ dx
  dne : dx ≠ x
  ns : h'.Ns1 dx (fun y => if y = f then some v else none)
/-- a made one -/
structure OwnMade (h h' : Heap) (e C d : Addr) (f : Str) (v : Value) : Prop where
  keep : ∀ b o, h.get? b = some o → h'.get? b = some o
  new : h.objs.size ≤ e
  obj : ∃ t1, h'.get? e = some { cls := .ref C, dict := some d, data := .fields #[.ref t1, .none, .none, .none, .bool false, .none] }
  dbig : h.objs.size ≤ d
  dne : d ≠ e
  ns : h'.Ns1 d (fun y => if y = f then some v else none)
theorem boot_super : bootBuiltins "super" = some (.type "super") := by decide +kernel
theorem one_size (v : Value) : [v].length ≤ sizeLine := by
  rw [sizeLine_eq]
  exact (by decide : 1 ≤ 16777216)
section
variable {prog : Program} {w : World}
/-- the text that goes to super().__init__: it is made, whatever it is, and nothing that stood is changed -/
def ArgOk (prog : Program) (w : World) (A : Around) (f : Str) (arg : Expr) (h0 : Heap) (x : Addr) (v : Value) : Prop :=
  ∀ (qual : Str) (fI cc L : Addr) (cdv : Value) (s : Shared) (Q : Value → Shared → Prop) (E : Value → Shared → Prop), (∀ b o, h0.get? b = some o → s.heap.get? b = some o) → s.heap.Ns L (fun y => List.lookup y [(f, v), (PySem.Str.ofString "self", Value.ref x)]) →
    (∀ u h' tk, (∀ b o, s.heap.get? b = some o → h'.get? b = some o) → Q u { s with heap := h', toks := tk }) →
    wpAny (model prog w) (A.deeper (ksEnv qual (iS f) L fI cdv cc)) (eval arg (ksEnv qual (iS f) L fI cdv cc)) Q E s
end
section
variable {prog : Program} {w : World} {A : Around} {E : Value → Shared → Prop} {R : Result → Shared → Prop} {h : Heap} {g : Array GenState} {d : Drawn} {t : Nat} {os : OsState}
variable {nm q : Str} {C N : Addr} {bs bm : List Value} {sn : List Str} {sub : List Value} {ab : Bool} {col : Option Bool} {dd : Option Addr} {k0 k1 k2 k3 k5 : Option Value} {kw : List (Str × Value)}
theorem kw_checkT {M : Model} {Q : Unit → Shared → Prop} (hC : h.get? C = some (excClassObj nm q C N bs bm true sn sub ab col dd k0 k1 k2 k3 k5 "ValueError.__new__")) (hq : Q () ⟨h, g, d, t, os⟩) :
    wpAny M A (checkBuiltinCall "type.__call__" ⟨[.ref C], kw⟩) Q E ⟨h, g, d, t, os⟩ := by
  have f3 := tc_sub
  have hT : (⟨h, g, d, t, os⟩ : Shared).TypeIs (.ref C) "type" := ⟨_, hC, rfl⟩
  simp only [checkBuiltinCall, tc_kind, tc_split]
  repeat (any_goals (first | assumption | with_reducible refine wpAny_loadPart_at hC ?_ | wp_step))
theorem kw_checkN {M : Model} {Q : Unit → Shared → Prop} (hm : refsVE bm = true) (hC : h.get? C = some (excClassObj nm q C N bs bm true sn sub ab col dd k0 k1 k2 k3 k5 "ValueError.__new__")) (hq : Q () ⟨h, g, d, t, os⟩) :
    wpAny M A (checkBuiltinCall "ValueError.__new__" ⟨[.ref C], kw⟩) Q E ⟨h, g, d, t, os⟩ := by
  have FB := PySem.F.excBase_ValueError
  have has : (Value.ref C :: bm).contains (.type "ValueError") = true := by rw [List.contains_cons, refsVE_contains _ bm hm, FB.hasB, Bool.or_true]
  have star := FB.noStar
  simp only [checkBuiltinCall, FB.newKind, FB.newSplit, FB.newRow]
  repeat (first | refine wpAny_loadPart_at hC ?_ | (refine wpAny_isSubtype_exc hC ?_; rw [has]) | refine wpAny_staticBase_exc hC ?_ | refine wpAny_madeBy_exc hC ?_ | simp only [bne_self_eq_false, Bool.false_eq_true, if_false] | wp_step)
  exact hq
theorem kw_new (hm : refsVE bm = true) (hC : h.get? C = some (excClassObj nm q C N bs bm true sn sub ab col dd k0 k1 k2 k3 k5 "ValueError.__new__"))
    (hq : R (.ok (.ret (.ref (h.objs.size + 1)))) ⟨(h.push (kdv_tup [])).push (excO C h.objs.size), g, d, t, os⟩) : codeAny (model prog w) A (.builtin "ValueError.__new__" ⟨[.ref C], kw⟩) R ⟨h, g, d, t, os⟩ := by
  have FB := PySem.F.excBase_ValueError
  have ends := FB.ends
  have cB : (Value.ref C :: bm).contains (.type "ValueError") = true := by rw [List.contains_cons, refsVE_contains _ bm hm, FB.hasB, Bool.or_true]
  have cA : (Value.ref C :: bm).contains (.type "AttributeError") = false := by rw [List.contains_cons, refsVE_contains _ bm hm, FB.noAttr]; rfl
  have cN : (Value.ref C :: bm).contains (.type "NameError") = false := by rw [List.contains_cons, refsVE_contains _ bm hm, FB.noName]; rfl
  refine codeAny_builtinAt FB.entry ?_
  unfold Builtin.«BaseException.__new__»
  refine wpAt_bind ?_
  show wpAt _ _ _ (stack >>= _) _ _ _
  refine wpAt_bind (wpAt_stack fun p below => wpAt_of_wpAny ?_)
  wp_walk
  refine wpAt_of_wpAny ?_
  rw [FB.owner]
  repeat (first | with_reducible refine wpAny_madeHere_exc FB.canon hC ?_ | with_reducible refine wpAny_loadPart_at hC ?_ | (with_reducible refine wpAny_isSubtype_exc hC ?_; first | rw [cB] | rw [cA] | rw [cN]) | wp_step)
  show R _ _
  rw [Heap.size_push]
  exact hq
theorem kw_typeCall {fI : Addr} {Q : Fin → Shared → Prop} (hm : refsVE bm = true) (hC : h.get? C = some (excClassObj nm q C N bs bm true sn sub ab col dd k0 k1 k2 k3 k5 "ValueError.__new__"))
    (hi : Looks (model prog w) h (typeLookup (.ref C) "__init__") (some (.ref fI))) (hb : ∀ self, Looks (model prog w) h (bindSpecial (.ref fI) self) (.ref fI, [self]))
    (hq : codeAny (model prog w) A (.call (.ref fI) ⟨[.ref (h.objs.size + 1)], kw⟩)
      (fun r s' => match r with | .ok (.ret v) => v = .none ∧ Q (.done (.ret (.ref (h.objs.size + 1)))) s' | .ok _ => False | .error e => E e s')
      ⟨(h.push (kdv_tup [])).push (excO C h.objs.size), g, d, t, os⟩) :
    wpAny (model prog w) A (Builtin.«type.__call__» ⟨[.ref C], kw⟩) Q E ⟨h, g, d, t, os⟩ := by
  repeat (first | with_reducible refine wpAny_loadPart_at hC ?_ | with_reducible refine wpAny_madeBy_exc hC ?_ | wp_step)
  refine codeAny_call_builtin_code (Code.quiet_builtin _ PySem.F.excBase_ValueError.quiet) (kw_checkN hm hC (kw_new hm hC ?_))
  show wpAny _ _ _ _ _ _
  have k : ∀ b o, h.get? b = some o → ((h.push (kdv_tup [])).push (excO C h.objs.size)).get? b = some o := fun b o e => Heap.get?_push_of_some _ (Heap.get?_push_of_some _ e)
  have hC₁ := k _ _ hC
  have made : ((h.push (kdv_tup [])).push (excO C h.objs.size)).get? (h.objs.size + 1) = some (excO C h.objs.size) := by heap_get
  have self : (Value.ref C :: bm).contains (.ref C) = true := by simp
  unfold isInstance
  repeat (first | with_reducible refine wpAny_loadPart_at made ?_ | (with_reducible refine wpAny_isSubtype_exc hC₁ ?_; rw [self]) | wp_step)
  show wpAny _ _ (typeLookup (.ref C) _) _ _ _
  refine (hi.keeps k).at ?_
  refine wpAny_holding (wpAny_bind (((hb (.ref (h.objs.size + 1))).keeps k).at ?_))
  refine wpAny_bind (wpAny_call (codeAny_mono hq fun r s' z => ?_))
  rcases r with e | (v | _ | _ | _) <;> first | exact z | exact z.elim | skip
  obtain ⟨rfl, z⟩ := z
  first
    | exact wpAny_pure (wpAny_pure z)
    | (wp_walk; exact z)
theorem kw_call {fI : Addr} (hm : refsVE bm = true) (hC : h.get? C = some (excClassObj nm q C N bs bm true sn sub ab col dd k0 k1 k2 k3 k5 "ValueError.__new__"))
    (hi : Looks (model prog w) h (typeLookup (.ref C) "__init__") (some (.ref fI))) (hb : ∀ self, Looks (model prog w) h (bindSpecial (.ref fI) self) (.ref fI, [self]))
    (hq : codeAny (model prog w) (A.under (.builtin "type.__call__" ⟨[.ref C], kw⟩)) (.call (.ref fI) ⟨[.ref (h.objs.size + 1)], kw⟩) (InitBack (h.objs.size + 1) R)
      ⟨(h.push (kdv_tup [])).push (excO C h.objs.size), g, d, t, os⟩) :
    codeAny (model prog w) A (.call (.ref C) ⟨[], kw⟩) R ⟨h, g, d, t, os⟩ := by
  have f1 := tc_lookup
  have f2 := tc_bind (.ref C)
  have ty : (⟨h, g, d, t, os⟩ : Shared).TypeIs (.ref C) "type" := ⟨_, hC, rfl⟩
  refine codeAny_of_tree ?_
  show wpAny _ _ (callAny (.ref C) _) _ _ _
  repeat (any_goals (first | assumption | with_reducible refine wpAny_loadPart_at hC ?_ | wp_step))
  refine ⟨rfl, codeAny_call_builtin_at (Code.quiet_builtin _ (by decide +kernel)) entry_typeCall (kw_checkT hC (kw_typeCall hm hC hi hb (codeAny_mono hq fun r s' z => ?_)))⟩
  rcases r with e | (v | _ | _ | _) <;> exact z
end
section
variable {prog : Program} {w : World} {A : Around} {E : Value → Shared → Prop} {h : Heap} {g : Array GenState} {d : Drawn} {t : Nat} {os : OsState}
/-- super().__init__(..) called -/
theorem call_mw {C x u t0 : Addr} {rest : List Value} {Q : Value → Shared → Prop} {nm q : Str} {N : Addr} {bs bm : List Value} {sn : List Str} {sub : List Value} {ab : Bool} {col : Option Bool} {dd : Option Addr} {k0 k1 k2 k3 k5 : Option Value}
    (hC : h.get? C = some (excClassObj nm q C N bs bm true sn sub ab col dd k0 k1 k2 k3 k5 "ValueError.__new__")) (he : h.get? x = some (excO C t0)) (hu : h.get? u = some (kxs_mw "ValueError.__init__" x)) (hz : rest.length ≤ sizeLine)
    (hq : ∀ h' t1, (∀ b o, b ≠ x → h.get? b = some o → h'.get? b = some o) → h'.get? x = some (excO C t1) → Q .none ⟨h', g, d, t, os⟩) :
    wpAny (model prog w) A (call (.ref u) rest) Q E ⟨h, g, d, t, os⟩ := by
  have FB := PySem.F.excBase_ValueError
  refine wpAny_call (codeAny_of_tree ?_)
  show wpAny _ A.in1 (callAny (.ref u) ⟨rest, []⟩) _ _ _
  simp only [callAny]
  refine wpAny_bind (wpAny_load hu ?_)
  simp only [kxs_mw, show (Value.type "method-wrapper" == Value.type "method" || Value.type "method-wrapper" == Value.type "builtin_function_or_method" || Value.type "method-wrapper" == Value.type "method-wrapper") = true by decide, if_true]
  refine KFB.if_so (by decide) ?_
  refine wpAny_bind (check_bound_init FB.toExcCallFacts hC he rfl ?_)
  refine wpAny_bind (wpAny_pure (wpAny_pure ?_))
  refine ⟨plainId_quiet FB.init.plain _, codeAny_builtin FB.initEntry ?_⟩
  exact exc_init_tree (cls := .ref C) (t0 := t0) (dv := none) (c2 := .none) (c3 := .none) (b4 := .bool false) he hz fun h' k e' _ => hq h' _ k e'
theorem near_init {s : Shared} {R : Result → Shared → Prop} {K : Frag} {mg : Str → Option Value} {base : Heap} {cn f : Str} {C fI : Addr} {parts : List Expr} {jp : Pos} (T : NearTxt prog K mg cn f C fI parts jp) (M : L2.Mod K mg base) (kb : ∀ b o, base.get? b = some o → s.heap.get? b = some o)
    {x t0 : Addr} {v : Value} (hx : s.heap.get? x = some (excO C t0)) (hnx : K.lookup x = none) (hroom : A.depth < recursionLimit) (hA : ArgOk prog w A f (.JoinedStr parts jp) s.heap x v) {args : Args} (hargs : args = ⟨[.ref x, v], []⟩ ∨ args = ⟨[.ref x], [(f, v)]⟩)
    (hq : ∀ h' tk dx, InitEnd s.heap h' x C dx f v → R (.ok (.ret .none)) { s with heap := h', toks := tk }) :
    codeAny (model prog w) A (.call (.ref fI) args) R s := by
  have fs := T.fs
  obtain ⟨hp, g, d, t, os⟩ := s
  obtain ⟨oc, od, doc, pm, an, cda, ct, osl, cc, qual, p1, p2, a, b, c, dp, e, q1, q2, q3, q4, ho, hcd, ⟨ccl, cdd, vs, ccs, file, tf, hcode, hvs, hfile⟩, ⟨cl, cld, csl, hcell⟩, pl, he⟩ := T.fn
  obtain ⟨nm, q, N, bs, bm, sn, sub, ab, col, dd, k0, k1, k2, k3, k5, hC, hbm⟩ := T.cls
  have hcl : clsIn K C = some { name := nm, bases := bs, mro := .ref C :: bm, ns := N, qualname := q, hasDict := true, slotNames := sn, subclasses := sub, abstract := ab, collection := col, hasDel := false } := by unfold clsIn; rw [hC] <;> rfl
  have X : K.In hp := M.kin.keeps kb
  have hbind : BindsTo (⟨hp, g, d, t, os⟩ : Shared) (ksFn "__init__" qual (iA f p1 p2) (iB f parts jp a b c dp e q1 q2 q3 q4) (iS f) .none .none doc pm an (.ref cda) ct cc) args [(PySem.Str.ofString "self", .ref x), (f, v)] := by
    rcases hargs with rfl | rfl <;> rcases fs with rfl | rfl | rfl <;> exact BindsTo.of_eq rfl
  have hloc : ∀ y ∈ [((PySem.Str.ofString "self" : Str), Value.ref x), (f, v)], (iS f).names.lookup y.1 = some .local := by
    rcases fs with rfl | rfl | rfl <;> exact locs rfl
  have hcells : ∀ y ∈ (iS f).names, y.2 ≠ .cell := by
    intro y hy
    simp only [iS, List.mem_cons, List.not_mem_nil, or_false] at hy
    rcases hy with rfl | rfl | rfl | rfl <;> (intro z; cases z)
  refine ks_codeAny_call_defAt (fd := ksFn "__init__" qual (iA f p1 p2) (iB f parts jp a b c dp e q1 q2 q3 q4) (iS f) .none .none doc pm an (.ref cda) ct cc) (body := iB f parts jp a b c dp e q1 q2 q3 q4) (binds := [(PySem.Str.ofString "self", .ref x), (f, v)]) hroom (X _ _ ho) rfl (M.nolimit.keeps kb) (codeRec_of X hcd) rfl hbind hcells hloc (fun h₁ hns k₁ => ?_)
  have X₁ : K.In h₁ := X.keeps k₁
  have kb₁ : ∀ b o, base.get? b = some o → h₁.get? b = some o := fun b o z => k₁ b o (kb b o z)
  have hL : hp.objs.size ≠ x := Nat.ne_of_gt (Heap.lt_size hx)
  show PySem.wpAt (model prog w) _ (.func _ (ksEnv qual (iS f) hp.objs.size fI (.ref cda) cc)) (execs _ (ksEnv qual (iS f) hp.objs.size fI (.ref cda) cc)) _ _ _
  have hks : (ksEnv qual (iS f) hp.objs.size fI (.ref cda) cc).kindOf "super" = some .globalImplicit := by rcases fs with rfl | rfl | rfl <;> rfl
  have hkc : (ksEnv qual (iS f) hp.objs.size fI (.ref cda) cc).kindOf "__class__" = some .free := by rcases fs with rfl | rfl | rfl <;> rfl
  have hka : (ksEnv qual (iS f) hp.objs.size fI (.ref cda) cc).kindOf "self" = some .local := by rcases fs with rfl | rfl | rfl <;> rfl
  have hkf : (ksEnv qual (iS f) hp.objs.size fI (.ref cda) cc).kindOf f = some .local := by rcases fs with rfl | rfl | rfl <;> rfl
  have hfd : (f == ("__debug__" : Str)) = false := by rcases fs with rfl | rfl | rfl <;> decide +kernel
  have hself : List.lookup ("self" : Str) ([(PySem.Str.ofString "self", Value.ref x), (f, v)] : List (Str × Value)).reverse = some (.ref x) := by rcases fs with rfl | rfl | rfl <;> rfl
  have hfv : List.lookup f ([(PySem.Str.ofString "self", Value.ref x), (f, v)] : List (Str × Value)).reverse = some v := by rcases fs with rfl | rfl | rfl <;> rfl
  obtain ⟨mb, hb1, hb2⟩ := M.blt
  have hx₁ := k₁ _ _ hx
  refine ks_wpAt_execs_cons (ks_wpAt_Expr_any (ks_wpAt_MethodCall (pl := pl) ?_ (he _)))
  refine ks_wpAt_super_base (env := ksEnv qual (iS f) hp.objs.size fI (.ref cda) cc) hks hkc (by decide) rfl (X₁ _ _ ho) rfl rfl rfl (X₁ _ _ hcode) rfl hvs hfile T.htop ?_
  refine ks_loadName_global rfl hks (loadGlobal_builtin (env := ksEnv qual (iS f) hp.objs.size fI (.ref cda) cc) (M.glob.keeps kb₁) T.nosup (hb1.keeps kb₁) ((hb2 "super" (by decide +kernel)).trans boot_super) ⟨rfl, ?_⟩)
  refine wpAny_loadName_free rfl hkc rfl ⟨_, X₁ _ _ hcell, rfl⟩ ?_
  refine wpAny_loadName_local rfl hka hns hself ?_
  refine ks_wpAny_isType_cls (X₁ _ _ hC) rfl ⟨rfl, ?_⟩
  refine ks_wpAny_call_super (X₁ _ _ hC) rfl hx₁ rfl (fun c e => by cases e) (looks_mroIn X₁ T.subC) (fun h2 e2 k2 => ?_)
  have X₂ : K.In h2 := X₁.keeps k2
  have hx₂ := k2 _ _ hx₁
  have hxC : x ≠ C := fun z => by rw [z] at hnx; rw [hnx] at hC; cases hC
  have hal : alongIn K "__init__" (((Value.ref C :: bm).dropWhile (· != .ref C)).drop 1) = some (some (.builtin "ValueError.__init__")) := by
    have z := T.sup
    unfold ks_superIn at z
    rw [hcl] at z
    exact z
  have I₂ : InstAt h2 x (excO C t0) C none := ⟨hx₂, rfl, rfl, trivial⟩
  refine kxs_getMethod kxs_ValueError e2 (looks_opaque X₂ T.tp) (l₀ := .ref C :: bm) (fun A Q E s k q => wpAny_bind ((looks_clsIn X₂ hcl) A _ E s k (wpAny_pure q))) rfl X₂ hal (I₂.type.andThen (looks_subIn X₂ T.subV)) hxC (by decide) ?_
  -- the arguments, the call
  have k3 : ∀ b o, h2.get? b = some o → (h2.push (kxs_mw "ValueError.__init__" x)).get? b = some o := fun b o e => Heap.get?_push_of_some _ e
  have hmw : (h2.push (kxs_mw "ValueError.__init__" x)).get? h2.objs.size = some (kxs_mw "ValueError.__init__" x) := Heap.get?_push_at rfl rfl
  have k13 : ∀ b o, h₁.get? b = some o → (h2.push (kxs_mw "ValueError.__init__" x)).get? b = some o := fun b o e => k3 b o (k2 b o e)
  show wpAny _ _ (callWith dp (.ref h2.objs.size) [] (backTo dp (starEach [.JoinedStr parts jp] (ksEnv qual (iS f) hp.objs.size fI (.ref cda) cc))) []) _ _ _
  have hst : starEach [.JoinedStr parts jp] (ksEnv qual (iS f) hp.objs.size fI (.ref cda) cc) = (false, eval (.JoinedStr parts jp) (ksEnv qual (iS f) hp.objs.size fI (.ref cda) cc)) :: starEach [] (ksEnv qual (iS f) hp.objs.size fI (.ref cda) cc) := rfl
  rw [hst]
  refine kxs_callWith (i := "ValueError.__init__") (x := x) rfl (evalArgs_plain ?_)
  refine Calls.spliced_cons ?_
  refine hA qual fI cc hp.objs.size (.ref cda) _ _ _ (fun b o e => k13 b o (k₁ b o e)) (hns.keeps k13) (fun u h4 tk4 k4 => ?_)
  refine Calls.spliced_nil ⟨k4 _ _ hmw, ?_⟩
  have X₄ : K.In h4 := (X₂.keeps k3).keeps k4
  refine call_mw (C := C) (X₄ _ _ hC) (k4 _ _ (k3 _ _ hx₂)) (k4 _ _ hmw) (one_size u) (fun h5 t1 k5' hx5 => ?_)
  have k14 : ∀ b o, h₁.get? b = some o → h4.get? b = some o := fun b o e => k4 b o (k13 b o e)
  have k15 : ∀ b o, b ≠ x → h₁.get? b = some o → h5.get? b = some o := fun b o hb e => k5' b o hb (k14 b o e)
  have X₅ : K.In h5 := fun b o e => k15 b o (fun z => by rw [z, hnx] at e; cases e) (X₁ b o e)
  have hn5 : h5.Ns hp.objs.size (fun y => List.lookup y [((PySem.Str.ofString "self" : Str), Value.ref x), (f, v)].reverse) := by
    obtain ⟨o, es, ep, e, r⟩ := hns
    exact ⟨o, es, ep, k15 _ _ hL e, r⟩
  have hlt : hp.objs.size < h5.objs.size := hn5.lt
  -- self.f = f
  refine wpAt_of_wpAny ?_
  show wpAny _ _ (execs [Stmt.Assign [(Expr.Name (Str.ofString "self") q1).Attribute f q2] (Expr.Name f q3) q4] (ksEnv qual (iS f) hp.objs.size fI (.ref cda) cc)) _ _ _
  refine wpAny_execs_cons (plainObj_wpAny_Assign_Attribute ?_)
  refine wpAny_Name (wpAny_loadName_local rfl hkf hn5 hfv ?_) hfd
  refine wpAny_Name (wpAny_loadName_local rfl hka hn5 hself ?_) (by decide)
  refine set_plain X₅ (ox := excO C t1) (od := none) ⟨hx5, rfl, rfl, trivial⟩ T.sa ?_
  refine exc_osa X₅ hx5 hcl (show refsVE (.ref C :: bm) = true from hbm) rfl T.noN (fun h6 tk6 dx k6 dn dne hx6 hn6 => ?_)
  show wpAny _ _ (execs [] _) _ _ _
  exact wpAny_execs_nil (hq h6 tk6 dx ⟨fun b o hb e => k6 b o hb (k15 b o hb (k₁ b o e)), ⟨t1, hx6⟩, Nat.le_of_lt (Nat.lt_of_lt_of_le hlt dn), dne, hn6⟩)
theorem near_made {s : Shared} {R : Result → Shared → Prop} {K : Frag} {mg : Str → Option Value} {base : Heap} {cn f : Str} {C fI : Addr} {parts : List Expr} {jp : Pos} (T : NearTxt prog K mg cn f C fI parts jp) (M : L2.Mod K mg base) (kb : ∀ b o, base.get? b = some o → s.heap.get? b = some o)
    {args : Args} {v : Value} (hargs : args = ⟨[v], []⟩ ∨ args = ⟨[], [(f, v)]⟩) (hroom : A.depth + 1 < recursionLimit) (hA : ∀ (h0 : Heap) (A' : Around) (x : Addr), (∀ b o, s.heap.get? b = some o → h0.get? b = some o) → A'.units = A.units + 1 → A'.guards = A.guards → ArgOk prog w A' f (.JoinedStr parts jp) h0 x v)
    (hq : ∀ h' tk e d, OwnMade s.heap h' e C d f v → R (.ok (.ret (.ref e))) { s with heap := h', toks := tk }) :
    codeAny (model prog w) A (.call (.ref C) args) R s := by
  obtain ⟨nm, q, N, bs, bm, sn, sub, ab, col, dd, k0, k1, k2, k3, k5, hC, hbm⟩ := T.cls
  have X : K.In s.heap := M.kin.keeps kb
  obtain ⟨hp, g, dr, tk, os⟩ := s
  have rest : ∀ (us : List Value) (kw : List (Str × Value)), ((⟨.ref (hp.objs.size + 1) :: us, kw⟩ : Args) = ⟨[.ref (hp.objs.size + 1), v], []⟩ ∨ (⟨.ref (hp.objs.size + 1) :: us, kw⟩ : Args) = ⟨[.ref (hp.objs.size + 1)], [(f, v)]⟩) →
      codeAny (model prog w) (A.under (.builtin "type.__call__" ⟨.ref C :: us, kw⟩)) (.call (.ref fI) ⟨.ref (hp.objs.size + 1) :: us, kw⟩) (InitBack (hp.objs.size + 1) R)
        ⟨(hp.push (kdv_tup us)).push (excO C hp.objs.size), g, dr, tk, os⟩ := by
    intro us kw ha
    have k : ∀ b o, hp.get? b = some o → ((hp.push (kdv_tup us)).push (excO C hp.objs.size)).get? b = some o := fun b o e => Heap.get?_push_of_some _ (Heap.get?_push_of_some _ e)
    have hget : ((hp.push (kdv_tup us)).push (excO C hp.objs.size)).get? (hp.objs.size + 1) = some (excO C hp.objs.size) := by heap_get
    have hnx : K.lookup (hp.objs.size + 1) = none := by
      cases e : K.lookup (hp.objs.size + 1) with
      | none => rfl
      | some o =>
        have z : hp.get? (hp.objs.size + 1) = some o := X _ _ e
        exact absurd (Nat.lt_of_succ_lt (Heap.lt_size z)) (Nat.lt_irrefl _)
    refine near_init (s := ⟨(hp.push (kdv_tup us)).push (excO C hp.objs.size), g, dr, tk, os⟩) T M (fun b o e => k b o (kb b o e)) hget hnx ?_ ?_ ha fun h' tk' dx ⟨k', hx, dn, dne, hns⟩ => ?_
    · show A.depth + 1 < recursionLimit
      exact hroom
    · exact hA _ _ _ k L2.make_units (by first | rfl | simp [Around.under, Code.guards, Code.isGuard, guardIds, pushGuards])
    · have old : ∀ b o, hp.get? b = some o → h'.get? b = some o := fun b o e => k' b o (Nat.ne_of_lt (Nat.lt_succ_of_lt (Heap.lt_size e))) (k b o e)
      have z : hp.objs.size + 1 + 1 ≤ dx := by
        first
          | (simpa only [Heap.size_push] using dn)
          | exact dn
          | (have q := dn; rw [Heap.size_push, Heap.size_push] at q; exact q)
      exact ⟨rfl, hq h' tk' (hp.objs.size + 1) dx ⟨old, Nat.le_succ _, hx, Nat.le_trans (Nat.le_trans (Nat.le_succ _) (Nat.le_succ _)) z, dne, hns⟩⟩
  rcases hargs with rfl | rfl
  · exact call_own PySem.F.excBase_ValueError (fun X => refsVE_contains X bm hbm) (X _ _ hC) (looks_findIn X T.iC) (fun self => bind_fn X self T.tC) (one_size v) (rest [v] [] (Or.inl rfl))
  · exact kw_call hbm (X _ _ hC) (looks_findIn X T.iC) (fun self => bind_fn X self T.tC) (rest [] [(f, v)] (Or.inr rfl))
end
/-! ### the text: f'before {field}' or f'before {field} behind' -/
/-- a value's own text is made, at most n signs of it, wherever G holds; nothing that stood is changed -/
def FmtOk (prog : Program) (w : World) (G : Around → Prop) (h0 : Heap) (v : Value) (n : Nat) : Prop :=
  ∀ (A : Around) (E : Value → Shared → Prop) (s : Shared) (Q : Value → Shared → Prop), G A → (∀ b o, h0.get? b = some o → s.heap.get? b = some o) →
    (∀ (y : Str) (u : Tok) (h' : Heap) (tk : Nat), y.length ≤ n → (∀ b o, s.heap.get? b = some o → h'.get? b = some o) → Q (.str y u) { s with heap := h', toks := tk }) →
    wpAny (model prog w) A (formatField v Str.empty) Q E s
def parts2 (pre f : Str) (p1 p2 p3 : Pos) : List Expr := [.Constant (.str pre) 0 p1, .FormattedValue (.Name f p2) (-1) none p3]
def parts3 (pre f suf : Str) (p1 p2 p3 p4 : Pos) : List Expr := [.Constant (.str pre) 0 p1, .FormattedValue (.Name f p2) (-1) none p3, .Constant (.str suf) 0 p4]
structure PartsOk (f : Str) (parts : List Expr) : Prop where
  is : (∃ pre p1 p2 p3, pre.length ≤ 200 ∧ parts = parts2 pre f p1 p2 p3) ∨ ∃ pre suf p1 p2 p3 p4, pre.length ≤ 200 ∧ suf.length ≤ 200 ∧ parts = parts3 pre f suf p1 p2 p3 p4
theorem line_big {n : Nat} (h : n ≤ 10000) : n ≤ sizeLine := by
  rw [sizeLine_eq]
  omega
section
variable {prog : Program} {w : World} {A : Around} {f : Str} {parts : List Expr} {jp : Pos} {h0 : Heap} {x : Addr} {v : Value} {n : Nat} {G : Around → Prop}
theorem argOk (fs : f = "number" ∨ f = "answer" ∨ f = "line") (hp : PartsOk f parts) (hF : FmtOk prog w G h0 v n) (hn : n ≤ 5000) (hG : ∀ env, G (A.deeper env)) : ArgOk prog w A f (.JoinedStr parts jp) h0 x v := by
  intro qual fI cc L cdv s Q E hk hns hq
  have hkf : (ksEnv qual (iS f) L fI cdv cc).kindOf f = some .local := by rcases fs with rfl | rfl | rfl <;> rfl
  have hfd : (f == ("__debug__" : Str)) = false := by rcases fs with rfl | rfl | rfl <;> decide +kernel
  have hfv : List.lookup f [(f, v), (PySem.Str.ofString "self", Value.ref x)] = some v := by simp [List.lookup]
  -- the field's own text, behind any text
  have field : ∀ (p2 p3 : Pos) (acc : Str) (rest : List (Sem Value)) (R : Str → Shared → Prop) (tk0 : Nat), acc.length ≤ 200 →
      (∀ (out : Str) (h' : Heap) (tk : Nat), out.length ≤ 200 + n → (∀ b o, s.heap.get? b = some o → h'.get? b = some o) → Joins (model prog w) (A.deeper (ksEnv qual (iS f) L fI cdv cc)) E rest out R { s with heap := h', toks := tk }) →
      Joins (model prog w) (A.deeper (ksEnv qual (iS f) L fI cdv cc)) E (eval (.FormattedValue (.Name f p2) (-1) none p3) (ksEnv qual (iS f) L fI cdv cc) :: rest) acc R { s with toks := tk0 } := by
    intro p2 p3 acc rest R tk0 ha hr
    refine wpAny_FormattedValue_plain (wpAny_Name (wpAny_loadName_local rfl hkf hns hfv ?_) hfd)
    refine hF _ _ _ _ (hG _) hk fun y u h' tk hy hk' => ⟨y, u, rfl, ?_, hr _ h' tk ?_ hk'⟩
    · rw [strLen_append]
      exact line_big (by omega)
    · rw [strLen_append]
      omega
  rcases hp.is with ⟨pre, p1, p2, p3, h1, rfl⟩ | ⟨pre, suf, p1, p2, p3, p4, h1, h2, rfl⟩
  · refine wpAny_JoinedStr (wpAny_Constant_str ⟨pre, _, rfl, ?_, field p2 p3 _ _ _ _ ?_ fun out h' tk ho hk' => ⟨line_big (by omega), hq _ h' _ hk'⟩⟩)
    · rw [strLen_append]
      exact line_big (by have : (Str.empty).length = 0 := rfl; omega)
    · rw [strLen_append]
      have : (Str.empty).length = 0 := rfl
      omega
  · refine wpAny_JoinedStr (wpAny_Constant_str ⟨pre, _, rfl, ?_, field p2 p3 _ _ _ _ ?_ fun out h' tk ho hk' => wpAny_Constant_str ⟨suf, _, rfl, ?_, ?_, hq _ h' _ hk'⟩⟩)
    · rw [strLen_append]
      exact line_big (by have : (Str.empty).length = 0 := rfl; omega)
    · rw [strLen_append]
      have : (Str.empty).length = 0 := rfl
      omega
    · rw [strLen_append]
      exact line_big (by omega)
    · rw [strLen_append]
      exact line_big (by omega)
end
end NearX
end PySem
namespace L2
open PySem PySem.Spec PyProof.Rows PySem.NearX
section
variable {X : Cx} {cn f : Str} {C fI : Addr} {parts : List Expr} {jp : Pos}
/-- a made error at e with its dict at d, both told -/
theorem Inv.made2 {pins : List (Addr × Obj)} {σ : St} {H : Hp} {s : Shared} {h' : Heap} {tk : Nat} {e d : Addr} {v : V} {u : Value} (I : Inv X pins σ H s) (M : OwnMade s.heap h' e C d f u) (rv : RelV v u) :
    H e = none ∧ H d = none ∧ Inv X pins σ (upd (upd H d (.xd [(f, v)])) e (exo e C (some d))) { s with heap := h', toks := tk } := by
  have he : H e = none := I.hok.fresh M.new
  have hd : H d = none := I.hok.fresh M.dbig
  obtain ⟨t1, ho⟩ := M.obj
  have nb : ∀ {b : Addr} {o : Obj}, s.heap.get? b = some o → b ≠ e ∧ b ≠ d := fun {b o} z =>
    ⟨Nat.ne_of_lt (Nat.lt_of_lt_of_le (Heap.lt_size z) M.new), Nat.ne_of_lt (Nat.lt_of_lt_of_le (Heap.lt_size z) M.dbig)⟩
  have old : ∀ {b : Addr} {o : HO}, H b = some o → upd (upd H d (.xd [(f, v)])) e (exo e C (some d)) b = some o := fun {b o} z => by
    rw [upd_ne (ne_of_none z he), upd_ne (ne_of_none z hd)]
    exact z
  refine ⟨he, hd, I.un (t' := tk) (⟨fun b o z _ _ _ => M.keep b o z, fun b o z _ _ _ => ⟨o.slots, M.keep b o z⟩, fun b o z n _ => ?_, fun b o z _ => ⟨o, M.keep b o z⟩,
    fun b xs z => old z, fun b o xs z => old z, fun b ps z => ⟨#[], by rw [old z]; simp⟩⟩) fun b o z => ?_⟩
  · rw [upd_ne (nb z).1, upd_ne (nb z).2]
    exact n
  · by_cases hbe : b = e
    · subst hbe
      rw [upd_same] at z
      cases z
      exact exo_ok ho
    · rw [upd_ne hbe] at z
      by_cases hbd : b = d
      · subst hbd
        rw [upd_same] at z
        cases z
        refine ⟨_, M.ns, fun g => ?_⟩
        rw [lookup_put]
        by_cases hg : g = f
        · rw [if_pos hg, if_pos hg]
          exact rv
        · rw [if_neg hg, if_neg hg]
          trivial
      · rw [upd_ne hbd] at z
        exact (I.hok b o z).stay (fun c w _ q => M.keep c w q) (fun c q => old q) fun c xs q => old q
/-- Cn(e), e a value whose text FV lets make: a new error, its field f holds the value -/
def tNear (C : Addr) (f : Str) (FV : V → Hp → Prop) (ta : TA) : TE := fun σ H Q => ta σ H fun vs H1 => ∃ v, vs = [v] ∧ FV v H1 ∧
  ∀ e d, H1 e = none → H1 d = none → d ≠ e → Q (.ref e) (upd (upd H1 d (.xd [(f, v)])) e (exo e C (some d)))
/-- where FV holds of a value, its own text is made -/
def Texts (X : Cx) (FV : V → Hp → Prop) : Prop := ∃ (G : Around → Prop) (n : Nat), n ≤ 5000 ∧ (∀ A' : Around, A'.units ≤ X.A.units + 10 → A'.guards = X.A.guards → G A') ∧
  ∀ (pins : List (Addr × Obj)) (σ : St) (H : Hp) (s : Shared) (v : V) (u : Value) (h0 : Heap), Inv X pins σ H s → RelV v u → FV v H → (∀ b o, s.heap.get? b = some o → h0.get? b = some o) → FmtOk X.prog X.w G h0 u n
theorem near_call {pins : List (Addr × Obj)} {σ : St} {H : Hp} {s : Shared} {FV : V → Hp → Prop} {v : V} {u : Value} {k : Nat} {Q : Value → Shared → Prop} {E : Value → Shared → Prop} {A : Around} (T : NearTxt X.prog X.K X.mg cn f C fI parts jp) (hp : PartsOk f parts) (hF : Texts X FV)
    (hd : A.depth = X.A.depth) (hu : A.units ≤ X.A.units + 1) (hgs : A.guards = X.A.guards) (hr : Room (k + 1) X.A) (I : Inv X pins σ H s) (rv : RelV v u) (fv : FV v H)
    {args : Args} (hargs : args = ⟨[u], []⟩ ∨ args = ⟨[], [(f, u)]⟩) (hq : ∀ h' tk e d, OwnMade s.heap h' e C d f u → Q (.ref e) { s with heap := h', toks := tk }) : codeAny (model X.prog X.w) A (.call (.ref C) args) (fun r s' => match r with | .ok (.ret x) => Q x s' | .ok _ => False | .error x => E x s') s := by
  obtain ⟨G, n, hn, hG, hV⟩ := hF
  refine near_made T I.ok.mod I.bk hargs (by have := hr.dp; omega) (fun h0 A' x hk hu' hg' => argOk T.fs hp (hV pins σ H s v u h0 I rv fv hk) hn fun env => hG _ ?_ ?_) fun h' tk e d M => hq h' tk e d M
  · show A'.units + 3 ≤ X.A.units + 10
    omega
  · show A'.guards = X.A.guards
    rw [hg', hgs]
theorem pe_near {FV : V → Hp → Prop} {a : Expr} {ta : TA} {p pos : Pos} {k : Nat} (T : NearTxt X.prog X.K X.mg cn f C fI parts jp) (hp : PartsOk f parts) (hF : Texts X FV) (hr : Room (k + 1) X.A) (ha : PA X [a] ta) (hg : Gl X cn := by rfl)
    (hdb : (cn == ("__debug__" : Str)) = false := by decide)
    (he : starEach (a :: []) X.env = (false, eval a X.env) :: starEach [] X.env := by rfl) (hpl : (backTo pos (starEach [] X.env)).any (·.1) = false := by rfl) :
    PE X (.Call (.Name cn p) [a] [] pos) (tNear C f FV ta) := by
  refine ⟨fun pins s σ H Q I h => ?_⟩
  refine wpAny_Call_Name_kw (ld_glob I hg T.gC ?_ hdb)
  refine PySem.W.callWith_K (h₀ := X.base) I.ok.mod.kin T.kC (thn (ha.run pos pins s σ H _ I h) fun us s1 ⟨vs, H1, I1, r1, v, ev, fv, q1⟩ => ⟨I1.kIn, ?_⟩) he hpl
  subst ev
  cases r1 with
  | @cons _ u _ us' rv rn =>
    cases rn
    show wpAny _ _ (call (.ref C) [u]) _ _ _
    refine wpAny_call (codeAny_mono (near_call (Q := EP X pins σ Q) (E := X.xe) T hp hF rfl (Nat.le_succ _) rfl hr I1 rv fv (Or.inl rfl) fun h' tk e d M => ?_) fun r s' hq => ?_)
    · obtain ⟨n1, n2, J⟩ := I1.made2 (tk := tk) M rv
      exact ⟨.ref e, _, J, rfl, q1 e d n1 n2 M.dne⟩
    · cases r with
      | error er => exact hq
      | ok fl => cases fl <;> first | exact hq | exact hq.elim
end
end L2
set_option Elab.async false
set_option linter.all false
set_option maxRecDepth 100000
set_option maxHeartbeats 4000000
/-! Promises of defs that are called while no __repr__ is under way: they may ask for repr of data. -/
namespace L2
open PySem PySem.Spec PyProof.Rows
/-- as FnOk, of calls under which no repr is going on -/
structure FnG (P : Program) (w : World) (K : PySem.W.Frag) (mg : Str → Option Value) (base : Heap) (CX : CXT) (k : Nat) (f : Addr) (fd : FuncData) (ps : List Str) (sp : Sp) : Prop where
  len : ∀ vs H Q E, sp vs H Q E → vs.length = ps.length
  go : ∀ (A : Around), A.guards = some [] → ∀ (outer : List Env) (s : Shared) (H : Hp) (args : Args) (us : List Value) (vs : List V) (Q : VK) (E : XK), Room k A → Env0 P w K mg base A outer s H →
    BindsTo s fd args (ps.zip us) → Vals vs us → sp vs H Q E → codeAny (model P w) A (.call (.ref f) args) (CR CX outer P w H s Q E) s
section
variable {P : Program} {w : World} {K : PySem.W.Frag} {mg : Str → Option Value} {base : Heap} {CX : CXT} {k : Nat} {f : Addr} {fd : FuncData} {ps : List Str} {sp : Sp}
theorem FnOk.toG (F : FnOk P w K mg base CX k f fd ps sp) : FnG P w K mg base CX k f fd ps sp :=
  ⟨F.len, fun A _ outer s H args us vs Q E hr h0 hb hv hs => F.run A outer s H args us vs Q E hr h0 hb hv hs⟩
theorem FnG.up {j : Nat} (F : FnG P w K mg base CX j f fd ps sp) (h : j ≤ k) : FnG P w K mg base CX k f fd ps sp :=
  ⟨F.len, fun A hg outer s H args us vs Q E hr => F.go A hg outer s H args us vs Q E (hr.mono h)⟩
/-- a def of the text by its body, the body standing where no repr is going on -/
theorem Fun.okGX {CX : CXT} {x qual : Str} {st : Stmt} {N : List Str} (F : Fun K x qual st f fd) (S : FnScope N ps (defScope st)) (len : ∀ vs H Q E, sp vs H Q E → vs.length = ps.length)
    (hbody : ∀ (cdv : Value) (A : Around) (outer : List Env) (s : Shared) (H : Hp) (vs : List V) (Q : VK) (E : XK), A.guards = some [] → Room k (A.deeper (envOfC qual (defScope st) s.heap.objs.size f cdv)) → sp vs H Q E →
      ∃ t, PSs (cxOf CX P w K mg base N qual (defScope st) f cdv A outer s H E) (defBody st) t ∧ t { nx := fun _ H' => Q .non H', rt := Q } (start N vs) H) :
    FnG P w K mg base CX (k + 1) f fd ps sp := by
  obtain ⟨oc, od, kV, doc, pm, an, cdv, ct, osl, rfl, lk, hcd⟩ := F.ex
  refine ⟨len, fun A hg outer s H args us vs Q E hr e0 hb r hsp => ?_⟩
  have hin : ∀ b o, base.get? b = some o → s.heap.get? b = some o := fun b o z => (e0.bs b o z).1
  have KX : K.In s.heap := e0.mod.kin.keeps hin
  have names : ∀ y ∈ ps.zip us, (defScope st).names.lookup y.1 = some .local ∨ ((defScope st).names.lookup y.1 = some .cell ∧ ((cellsFrom (s.heap.objs.size + 1) (defScope st).names []).lookup y.1).isSome = true) := by
    rintro ⟨n, v⟩ hy
    cases S.par n (List.of_mem_zip hy).1 with
    | inl q => exact Or.inl q
    | inr q => exact Or.inr ⟨q, PySem.W.cellsFrom_some _ _ _ (Or.inl q)⟩
  refine codeAny_call_function hr.depth (KX _ _ lk) rfl S.co S.gen rfl (PySem.W.codeRec_of KX hcd) (hb _ _ _ _ (wpAny_newFunctionEnv_cells S.kind names fun env he s1 x => ?_))
  subst he
  refine ⟨(e0.mod.nolimit.keeps hin).keeps x.toInCall.keep, codeAny_func ?_⟩
  obtain ⟨t, ht, hq⟩ := hbody cdv A outer s H vs Q E hg (hr.deeper _) hsp
  refine wpAny_mono (ht.run [] s1 (start N vs) H _ (inv_start S hr.hd e0 (len _ _ _ _ hsp) r x) hq) (fun fl s' hs => ?_) fun _ _ hs => hs
  cases fl with
  | ret u =>
    obtain ⟨v, _, H', J, rv, q⟩ := hs
    exact ⟨v, H', J.os, J.bare, J.base, J.hok, rv, q⟩
  | next =>
    obtain ⟨_, H', J, q⟩ := hs
    exact ⟨V.non, H', J.os, J.bare, J.base, J.hok, rfl, q⟩
  | brk => exact False.elim hs.choose_spec.choose_spec.2
  | cont => exact False.elim hs.choose_spec.choose_spec.2
/-- the same of a def that nothing raised leaves -/
theorem Fun.okG {x qual : Str} {st : Stmt} {N : List Str} (F : Fun K x qual st f fd) (S : FnScope N ps (defScope st)) (len : ∀ vs H Q E, sp vs H Q E → vs.length = ps.length)
    (hbody : ∀ (cdv : Value) (A : Around) (outer : List Env) (s : Shared) (H : Hp) (vs : List V) (Q : VK) (E : XK), A.guards = some [] → Room k (A.deeper (envOfC qual (defScope st) s.heap.objs.size f cdv)) → sp vs H Q E →
      ∃ t, PSs (cxOf CX0 P w K mg base N qual (defScope st) f cdv A outer s H E).nox (defBody st) t ∧ t { nx := fun _ H' => Q .non H', rt := Q } (start N vs) H) :
    FnG P w K mg base CX0 (k + 1) f fd ps sp :=
  F.okGX S len fun cdv A outer s H vs Q E hg hr h => let ⟨t, ht, hq⟩ := hbody cdv A outer s H vs Q E hg hr h; ⟨t, ht.nox, hq⟩
end
section
variable {X : Cx} {CX : CXT} {k : Nat} {f : Addr} {fd : FuncData} {ps : List Str} {sp : Sp} {dvs : List V} {ds : List Value} {E : XK} {x : Str} {p pos : Pos} {e : Expr} {es : List Expr} {t : TA}
theorem run_fnG {pins : List (Addr × Obj)} {σ : St} {H : Hp} {s : Shared} {Q : VK} {us : List Value} {vs : List V} (F : FnG X.prog X.w X.K X.mg X.base CX k f fd ps sp) (hA : X.A.guards = some []) (hr : Room k X.A) (hb : Binds X.K fd ps ds) (hd : Vals dvs ds) (hx : Passes CX X E)
    (I : Inv X pins σ H s) (r : Vals vs us) (h : sp (vs ++ dvs) H Q E) : wpAny (model X.prog X.w) X.A (call (.ref f) us) (EP X pins σ Q) X.xe s := by
  have r2 : Vals (vs ++ dvs) (us ++ ds) := r.append hd
  have hl : (us ++ ds).length = ps.length := r2.length.symm.trans (F.len _ _ _ _ h)
  refine wpAny_call (codeAny_mono (F.go X.A hA X.stack s H ⟨us, []⟩ (us ++ ds) (vs ++ dvs) Q E hr I.env0 (hb s us I.kIn hl) r2 h) fun res s' hq => ?_)
  cases res with
  | error err => exact hx pins σ H s err s' I hq
  | ok fl =>
    cases fl with
    | ret u => exact I.after hq
    | next => exact hq.elim
    | brk => exact hq.elim
    | cont => exact hq.elim
theorem pe_callG (F : FnG X.prog X.w X.K X.mg X.base CX k f fd ps sp) (hA : X.A.guards = some []) (hr : Room k X.A) (hg : Gl X x) (hm : X.mg x = some (.ref f)) (hk : PySem.W.keepIn X.K (.ref f) = true) (hb : Binds X.K fd ps ds) (hd : Vals dvs ds) (hx : Passes CX X E)
    (ha : PA X (e :: es) t) (hdb : (x == ("__debug__" : Str)) = false := by decide) (he : starEach (e :: es) X.env = (false, eval e X.env) :: starEach es X.env := by rfl) (hpl : (backTo pos (starEach es X.env)).any (·.1) = false := by rfl) :
    PE X (.Call (.Name x p) (e :: es) [] pos) (tCall sp dvs E t) :=
  ⟨fun pins s σ H Q I h => wpAny_Call_Name_kw (ld_glob I hg hm (PySem.W.callWith_K (h₀ := X.base) I.ok.mod.kin hk
    (thn (ha.run pos pins s σ H _ I h) fun us s1 ⟨vs, H1, I1, r, q⟩ => ⟨I1.kIn, run_fnG F hA hr hb hd hx I1 r q⟩) he hpl) hdb)⟩
/-- repr(x) of data, no repr being under way: the very text that the data have -/
def rRepr (K : PySem.W.Frag) : List V → Hp → VK → Prop := fun xs H Q => ∃ v d, xs = [v] ∧ Dp K H v d ∧ d.showable = true ∧ d.hasDict = false ∧ d.shown.length ≤ sizeLine ∧ d.depth ≤ 60 ∧ Q (.str d.shown) H
theorem call_reprD (hA : X.A.guards = some []) (hu : X.A.units + 64 < cLine) : CallR X (.builtin "repr") (rRepr X.K) := by
  intro pins s σ H xs us Q I r h
  obtain ⟨v, d, rfl, hd, hs, hn, hz, hdp, q⟩ := h
  cases r with
  | cons rv rr =>
    cases rr
    obtain ⟨as, rd⟩ := Dp.reads I d v _ hd rv
    have ref : ∀ (a : Addr), v = .ref a → wpAny (model X.prog X.w) X.A (call (.builtin "repr") [.ref a]) (EP X pins σ Q) X.xe s := by
      rintro a rfl
      cases rv
      exact repr_of_reads' rd hs (PyData.noDict_hsm hn) hA (by omega) (fun _ _ e => e) (fun h' u tk hk => ⟨.str d.shown, H, I.kept (t' := tk) hk, ⟨u, rfl⟩, q⟩) hz
    cases hd with
    | non =>
      cases rv
      exact PySem.P.repr_of_none ⟨.str _, H, I.tok _, ⟨_, rfl⟩, by simpa only [PyData.shown] using q⟩
    | bl b =>
      cases rv
      exact PySem.P.repr_of_bool ⟨.str _, H, I.tok _, ⟨_, rfl⟩, by simpa only [PyData.shown] using q⟩
    | int i =>
      obtain ⟨t, rfl⟩ := rv
      exact PySem.P.repr_of_int (by simpa [PyData.showable] using hs) ⟨.str _, H, I.tok _, ⟨_, rfl⟩, by simpa only [PyData.shown] using q⟩
    | str x =>
      obtain ⟨t, rfl⟩ := rv
      exact PySem.P.repr_of_str ⟨.str _, H, I.tok _, ⟨_, rfl⟩, by simpa only [PyData.shown] using q⟩ (by simpa only [PyData.shown] using hz)
    | lst hs' ha =>
      cases rv
      exact ref _ rfl
    | tup hs' ha =>
      cases rv
      exact ref _ rfl
end
end L2
set_option Elab.async false
set_option linter.all false
set_option maxRecDepth 100000
set_option maxHeartbeats 4000000
namespace L2
open PySem PySem.Spec PyProof.Rows PySem.NearX
section
variable {X : Cx} {cn f : Str} {C fI : Addr} {parts : List Expr} {jp : Pos}
/-- Cn(field=e) -/
theorem pe_nearKw {FV : V → Hp → Prop} {e : Expr} {te : TE} {p pos kp : Pos} {k : Nat} (T : NearTxt X.prog X.K X.mg cn f C fI parts jp) (hp : PartsOk f parts) (hF : Texts X FV) (hr : Room (k + 1) X.A) (ha : PE X e te) (hg : Gl X cn := by rfl)
    (hdb : (cn == ("__debug__" : Str)) = false := by decide)
    (hall : (backToKw pos (keywordEach [⟨some f, e, kp⟩] X.env)).all (·.1.isSome) = true := by rfl) (hks : (backToKw pos (keywordEach [⟨some f, e, kp⟩] X.env)).filterMap (·.1) = [f] := by rfl)
    (hpl : ((backTo pos (starEach [] X.env)).any (·.1) || (backToKw pos (keywordEach [⟨some f, e, kp⟩] X.env)).any (·.1.isNone)) = false := by rfl) :
    PE X (.Call (.Name cn p) [] [⟨some f, e, kp⟩] pos) (tNear C f FV (tCons te tNil)) := by
  refine ⟨fun pins s σ H Q I h => ?_⟩
  refine wpAny_Call_Name_kw (ld_glob I hg T.gC ?_ hdb)
  refine PySem.W.callWith_KW0 (h₀ := X.base) I.ok.mod.kin T.kC hall ?_ hpl
  refine thn ((pk_cons (nm := some f) (kpos := kp) ha pk_nil).run pos pins s σ H _ I h) fun us s1 ⟨vs, H1, I1, r1, v, ev, fv, q1⟩ => ⟨I1.kIn, ?_⟩
  rw [hks]
  subst ev
  cases r1 with
  | @cons _ u _ us' rv rn =>
    cases rn
    show wpAny _ _ (call (.ref C) [] [(f, u)]) _ _ _
    refine wpAny_call (codeAny_mono (near_call (Q := EP X pins σ Q) (E := X.xe) T hp hF rfl (Nat.le_succ _) rfl hr I1 rv fv (Or.inr rfl) fun h' tk e d M => ?_) fun r s' hq => ?_)
    · obtain ⟨n1, n2, J⟩ := I1.made2 (tk := tk) M rv
      exact ⟨.ref e, _, J, rfl, q1 e d n1 n2 M.dne⟩
    · cases r with
      | error er => exact hq
      | ok fl => cases fl <;> first | exact hq | exact hq.elim
/-- what reading the field f of such an error asks of the class at C -/
structure FldC (K : PySem.W.Frag) (C : Addr) (f : Str) : Prop where
  ga : PySem.W.findIn K (.ref C) "__getattribute__" = some (some (.builtin "BaseException.__getattribute__"))
  gg : PySem.W.findIn K (.ref C) "__getattr__" = some none
  noN : PySem.W.findIn K (.ref C) f = some none
  exC : PySem.W.subIn K (.ref C) (.type "BaseException") = some true
  hdC : PySem.W.hasDictIn K C = true
theorem fldC_of {P : Program} {K : PySem.W.Frag} {mg : Str → Option Value} (T : NearTxt P K mg cn f C fI parts jp) : FldC K C f := ⟨T.ga, T.gg, T.noN, T.exC, T.hdC⟩
/-- e.f, e an error at a whose own dict is told -/
def tNearF (C : Addr) (f : Str) (te : TE) : TE := fun σ H Q => te σ H fun x H1 => ∃ a d fs v, x = .ref a ∧ H1 a = some (exo a C (some d)) ∧ H1 d = some (.xd fs) ∧ fs.lookup f = some v ∧ Q v H1
theorem pe_nearF {e : Expr} {te : TE} {pos : Pos} (T : FldC X.K C f) (he : PE X e te) (hb : attributeBase e f X.env (eval e X.env) = eval e X.env := by rfl) : PE X (.Attribute e f pos) (tNearF C f te) := by
  refine ⟨fun pins s σ H Q I h => ?_⟩
  refine attr_of hb (thn (he.run pins s σ H _ I h) fun u s1 hh => ?_)
  obtain ⟨x, H1, I1, rx, a, d, fs, v, ex, ea, ed, l, q⟩ := hh
  subst ex
  obtain rfl : u = Value.ref a := rx
  obtain ⟨t1, ho⟩ := exo_at I1.hok ea
  obtain ⟨mA, hns, hr⟩ := I1.hok d _ ed
  obtain ⟨od, hod, hl⟩ := lookIn_ns hns
  obtain ⟨w, hw, rw'⟩ := RelO.some_of (v := v) (o := mA f) (by rw [← l]; exact hr f)
  have J : PySem.W.InstAt s1.heap a { cls := .ref C, dict := some d, data := .fields #[.ref t1, .none, .none, .none, .bool false, .none] } C (some od) := ⟨ho, rfl, rfl, hod⟩
  exact HandSPX.exc_get I1.kIn J T.ga T.gg T.exC (PySem.W.findObj_own T.hdC T.noN rfl (by rw [hl, hw])) (handed_of rw') ⟨v, H1, I1.tok _, rw', q⟩
/-- Cn(), an own class over own classes over ValueError, none with an __init__ -/
theorem pe_exc0 {C : Addr} {x : Str} {p pos : Pos} (q : PySem.W.excIn X.K C [.type "ValueError", .type "Exception", .type "BaseException", .type "object"] "ValueError.__new__" = true) (gC : X.mg x = some (.ref C)) (kC : PySem.W.keepIn X.K (.ref C) = true) (hg : Gl X x := by rfl)
    (hdb : (x == ("__debug__" : Str)) = false := by decide) :
    PE X (.Call (.Name x p) [] [] pos) (fun _ H Q => ∀ a, H a = none → Q (.ref a) (upd H a (ExO (.ref C) a))) := by
  refine ⟨fun pins s σ H Q I h => ?_⟩
  refine wpAny_Call_Name_kw (ld_glob I hg gC ?_ hdb)
  refine PySem.W.callWith_K0 I.kIn kC ?_
  show wpAny _ _ (call (.ref C) []) _ _ _
  obtain ⟨bm, N, nm, qn, bs, hdct, sn, sub, ab, col, dd, k0, k1, k2, k3, k5, mN, hC, hN, hni, T⟩ := exc_obj I.kIn q
  refine wpAny_call_exc_subT PySem.F.excBase_ValueError T hC hN hni (fun h' a hm => ?_) (Nat.zero_le _)
  have hn : H a = none := I.hok.gone hm.new
  obtain ⟨t, ht, _, _⟩ := hm.there
  exact ⟨.ref a, upd H a (ExO (.ref C) a), I.laidN hm.keeps hm.new hn (exO_ok ht ⟨rfl, rfl⟩ rfl rfl rfl (show 4 < 6 by decide)), rfl, h a hn⟩
/-- ValueError() -/
theorem pe_ve0 {p pos : Pos} (hm : X.mg "ValueError" = none) (hg : Gl X "ValueError" := by rfl) :
    PE X (.Call (.Name "ValueError" p) [] [] pos) (fun _ H Q => ∀ a, H a = none → Q (.ref a) (upd H a (ExO (.type "ValueError") a))) := by
  refine ⟨fun pins s σ H Q J h => ?_⟩
  refine wpAny_Call_Name_kw (ld_blt J hg hm L2.boot_ValueError ?_ (by decide) (by decide))
  obtain ⟨hp1, g1, d1, tk1, os1⟩ := s
  refine PyProof.Rows.callWith_type0 (wpAny_call_exc L2.exb_ValueError.call (fun h' a mk => ?_) (Nat.zero_le _))
  have hn : H a = none := J.hok.gone mk.new
  obtain ⟨t, ht, _, _⟩ := (PySem.Heap.MadeExc.of mk).there
  exact ⟨.ref a, upd H a (ExO (.type "ValueError") a), J.laidN mk.keeps mk.new hn (exO_ok ht ⟨rfl, rfl⟩ rfl rfl rfl (show 4 < 6 by decide)), rfl, h a hn⟩
/-- an error of the class cls stands at a -/
def IsExc (H : Hp) (a : Addr) (cls : Value) : Prop := (∃ D d fs, cls = .ref D ∧ H a = some (exo a D (some d)) ∧ H d = some (.xd fs)) ∨ H a = some (ExO cls a)
def ExcK (K : PySem.W.Frag) (cls : Value) : Prop := (∃ D, cls = .ref D ∧ ExcC K D) ∨ cls = .type "ValueError"
def rIsX (K : PySem.W.Frag) : List V → Hp → VK → Prop := fun xs H Q => ∃ (a : Addr) (cls : Value) (c : V) (cv : Value) (b : Bool), xs = [.ref a, c] ∧ IsExc H a cls ∧ ExcK K cls ∧ (∀ u, RelV c u → u = cv) ∧ PySem.W.kitOne K cls cv = some b ∧ Q (.bl b) H
theorem call_isX : CallR X (.builtin "isinstance") (rIsX X.K) := by
  intro pins s σ H xs us Q I r h
  obtain ⟨a, cls, c, cv, b, rfl, ie, ck, hcv, e, q⟩ := h
  cases r with
  | cons rx rr =>
    cases rr with
    | @cons _ uc _ _ rt rr =>
      cases rr
      cases rx
      have ec := hcv _ rt
      subst ec
      have own : ∀ (D : Addr) (ox : Obj) (od : Option Obj), cls = .ref D → PySem.W.InstAt s.heap a ox D od → wpAny (model X.prog X.w) X.A (call (.builtin "isinstance") [.ref a, uc]) (EP X pins σ Q) X.xe s := by
        intro D ox od ed J
        subst ed
        rcases ck with ⟨D', e1, K1⟩ | e1
        · cases e1
          obtain ⟨cd, hc, _⟩ := PySem.W.any_some K1.hd
          exact PySem.W.kia_one (PySem.W.kitx_exc (by rw [hc]; rfl) K1.hg K1.hk K1.hs K1.ha K1.hn K1.ht K1.hm) I.kIn J e (fun z => nomatch z) fun tk => ⟨.bl b, H, I.kept (t' := tk) fun _ _ z => z, rfl, q⟩
        · cases e1
      rcases ie with ⟨D, d, fs, ed, ea, edd⟩ | ea
      · obtain ⟨t1, ho⟩ := exo_at I.hok ea
        obtain ⟨mA, ⟨od, es, ep, hod, _⟩, _⟩ := I.hok d _ edd
        exact own D _ (some od) ed ⟨ho, rfl, rfl, hod⟩
      · obtain ⟨⟨oe, vs, ho, hz, hd, _, _⟩, _, _⟩ := I.hok a _ ea
        rcases ck with ⟨D, e1, K1⟩ | e1
        · subst e1
          refine own D oe none rfl ?_
          obtain ⟨oc, od, oda, osl⟩ := oe
          obtain ⟨h1, h2⟩ := hz
          dsimp only at h1 h2 hd
          subst h1 h2 hd
          exact ⟨ho, rfl, rfl, trivial⟩
        · subst e1
          exact PySem.W.kia_one (PySem.W.kitx_bexc PySem.F.excAttr_ValueError PySem.F.lkClass_ValueError PySem.F.soClass_ValueError (by decide)) I.kIn ⟨oe, ho, hz.1⟩ e (fun z => nomatch z) fun tk => ⟨.bl b, H, I.kept (t' := tk) fun _ _ z => z, rfl, q⟩
end
end L2
set_option Elab.async false
set_option linter.all false
set_option maxRecDepth 100000
set_option maxHeartbeats 4000000
/-! Data at any depth: they stand while the heap grows; their texts. -/
namespace L2
open PySem PySem.Spec PyProof.Rows PySem.NearX
theorem SqL.on {K : PySem.W.Frag} {H H' : Hp} {a : Addr} {xs : List V} (h : SqL K H a xs) (s : Same H H') : SqL K H' a xs := s.seq h
theorem SqT.on {K : PySem.W.Frag} {H H' : Hp} {a : Addr} {xs : List V} (h : SqT K H a xs) (s : Same H H') : SqT K H' a xs := by
  rcases h with (h | ⟨o, h⟩) | h
  · exact .inl (.inl (s _ _ h))
  · exact .inl (.inr ⟨o, s _ _ h⟩)
  · exact .inr h
mutual
theorem Dp.on {K : PySem.W.Frag} {H H' : Hp} (s : Same H H') : ∀ {v : V} {d : PyData}, Dp K H v d → Dp K H' v d
  | _, _, .non => .non
  | _, _, .bl b => .bl b
  | _, _, .int i => .int i
  | _, _, .str x => .str x
  | _, _, .lst h1 h2 => .lst (h1.on s) (DpAll.on s h2)
  | _, _, .tup h1 h2 => .tup (h1.on s) (DpAll.on s h2)
theorem DpAll.on {K : PySem.W.Frag} {H H' : Hp} (s : Same H H') : ∀ {vs : List V} {ds : List PyData}, DpAll K H vs ds → DpAll K H' vs ds
  | _, _, .nil => .nil
  | _, _, .cons h1 h2 => .cons (Dp.on s h1) (DpAll.on s h2)
end
theorem DpAll.rep {K : PySem.W.Frag} {H : Hp} {v : V} {d : PyData} (h : Dp K H v d) : ∀ n : Nat, DpAll K H (List.replicate n v) (List.replicate n d)
  | 0 => .nil
  | n + 1 => .cons h (DpAll.rep h n)
/-- a value of data whose text is not long -/
def FVd (K : PySem.W.Frag) (v : V) (H : Hp) : Prop := ∃ d : PyData, Dp K H v d ∧ d.showable = true ∧ d.hasDict = false ∧ d.shown.length ≤ 4000 ∧ d.depth ≤ 30 ∧ ∀ x : Str, d = .str x → x.length ≤ 4000
theorem FVd.on {K : PySem.W.Frag} {v : V} {H H' : Hp} (h : FVd K v H) (s : Same H H') : FVd K v H' := by
  obtain ⟨d, h1, h2⟩ := h
  exact ⟨d, h1.on s, h2⟩
theorem texts_d {X : Cx} (hA : X.A.guards = some []) (hu : X.A.units + 100 < cLine) : Texts X (FVd X.K) := by
  refine ⟨fun A => A.guards = some [] ∧ A.units + 64 < cLine, 4000, by decide, fun A' h1 h2 => ⟨h2.trans hA, by omega⟩, fun pins σ H s v u h0 I rv ⟨d, hd, hs, hn, hz, hdp, hx⟩ hk => ?_⟩
  intro A E s1 Q ⟨hg, hun⟩ hk0 hq
  obtain ⟨as, rd⟩ := Dp.reads I d v u hd rv
  have big : d.shown.length ≤ sizeLine := line_big (by omega)
  have ref : ∀ a : Addr, u = .ref a → wpAny (model X.prog X.w) A (formatField u Str.empty) Q E s1 := by
    rintro a rfl
    exact formatField_of_reads rd hs (PyData.noDict_hsm hn) hg (by omega) (fun b o e => hk0 b o (hk b o e)) (fun h' w tk hk' => hq d.shown w h' tk hz hk') big
  cases hd with
  | non =>
    cases rv
    exact wpAny_formatField_none (hq _ _ s1.heap _ (by decide +kernel) fun _ _ e => e)
  | bl b =>
    cases rv
    exact wpAny_formatField_bool (hq _ _ s1.heap _ (by cases b <;> decide +kernel) fun _ _ e => e)
  | int i =>
    obtain ⟨t, rfl⟩ := rv
    exact wpAny_formatField_int (by simpa [PyData.showable] using hs) (hq _ _ s1.heap _ (by simpa only [PyData.shown] using hz) fun _ _ e => e)
  | str x =>
    obtain ⟨t, rfl⟩ := rv
    have := hx x rfl
    exact wpAny_formatField_str (hq _ _ s1.heap _ this fun _ _ e => e) (hq _ _ s1.heap _ this fun _ _ e => e) (line_big (by omega))
  | lst h1 h2 =>
    cases rv
    exact ref _ rfl
  | tup h1 h2 =>
    cases rv
    exact ref _ rfl
theorem shownAll_rep (d : PyData) : ∀ n : Nat, PyData.shownAll (List.replicate n d) = List.replicate n d.shown
  | 0 => by simp only [List.replicate, PyData.shownAll]
  | n + 1 => by rw [List.replicate_succ, PyData.shownAll, shownAll_rep d n, List.replicate_succ]
theorem showable_rep {d : PyData} (h : d.showable = true) : ∀ n : Nat, PyData.showableAll (List.replicate n d) = true
  | 0 => by simp only [List.replicate, PyData.showableAll]
  | n + 1 => by rw [List.replicate_succ, PyData.showableAll, showable_rep h n, h]; rfl
theorem noDict_rep {d : PyData} (h : d.hasDict = false) : ∀ n : Nat, PyData.hasDictAll (List.replicate n d) = false
  | 0 => by simp only [List.replicate, PyData.hasDictAll]
  | n + 1 => by rw [List.replicate_succ, PyData.hasDictAll, noDict_rep h n, h]; rfl
theorem depth_rep {d : PyData} {k : Nat} (h : d.depth ≤ k) : ∀ n : Nat, PyData.depthAll (List.replicate n d) ≤ k
  | 0 => by simp only [List.replicate, PyData.depthAll]; exact Nat.zero_le _
  | n + 1 => by
    rw [List.replicate_succ, PyData.depthAll]
    have := depth_rep h n
    omega
theorem sum_rep (a : Nat) : ∀ n : Nat, (List.replicate n a).sum = n * a
  | 0 => by simp
  | n + 1 => by rw [List.replicate_succ, List.sum_cons, sum_rep a n, Nat.succ_mul]; omega
/-- a list of n equal values of data has the text of its datum -/
theorem list_rep_ok {d : PyData} {n : Nat} (hn : n ≤ 100) (hs : d.showable = true) (hx : d.hasDict = false) (hz : d.shown.length ≤ 4000) (hd : d.depth ≤ 30) :
    (PyData.list (List.replicate n d)).showable = true ∧ (PyData.list (List.replicate n d)).hasDict = false ∧ (PyData.list (List.replicate n d)).shown.length ≤ sizeLine ∧ (PyData.list (List.replicate n d)).depth ≤ 60 := by
  refine ⟨by simpa only [PyData.showable] using showable_rep hs n, by simpa only [PyData.hasDict] using noDict_rep hx n, ?_, ?_⟩
  · simp only [PyData.shown]
    rw [shownAll_rep]
    refine Nat.le_trans (listText_len_le _) ?_
    rw [List.map_replicate, sum_rep, List.length_replicate, sizeLine_eq]
    have : n * d.shown.length ≤ 100 * 4000 := Nat.mul_le_mul hn hz
    omega
  · simp only [PyData.depth]
    have := depth_rep hd n
    omega
theorem lk1 {f : Str} {v : V} : List.lookup f [(f, v)] = some v := by simp [List.lookup]
end L2
set_option Elab.async false
set_option linter.all false
set_option maxRecDepth 100000
set_option maxHeartbeats 4000000
/-! raise Cn() and raise Cn(e) of own errors over an own base. -/
namespace L2
open PySem PySem.Spec PyProof.Rows PySem.NearX
section
variable {X : Cx} {cn f : Str} {C fI : Addr} {parts : List Expr} {jp : Pos}
theorem pmk_exc0 {C : Addr} {x : Str} {p pos : Pos} (q : PySem.W.excIn X.K C [.type "ValueError", .type "Exception", .type "BaseException", .type "object"] "ValueError.__new__" = true) (gC : X.mg x = some (.ref C)) (kC : PySem.W.keepIn X.K (.ref C) = true) (r : Raises X (.ref C)) (hg : Gl X x := by rfl)
    (hdb : (x == ("__debug__" : Str)) = false := by decide) : PMk X (.Call (.Name x p) [] [] pos) (fun _ H Q => Q (.ref C) none H) := by
  intro pins s σ H Q I h
  refine wpAny_Call_Name_kw (ld_glob I hg gC (PySem.W.callWith_K0 I.kIn kC ?_) hdb)
  obtain ⟨bm, N, nm, qn, bs, hdct, sn, sub, ab, col, dd, k0, k1, k2, k3, k5, mN, hC, hN, hni, T⟩ := exc_obj I.kIn q
  exact wpAny_call_exc_subT PySem.F.excBase_ValueError T hC hN hni (fun h' e hm => mk_of I hm r h (I.hok.gone hm.new)) (Nat.zero_le _)
/-- Cn(e), raised -/
def tMkNear (C : Addr) (f : Str) (FV : V → Hp → Prop) (ta : TA) : L2.St → Hp → XK → Prop := fun σ H Q => ta σ H fun vs H1 => ∃ v, vs = [v] ∧ FV v H1 ∧ ∀ d, H1 d = none → Q (.ref C) (some d) (upd H1 d (.xd [(f, v)]))
theorem pmk_near {FV : V → Hp → Prop} {a : Expr} {ta : TA} {p pos : Pos} {k : Nat} (T : NearTxt X.prog X.K X.mg cn f C fI parts jp) (hp : PartsOk f parts) (hF : Texts X FV) (hr : Room (k + 1) X.A) (ha : PA X [a] ta) (hg : Gl X cn := by rfl)
    (hdb : (cn == ("__debug__" : Str)) = false := by decide)
    (he : starEach (a :: []) X.env = (false, eval a X.env) :: starEach [] X.env := by rfl) (hpl : (backTo pos (starEach [] X.env)).any (·.1) = false := by rfl) :
    PMk X (.Call (.Name cn p) [a] [] pos) (tMkNear C f FV ta) := by
  intro pins s σ H Q I h
  refine wpAny_Call_Name_kw (ld_glob I hg T.gC ?_ hdb)
  refine PySem.W.callWith_K (h₀ := X.base) I.ok.mod.kin T.kC (thn (ha.run pos pins s σ H _ I h) fun us s1 ⟨vs, H1, I1, r1, v, ev, fv, q1⟩ => ⟨I1.kIn, ?_⟩) he hpl
  subst ev
  cases r1 with
  | @cons _ u _ us' rv rn =>
    cases rn
    show wpAny _ _ (call (.ref C) [u]) _ _ _
    refine wpAny_call (codeAny_mono (near_call (Q := MkP X pins σ Q) (E := X.xe) T hp hF rfl (Nat.le_succ _) rfl hr I1 rv fv (Or.inl rfl) fun h' tk e d M => ?_) fun r s' hq => ?_)
    · obtain ⟨t1, hoe⟩ := M.obj
      obtain ⟨G, g1, g2⟩ := restrict h' fun b => decide (b ≠ e)
      have there : ∀ b, b ≠ e → G.get? b = h'.get? b := fun b hb => g1 b (decide_eq_true hb)
      have gone' : G.get? e = none := g2 e (by simp)
      have old : ∀ b o, s1.heap.get? b = some o → G.get? b = some o := fun b o z => (there b (Nat.ne_of_lt (Nat.lt_of_lt_of_le (Heap.lt_size z) M.new))).trans (M.keep b o z)
      have xd : ObjOk X.prog X.w (upd H1 d (.xd [(f, v)])) G d (.xd [(f, v)]) := by
        refine ⟨_, M.ns.at (fun o z => (there d M.dne).trans z), fun g => ?_⟩
        rw [lookup_put]
        by_cases hgf : g = f
        · rw [if_pos hgf, if_pos hgf]
          exact rv
        · rw [if_neg hgf, if_neg hgf]
          trivial
      have J : Inv X pins σ (upd H1 d (.xd [(f, v)])) { s1 with heap := G, toks := tk } := I1.laid (t' := tk) old M.dbig xd
      refine ⟨e, _, _, { s1 with heap := G, toks := tk }, _, .ref C, some d, rfl, J, fun b o z => ?_, gone', hoe, ⟨rfl, rfl⟩, rfl, rfl, ?_, rfl, I1.bare, raises_own T.exC T.tyC, q1 d (I1.hok.fresh M.dbig)⟩
      · by_cases hb : b = e
        · rw [hb] at z
          cases gone'.symm.trans z
        · exact (there b hb).symm.trans z
      · rw [upd_ne M.dne.symm]
        exact I1.hok.fresh M.new
    · cases r with
      | error er => exact hq
      | ok fl => cases fl <;> first | exact hq | exact hq.elim
/-- a whole number's own text, wherever it is asked -/
def FVi (v : V) (_ : Hp) : Prop := ∃ i : Int, v = .int i ∧ i.natAbs.log2 < 1920 ∧ ((toString i : String) : Str).length ≤ 4000
theorem texts_i : Texts X FVi := by
  refine ⟨fun _ => True, 4000, by decide, fun _ _ _ => trivial, fun pins σ H s v u h0 I rv ⟨i, ev, hi, hl⟩ hk => ?_⟩
  subst ev
  obtain ⟨t, rfl⟩ := rv
  intro A E s1 Q _ hk0 hq
  exact wpAny_formatField_int hi (hq _ _ s1.heap _ hl fun _ _ e => e)
/-- e.f in an except suite, e the error at a of the class at C (its own dict d told) -/
def tNearX (C : Addr) (f : Str) (a : Addr) (cls : Value) (d : Option Addr) (te : TE) : TE := fun σ H Q => te σ H fun x H1 => x = .ref a ∧ cls = .ref C ∧ ∃ (dd : Addr) (fs : List (Str × V)) (v : V), d = some dd ∧ H1 dd = some (.xd fs) ∧ fs.lookup f = some v ∧ Q v H1
theorem pe_nearX {a : Addr} {oe : Obj} {cls : Value} {d : Option Addr} {pn : List (Addr × Obj)} {e : Expr} {te : TE} {pos : Pos} (T : FldC X.K C f) (hz : Zc cls d oe) (hf : ∃ vs, oe.data = .fields vs) (he : PE (X.suite a ((a, oe) :: pn)) e te)
    (hb : attributeBase e f X.env (eval e X.env) = eval e X.env := by rfl) : PE (X.suite a ((a, oe) :: pn)) (.Attribute e f pos) (tNearX C f a cls d te) := by
  refine ⟨fun pins s σ H Q I h => ?_⟩
  refine attr_of hb (thn (he.run pins s σ H _ I h) fun u s1 hh => ?_)
  obtain ⟨x, H1, I1, rx, ex, ec, dd, fs, v, ed, ea, l, q⟩ := hh
  subst ex ec ed
  obtain rfl : u = Value.ref a := rx
  obtain ⟨ha, _⟩ := I1.pin (a, oe) (List.mem_append_left _ List.mem_cons_self)
  obtain ⟨vs, hd⟩ := hf
  obtain ⟨mA, hns, hr⟩ := I1.hok dd _ ea
  obtain ⟨od, ho, hl⟩ := lookIn_ns hns
  obtain ⟨w, hw, rw'⟩ := RelO.some_of (v := v) (o := mA f) (by rw [← l]; exact hr f)
  have J : PySem.W.InstAt s1.heap a oe C (some od) := ⟨ha, hz.1, by unfold PySem.W.notCls; rw [hd] <;> rfl, by rw [hz.2]; exact ho⟩
  exact HandSPX.exc_get I1.kIn J T.ga T.gg T.exC (PySem.W.findObj_own T.hdC T.noN rfl (by rw [hl, hw])) (handed_of rw') ⟨v, H1, I1.tok _, rw', q⟩
end
end L2
set_option Elab.async false
set_option linter.all false
set_option maxRecDepth 100000
set_option maxHeartbeats 4000000
/-! isinstance of data; whole numbers within bounds, rows. -/
namespace L2
open PySem PySem.Spec PyProof.Rows
/-- the name of a datum's type -/
def tyN : PyData → String
  | .none => "NoneType"
  | .bool _ => "bool"
  | .int _ => "int"
  | .str _ => "str"
  | .list _ => "list"
  | .tuple _ => "tuple"
  | .dict _ => "dict"
theorem Dp.ty {K : PySem.W.Frag} {H : Hp} {v : V} {d : PyData} (h : Dp K H v d) : TyX K H v (.type (tyN d)) := by
  cases h with
  | non => exact .base .non
  | bl b => exact .base (.bl b)
  | int i => exact .base (.int i)
  | str x => exact .base (.str x)
  | lst h1 h2 =>
    rcases h1 with (h1 | ⟨o, h1⟩) | ⟨o, its, n, e, c, _⟩
    · exact .base (.lst h1)
    · exact .base (.frz h1)
    · exact .kList e c
  | tup h1 h2 =>
    rcases h1 with (h1 | ⟨o, h1⟩) | ⟨o, its, n, e, c, _⟩
    · exact .base (.tup h1)
    · exact .fTuple h1
    · exact .kTuple e c
def isInt : PyData → Bool
  | .int _ => true
  | .bool _ => true
  | _ => false
def isBool : PyData → Bool
  | .bool _ => true
  | _ => false
def isTup : PyData → Bool
  | .tuple _ => true
  | _ => false
def isLst : PyData → Bool
  | .list _ => true
  | _ => false
/-- isinstance(x, T), x data: the answer ans d -/
def rIsD (K : PySem.W.Frag) (n : String) (ans : PyData → Bool) : List V → Hp → VK → Prop := fun xs H Q => ∃ (x : V) (d : PyData), xs = [x, .ty n] ∧ Dp K H x d ∧ Q (.bl (ans d)) H
section
variable {X : Cx}
theorem call_isD {n : String} {ans : PyData → Bool} (h : ∀ d, (∀ kvs, d ≠ .dict kvs) → kitB (tyN d) n = some (ans d)) : CallR X (.builtin "isinstance") (rIsD X.K n ans) := by
  intro pins s σ H xs us Q I r hh
  obtain ⟨x, d, rfl, hd, q⟩ := hh
  exact call_isi pins s σ H _ us Q I r ⟨x, .ty n, _, .type n, ans d, rfl, .ty n, hd.ty, kit_ty (h d fun kvs z => by subst z; cases hd), q⟩
theorem is_int : CallR X (.builtin "isinstance") (rIsD X.K "int" isInt) := call_isD fun d hd => by
  cases d <;> first | exact absurd rfl (hd _) | (simp only [tyN, isInt]; decide +kernel)
theorem is_bool : CallR X (.builtin "isinstance") (rIsD X.K "bool" isBool) := call_isD fun d hd => by
  cases d <;> first | exact absurd rfl (hd _) | (simp only [tyN, isBool]; decide +kernel)
theorem is_tuple : CallR X (.builtin "isinstance") (rIsD X.K "tuple" isTup) := call_isD fun d hd => by
  cases d <;> first | exact absurd rfl (hd _) | (simp only [tyN, isTup]; decide +kernel)
theorem is_list : CallR X (.builtin "isinstance") (rIsD X.K "list" isLst) := call_isD fun d hd => by
  cases d <;> first | exact absurd rfl (hd _) | (simp only [tyN, isLst]; decide +kernel)
end
/-- a whole number from lo to hi -/
def inB (lo hi : Int) : PyData → Bool
  | .int i => decide (lo ≤ i) && decide (i ≤ hi)
  | _ => false
/-- a tuple of r values of a width -/
def isRow (w r : Int) : PyData → Bool
  | .tuple ds => decide ((ds.length : Int) = r) && ds.all (inB 0 (w - 1))
  | _ => false
end L2
set_option Elab.async false
set_option linter.all false
set_option maxRecDepth 100000
set_option maxHeartbeats 4000000
/-! try with several clauses, some with a name and some without. -/
namespace L2
open PySem PySem.Spec PyProof.Rows
abbrev Suite := Addr → Value → Option Addr → TS
/-- a clause's name, if it has one, is gone behind its suite -/
def gone (oi : Option Nat) (D : Ends) : Ends := match oi with
  | none => D
  | some i => { nx := fun σ H => D.nx (σ.set i none) H, rt := D.rt, bk := fun σ H => D.bk (σ.set i none) H, ct := fun σ H => D.ct (σ.set i none) H }
def held (oi : Option Nat) (σ : L2.St) (a : Addr) : L2.St := match oi with
  | none => σ
  | some i => σ.set i (some (.ref a))
def wMix (K : PySem.W.Frag) (Wout : WX) (D : Ends) : List (Value × Option Nat × Suite) → WX
  | [] => Wout
  | (c, oi, ts) :: r => fun cls d σ H => ∃ b, PySem.W.exmOne K cls c = some b ∧ (b = true → ∀ a, H a = none → ts a cls d (gone oi D) (held oi σ a) H) ∧ (b = false → wMix K Wout D r cls d σ H)
/-- the clause's name on and the slot oi belong together -/
def NameSlot (X : Cx) (on : Option Str) (oi : Option Nat) : Prop := (on = none ∧ oi = none) ∨ ∃ n i, on = some n ∧ oi = some i ∧ X.N[i]? = some n ∧ X.env.kindOf n = some .local
inductive Clauses (X : Cx) : List ExceptHandler → List (Value × Option Nat × Suite) → Prop
  | nil : Clauses X [] []
  | cons {x : Str} {c : Value} {on : Option Str} {oi : Option Nat} {ts : Suite} {b₀ : Stmt} {suite : List Stmt} {np pos' : Pos} {hds : List ExceptHandler} {l : List (Value × Option Nat × Suite)} (hc : Names X x c) (hn : NameSlot X on oi)
      (hsu : ∀ (a : Addr) (oe : Obj) (cls : Value) (d : Option Addr) (pn : List (Addr × Obj)), Zc cls d oe → (∃ vs, oe.data = .fields vs) → PSs (X.suite a ((a, oe) :: pn)) (b₀ :: suite) (ts a cls d)) (r : Clauses X hds l) :
      Clauses X (.ExceptHandler (some (.Name x np)) on (b₀ :: suite) pos' :: hds) ((c, oi, ts) :: l)
section
variable {X : Cx} {pins : List (Addr × Obj)} {σ : L2.St} {H : Hp} {s : Shared} {D : Ends}
/-- a suite's end, seen from outside of the try -/
theorem SP.out {a : Addr} {q : Addr × Obj} {fl : Flow} (ok : X.Ok) (h : SP (X.suite a (q :: (X.pn ++ pins))) [] D fl s) : SP X pins D fl s := by
  cases fl with
  | ret u =>
    obtain ⟨v, σ', H', J, r, w⟩ := h
    exact ⟨v, σ', H', J.unsuite ok, r, w⟩
  | next => obtain ⟨σ', H', J, w⟩ := h; exact ⟨σ', H', J.unsuite ok, w⟩
  | brk => obtain ⟨σ', H', J, w⟩ := h; exact ⟨σ', H', J.unsuite ok, w⟩
  | cont => obtain ⟨σ', H', J, w⟩ := h; exact ⟨σ', H', J.unsuite ok, w⟩
variable {body : List Stmt} {h₀ : ExceptHandler} {hds : List ExceptHandler} {l : List (Value × Option Nat × Suite)} {pos : Pos} {tb : WX → TS} {Wout : WX}
theorem ps_try_mix (hs : X.stack = X.env :: X.outer) (hf : X.env.frame = some X.env.locals) (hN : X.N.Nodup) (tk : Takes X Wout)
    (hb : ∀ (W : WX) (pn : List (Addr × Obj)) (xe : Value → Shared → Prop), Takes (X.tr pn xe) W → PassesOwn (model X.prog X.w) X.A X.env xe → PSs (X.tr pn xe) body (tb W))
    (hh : Clauses X (h₀ :: hds) l) : PS X (.Try body (h₀ :: hds) [] [] pos) (fun D σ H => tb (wMix X.K Wout D l) D σ H) := by
  constructor
  intro pins s σ H D I h
  have ok := I.ok
  have around : X.A.frames = some (X.env :: X.outer) := ok.frames.trans (congrArg some hs)
  refine wpAny_Try_except (wpAny_mono ((hb (wMix X.K Wout D l) (X.pn ++ pins) (fun e s₁ => wpAny (model X.prog X.w) X.A (noteFrame e X.env) (fun _ s₂ => wpAny (model X.prog X.w) X.A (setFlight e none) (fun _ s₃ =>
    wpAny (model X.prog X.w) X.A (handleBy e X.env (h₀ :: hds)) (SP X pins D) X.xe s₃) X.xe s₂) X.xe s₁) ?caught PassesOwn.looking).run [] s σ H D (I.toTry _) h) ?through fun _ _ he => he)
  case through =>
    intro fl s1 q
    cases fl with
    | next => obtain ⟨σ1, H1, J, w⟩ := q; exact wpAny_execs_nil ⟨σ1, H1, J.ofTry ok, w⟩
    | brk => obtain ⟨σ1, H1, J, w⟩ := q; exact ⟨σ1, H1, J.ofTry ok, w⟩
    | cont => obtain ⟨σ1, H1, J, w⟩ := q; exact ⟨σ1, H1, J.ofTry ok, w⟩
    | ret u => obtain ⟨v, σ1, H1, J, r, w⟩ := q; exact ⟨v, σ1, H1, J.ofTry ok, r, w⟩
  case caught =>
    rintro u s1 ⟨a, B, sI, pinsI, σ1, H1, cls, d, rfl, JI, nb, up, sky, na, os, ag, w⟩
    have J : Inv X pins σ1 H1 sI := JI.ofTry ok
    refine Sky.land Zc.steady around hf (hs ▸ sky) fun hL fl upL => ?_
    have JL : Inv X pins σ1 H1 { s1 with heap := hL } := J.landed nb fl.1 (up.trans upL) os ag
    obtain ⟨oe, vs, he, hz, hd⟩ := fl.there
    have apart : a ∉ frs (X.env :: X.outer) := fun hm => by
      obtain ⟨_, o', e', no⟩ := fl.2.2.1.mem hm
      cases he.symm.trans e'
      exact no _ hd
    have aL : a ≠ X.env.locals := fun z => apart (List.mem_filterMap.mpr ⟨X.env, List.mem_cons_self, by rw [hf, z]⟩)
    have aF : a ∉ X.fs := fun hm => by
      obtain ⟨e, e1, e2⟩ := List.mem_filterMap.mp hm
      exact apart (List.mem_filterMap.mpr ⟨e, List.mem_cons_of_mem _ e1, e2⟩)
    have SL := JL.suite he hd na aL aF
    suffices go : ∀ {hs' : List ExceptHandler} {l' : List (Value × Option Nat × Suite)}, Clauses X hs' l' → wMix X.K Wout D l' cls d σ1 H1 → wpAny (model X.prog X.w) X.A (handleBy (.ref a) X.env hs') (SP X pins D) X.xe { s1 with heap := hL } from go hh w
    intro hs' l' hk
    induction hk with
    | nil =>
      intro w
      refine wpAny_handleBy_nil ?_
      obtain ⟨_, _, _, oe', vs', T, _, _, he', _, hd', first', _⟩ := id fl
      unfold PySem.passOn
      refine wpAny_bind (wpAny_field he' hd' first' ?_)
      rw [if_neg (show ¬ ((Value.ref T == Value.none) = true) from by simp)]
      have leave : wpAny (model X.prog X.w) X.A (setFlight (.ref a) X.env.frame) (fun _ s4 => wpAny (model X.prog X.w) X.A (throw (.ref a) : Sem Flow) (SP X pins D) X.xe s4) X.xe { s1 with heap := hL } := by
        rw [hf]
        exact HandSPX.setFlight_upZ fl fun h4 sky4 up4 => wpAny_throw (tk _ _ ⟨a, B, sI, pins, σ1, H1, cls, d, rfl, J, nb, (up.trans upL).trans up4, .inr (.inr (by rw [hs]; exact sky4)), na, os, ag, w⟩)
      first
        | exact wpAny_bind (wpAny_pure (wpAny_bind leave))
        | exact wpAny_bind leave
    | @cons x c on oi ts b₀ suite np pos' hds2 l2 hc hn hsu r ih =>
      rintro ⟨b, is, yes, no⟩
      refine wpAny_handleBy_cons (codeAny_handlers_test ?_) (by intro q; cases q)
      have ty : PySem.W.Looks (model X.prog X.w) hL (typeOf (.ref a)) cls := fun A Q E s k q => wpAny_typeOf_ref (k _ _ he) (by rw [hz.1]; exact q)
      have isIt := PySem.W.exm_one (M := model X.prog X.w) JL.kIn ty is
      have named : ∀ {Q : Value → Shared → Prop} {E : Value → Shared → Prop}, Q c { s1 with heap := hL } → wpAny (model X.prog X.w) (X.A.mark (some (.ref a))) (eval (.Name x np) X.env) Q E { s1 with heap := hL } := by
        intro Q E q
        obtain ⟨g, db, m | ⟨m, v, n⟩⟩ := hc
        · exact ld_glob (X := X.suite a ((a, oe) :: (X.pn ++ pins))) SL g m q db
        · exact ld_blt (X := X.suite a ((a, oe) :: (X.pn ++ pins))) SL g m v q n db
      refine named (isIt.here ?_)
      cases b with
      | false => exact ih (no rfl)
      | true =>
        have told := yes rfl a na
        rcases hn with ⟨rfl, rfl⟩ | ⟨n, i, rfl, rfl, hi, hln⟩
        · refine codeAny_handlers_suite (HandSPX.lands_againZ fl fun h4 fl4 up4 => ?_)
          obtain ⟨oe4, vs4, he4, hz4, hd4⟩ := fl4.there
          have J4 : Inv X pins σ1 H1 { s1 with heap := h4 } := J.landed nb fl4.1 ((up.trans upL).trans up4) os ag
          have S4 := J4.suite he4 hd4 na aL aF
          exact wpAny_mono ((hsu a oe4 cls d (X.pn ++ pins) hz4 ⟨_, hd4⟩).run [] _ _ H1 _ S4 told) (fun f s6 q => SP.out ok q) fun _ _ z => z.elim
        · refine codeAny_handlers_suite_as (HandSPX.lands_againZ fl fun h4 fl4 up4 => ?_)
          obtain ⟨oe4, vs4, he4, hz4, hd4⟩ := fl4.there
          have J4 : Inv X pins σ1 H1 { s1 with heap := h4 } := J.landed nb fl4.1 ((up.trans upL).trans up4) os ag
          have S4 := J4.suite he4 hd4 na aL aF
          refine store_ok (X := X.suite a ((a, oe4) :: (X.pn ++ pins))) (v := .ref a) S4 hN hi (.inl hln) rfl (fun s5 S5 => ?_) (.inr hln)
          refine wpAny_mono ((hsu a oe4 cls d (X.pn ++ pins) hz4 ⟨_, hd4⟩).run [] s5 _ H1 _ S5 told) (fun f s6 q => ?_) fun _ _ z => z.elim
          have q' := SP.out ok q
          cases f with
          | next => obtain ⟨σ6, H6, J6, w6⟩ := q'; exact gone_ok J6 hN hi hln fun s7 J7 => ⟨_, _, J7, w6⟩
          | brk => obtain ⟨σ6, H6, J6, w6⟩ := q'; exact gone_ok J6 hN hi hln fun s7 J7 => ⟨_, _, J7, w6⟩
          | cont => obtain ⟨σ6, H6, J6, w6⟩ := q'; exact gone_ok J6 hN hi hln fun s7 J7 => ⟨_, _, J7, w6⟩
          | ret u => obtain ⟨v6, σ6, H6, J6, r6, w6⟩ := q'; exact gone_ok J6 hN hi hln fun s7 J7 => ⟨_, _, _, J7, r6, w6⟩
end
end L2
set_option Elab.async false
set_option linter.all false
set_option maxRecDepth 100000
set_option maxHeartbeats 4000000
/-! The end of a law whose promise is an FnG: the law is called where no repr is under way. -/
namespace L2
open PySem PySem.Spec PyProof.Rows
section
variable {P : Program} {w : World} {K : PySem.W.Frag} {mg mb : Str → Option Value} {CX : CXT} {k : Nat} {fa a : Addr} {fd : FuncData} {x : Str} {sp : Sp} {s₁ : Shared} {vs : List Value} {ns : List Int}
/-- what the caller of the law finds behind the call -/
def LawEnd (s₁ : Shared) : Result → Shared → Prop := fun r s' => r = .ok (.ret (.bool true)) ∧ OldK s₁.heap s'.heap ∧ s'.os = s₁.os ∧ AllBare s'.gens
/-- from a heap H in which at most the script is told, and that as a thing that is only read -/
theorem law_goG {H : Hp} (KX : K.In s₁.heap) (hns : s₁.heap.Ns mainGlobals mg) (hb : s₁.heap.Ns builtinsNs mb) (hbb : ∀ x : Str, x ≠ "__name__" → mb x = bootBuiltins x) (hlim : s₁.heap.NoLimit) (hg : s₁.gens = #[])
    (ho : ∀ b o, H b = some o → b = a ∧ K.lookup a = none ∧ ∃ ob xs, o = .frz ob (.lst xs)) (hl : ∀ es ep, ∀ o, s₁.heap.get? a = some o → o.data ≠ .dict es ep) (hok : HOk P w H s₁.heap) (hr : Room k callerA)
    (F : ∀ base : Heap, K.In base → base.Ns mainGlobals mg → FnG P w K mg base CX k fa fd [x] sp) (hbind : ∀ (s : Shared) (u : Value), BindsTo s fd ⟨[u], []⟩ [(x, u)])
    (hsp : sp [.ref a] H (fun v _ => v = .bl true) fun _ _ _ => False) (hCX : ∀ e s', CX [] H s₁ (fun _ _ _ => False) e s' → False) :
    codeAny (model P w) callerA (.call (.ref fa) ⟨[.ref a], []⟩) (LawEnd s₁) s₁ := by
  have free : ∀ {b : Addr} {o : Obj}, s₁.heap.get? b = some o → (b = a → False) → H b = none := fun {b o} _ hb => by
    cases q : H b with
    | none => rfl
    | some u => exact (hb (ho b u q).1).elim
  have hid : ∀ {b : Addr} {m : Str → Option Value}, s₁.heap.Ns b m → (hidT s₁.heap H).Ns b m := by
    rintro b m ⟨o, es, ep, e, d, r⟩
    exact ⟨o, es, ep, hidT_get e (free e fun z => hl es ep o (z ▸ e) d), d, r⟩
  have hK : K.In (hidT s₁.heap H) := fun b o e => by
    refine hidT_get (KX b o e) ?_
    cases q : H b with
    | none => rfl
    | some u =>
      obtain ⟨z, n, _⟩ := ho b u q
      rw [z, n] at e
      cases e
  have M : Mod K mg (hidT s₁.heap H) := ⟨hK, hid hns, ⟨mb, hid hb, hbb⟩, let ⟨mc, h1, h2⟩ := hlim; ⟨mc, hid h1, h2⟩⟩
  have e0 : Env0 P w K mg (hidT s₁.heap H) callerA [] s₁ H :=
    ⟨rfl, M, fun b o e => of_hidT e, Nat.le_of_eq (hidT_size _ _), trivial, (fun b z => absurd (show b ∈ ([] : List Addr) from z) (by simp)), hok, .of_eq hg⟩
  refine codeAny_mono ((F _ hK (hid hns)).go callerA rfl [] s₁ H ⟨[.ref a], []⟩ [.ref a] [.ref a] _ _ hr e0 (hbind s₁ (.ref a)) (.cons rfl .nil) hsp) fun r s' h => ?_
  match r, h with
  | .error e, h => exact (hCX e s' h).elim
  | .ok (.ret u), ⟨v, H', os, bare, un, hok', rv, q⟩ =>
    cases q
    cases rv
    refine ⟨rfl, .of_keep fun b o e => ?_, os, bare⟩
    cases q : H b with
    | none => exact un.keep b o e q (by intro z; exact absurd (show b ∈ ([] : List Addr) from z) (by simp)) (by simp)
    | some u =>
      obtain ⟨_, _, ob, xs, rfl⟩ := ho b u q
      obtain ⟨e1, _⟩ := hok b _ q
      obtain ⟨e2, _⟩ := hok' b _ (un.frzs b ob _ q)
      rw [e] at e1
      cases e1
      exact e2
end
theorem walk_ofG {l : PySem.W.OpenLaw} {n k : Nat} {q : Program} {loose : List Str} {XP : (Str → Option Value) → Heap → Prop} {YP : World → Heap → Prop} {d : DefRec} {K : Params → PySem.W.Frag} {sp : PySem.W.Frag → Sp} {x : Str}
    (hn : l.most = some n) (hn2 : n ≤ sizeLine) (hdf : d.params.defaults = []) (hr : Room k callerA) (hY : ∀ (w : World) (h : Heap), YP w h → (K w.params).In h)
    (F : ∀ (w : World) (mg : Str → Option Value) (fa : Addr) (h : Heap), (K w.params).In h → h.Ns mainGlobals mg → mg d.name = some (.ref fa) →
      ∃ fd : FuncData, (∀ (s : Shared) (u : Value), BindsTo s fd ⟨[u], []⟩ [(x, u)]) ∧ ∀ base : Heap, (K w.params).In base → base.Ns mainGlobals mg → FnG l.prog w (K w.params) mg base CX0 k fa fd [x] (sp (K w.params)))
    (hsp : ∀ (K : PySem.W.Frag) (H : Hp) (a : Addr) (ns : List Int), ns.length ≤ n → SqL K H a (ns.map V.int) → sp K [.ref a] H (fun v _ => v = .bl true) fun _ _ _ => False) :
    PySem.W.WalkO q loose XP YP l.row.toRowW d [] (fun f vs => PySem.call f vs) := by
  refine Att.attach_call hn hdf fun w s₀ s₁ mg mb fa o pm cd doc a vs ns G Y ho hd hcd hmg hobj hints hlen hg => ?_
  have KX := hY w _ Y
  obtain ⟨fd, hb, hF⟩ := F w mg fa _ KX G.T.g hmg
  have rv := vals_ints hints
  have lv : vs.length = ns.length := hints.length
  have hsz : ns.length ≤ sizeLine := Nat.le_trans hlen hn2
  have nod : ∀ es ep, ∀ o, s₁.heap.get? a = some o → o.data ≠ .dict es ep := by
    rintro es ep o e
    rw [hobj] at e
    cases e
    intro z
    cases z
  cases hk : (K w.params).lookup a with
  | some o =>
    have e : (some o : Option Obj) = _ := (KX a o hk).symm.trans hobj
    cases e
    exact law_goG (H := fun _ => none) KX G.T.g G.T.b G.T.builtins G.T.nolimit hg (fun b o z => by cases z) nod (fun b o z => by cases z) hr hF hb
      (hsp _ _ a ns hlen (.inr ⟨_, vs.toArray, _, hk, rfl, rfl, rfl, by rw [List.size_toArray, lv]; exact hsz, by simpa using rv⟩)) fun e s' z => z.elim
  | none =>
    refine law_goG (H := fun b => if b = a then some (.frz { cls := .type "list", data := .seq vs.toArray } (.lst (ns.map V.int))) else none) KX G.T.g G.T.b G.T.builtins G.T.nolimit hg (fun b o z => ?_) nod (fun b o z => ?_) hr hF hb
      (hsp _ _ a ns hlen (.inl (.inr ⟨_, if_pos rfl⟩))) fun e s' z => z.elim
    · by_cases h : b = a
      · have z' := (if_pos h).symm.trans z
        cases z'
        exact ⟨h, hk, _, _, rfl⟩
      · have z' := (if_neg h).symm.trans z
        cases z'
    · by_cases h : b = a
      · have z' := (if_pos h).symm.trans z
        cases z'
        subst h
        exact ⟨hobj, by rw [List.length_map]; exact hsz, vs, _, rv, hobj⟩
      · have z' := (if_neg h).symm.trans z
        cases z'
end L2
set_option Elab.async false
set_option linter.all false
set_option maxRecDepth 100000
set_option maxHeartbeats 4000000
/-! len(t), x in t, t == x, t != x by the own __len__, __contains__, __eq__ of t's class: what they promise. -/
namespace L2
open PySem PySem.Spec PyProof.Rows
/-- the class at C has the def at f as its name -/
structure Has (K : PySem.W.Frag) (C : Addr) (name : Str) (f : Addr) (fd : FuncData) (ps : List Str) : Prop where
  at_ : PySem.W.findIn K (.ref C) name = some (some (.ref f))
  fn : PySem.W.isFn K (.ref f) = true
  b : Binds K fd ps []
section
variable {M : Model} {A : Around} {E : Value → Shared → Prop} {s : Shared} {K : PySem.W.Frag} {x C f : Addr} {ox : Obj} {od : Option Obj} {name : Str}
theorem own_special {args : List Value} {Q : Option Value → Shared → Prop} (X : K.In s.heap) (I : PySem.W.InstAt s.heap x ox C od) (hs : PySem.W.findIn K (.ref C) name = some (some (.ref f))) (hf : PySem.W.isFn K (.ref f) = true)
    (h : wpAny M A (call (.ref f) (.ref x :: args)) (fun v => Q (some v)) E s) : wpAny M A (callSpecial? (.ref x) name args) Q E s := by
  unfold callSpecial? specialOf
  refine wpAny_bind (wpAny_bind (I.type.here ((PySem.W.looks_findIn X hs).here ?_)))
  refine wpAny_holding ?_
  refine wpAny_bind ((PySem.W.bind_fn X _ (beq_iff_eq.mp hf)).here ?_)
  exact wpAny_bind (wpAny_mono h (fun v s' z => wpAny_pure z) fun _ _ z => z)
theorem own_special_none {args : List Value} {no : Sem Value} {Q : Option Value → Shared → Prop} (X : K.In s.heap) (I : PySem.W.InstAt s.heap x ox C od) (hs : PySem.W.findIn K (.ref C) name = some (some (.ref f))) (hf : PySem.W.isFn K (.ref f) = true)
    (h : wpAny M A (call (.ref f) (.ref x :: args)) (fun v => Q (some v)) E s) : wpAny M A (callSpecialUnlessNone? (.ref x) name args no) Q E s := by
  unfold callSpecialUnlessNone? specialOf
  refine wpAny_bind (wpAny_bind (I.type.here ((PySem.W.looks_findIn X hs).here ?_)))
  refine wpAny_holding ?_
  refine wpAny_bind ((PySem.W.bind_fn X _ (beq_iff_eq.mp hf)).here ?_)
  show wpAny _ _ (if (Value.ref f == Value.none) = true then _ else _) _ _ _
  rw [if_neg (show ¬ ((Value.ref f == Value.none) = true) from by simp)]
  exact wpAny_bind (wpAny_mono h (fun v s' z => wpAny_pure z) fun _ _ z => z)
end
section
variable {X : Cx} {CX : CXT} {k : Nat} {C f : Addr} {fd : FuncData} {ps : List Str} {sp : Sp} {E : XK}
theorem relRef (a : Addr) : RelV (.ref a) (.ref a) := rfl
/-- the def runs, called from below the running body -/
theorem run_at {pins : List (Addr × Obj)} {σ : St} {H : Hp} {s : Shared} {Q : VK} {us : List Value} {vs : List V} {A : Around} (F : FnOk X.prog X.w X.K X.mg X.base CX k f fd ps sp) (hr : Room k A) (hfr : A.frames = X.A.frames) (hb : Binds X.K fd ps []) (hx : Passes CX X E)
    (I : Inv X pins σ H s) (r : Vals vs us) (h : sp vs H Q E) : wpAny (model X.prog X.w) A (call (.ref f) us) (EP X pins σ Q) X.xe s := by
  have e0 : Env0 X.prog X.w X.K X.mg X.base A X.stack s H := by
    have e := I.env0
    exact ⟨by rw [hfr]; exact e.frames, e.mod, e.bs, e.bsz, e.funs, e.frf, e.hok, e.bare⟩
  have hl : (us ++ []).length = ps.length := by rw [List.append_nil, ← r.length]; exact F.len _ _ _ _ h
  refine wpAny_call (codeAny_mono (F.run A X.stack s H ⟨us, []⟩ us vs Q E hr e0 (by
    have := hb s us I.kIn hl
    rwa [List.append_nil] at this) r h) fun q s' hq => ?_)
  cases q with
  | error e => exact hx pins σ H s e s' I hq
  | ok fl =>
    cases fl with
    | ret u => exact I.after hq
    | next => exact False.elim hq
    | brk => exact False.elim hq
    | cont => exact False.elim hq
/-- len(t) -/
def rLenO (C : Addr) (sp : Sp) (E : XK) : List V → Hp → VK → Prop := fun xs H Q => ∃ (a dx : Addr) (fs : List (Str × V)), xs = [.ref a] ∧ H a = some (.ins C dx fs) ∧ sp [.ref a] H (fun v H' => ∃ n : Nat, v = .int n ∧ n ≤ sizeLine ∧ Q (.int n) H') E
theorem call_lenO (F : FnOk X.prog X.w X.K X.mg X.base CX k f fd ps sp) (hr : Room (k + 1) X.A) (h : Has X.K C "__len__" f fd ps) (hx : Passes CX X E) : CallR X (.builtin "len") (rLenO C sp E) := by
  intro pins s σ H xs us Q I r hh
  obtain ⟨a, dx, fs, rfl, ea, q⟩ := hh
  cases r with
  | @cons _ u _ us' rv rn =>
  cases rn
  obtain rfl : u = Value.ref a := rv
  obtain ⟨mA, O, _⟩ := ins_get I.hok ea
  obtain ⟨od, J, _⟩ := O.look
  refine Calls.call_function_entry kind_len plain_len entry_len (args_len1 _) ?_
  unfold Builtin.«len»
  refine wpAny_bind (m := oneArg "len" _) (wpAny_pure ?_)
  refine wpAny_bind (m := callSpecial? (.ref a) (Str.ofString "__len__")) (own_special I.kIn J h.at_ h.fn (wpAny_mono (run_at F hr.in1 rfl h.b hx I (.cons (relRef a) .nil) q) (fun v s' hv => ?_) fun _ _ z => z))
  obtain ⟨x, H', I', rx, n, ex, hn, qn⟩ := hv
  subst ex
  obtain ⟨t, rfl⟩ := rx
  rw [sizeLine_eq] at hn
  refine wpAny_bind (wpAny_holding (wpAny_pure ?_))
  refine wpAny_bind (wpAny_letGo ?_)
  show wpAny _ _ (if ((n : Nat) : Int) < 0 then _ else _) _ _ _
  rw [if_neg (by omega)]
  show wpAny _ _ (if ((n : Nat) : Int) ≥ 2 ^ 63 then _ else _) _ _ _
  rw [if_neg (by omega)]
  exact wpAny_bind (wpAny_mkInt (wpAny_pure ⟨_, rfl, .int n, H', I'.tok _, ⟨_, rfl⟩, qn⟩))
/-- x in t -/
def rInO (C : Addr) (sp : Sp) (E : XK) (g : Bool → Bool) : R2 := fun x y H Q => ∃ (a dx : Addr) (fs : List (Str × V)), y = .ref a ∧ H a = some (.ins C dx fs) ∧ sp [.ref a, x] H (fun v H' => ∃ b, v = .bl b ∧ Q (.bl (g b)) H') E
theorem containsO (F : FnOk X.prog X.w X.K X.mg X.base CX k f fd ps sp) (hr : Room k X.A) (h : Has X.K C "__contains__" f fd ps) (hx : Passes CX X E) {pins : List (Addr × Obj)} {σ : St} {H : Hp} {s : Shared} {x : V} {u : Value} {a dx : Addr} {fs : List (Str × V)} {Q : Bool → Shared → Prop}
    (I : Inv X pins σ H s) (rx : RelV x u) (ea : H a = some (.ins C dx fs)) (q : sp [.ref a, x] H (fun v H' => ∃ b, v = .bl b ∧ ∀ s', Inv X pins σ H' s' → Q b s') E) : wpAny (model X.prog X.w) X.A (contains (.ref a) u) Q X.xe s := by
  obtain ⟨mA, O, _⟩ := ins_get I.hok ea
  obtain ⟨od, J, _⟩ := O.look
  unfold contains
  refine wpAny_holding ?_
  have hst : stdlibNamesSay? (.ref a) u = none := by
    cases u <;> rfl
  rw [hst]
  show wpAny _ _ (specialOf (.ref a) "__contains__" >>= _) _ _ s
  refine wpAny_bind ?_
  unfold specialOf
  refine wpAny_bind (J.type.here ((PySem.W.looks_findIn I.kIn h.at_).here ?_))
  show wpAny _ _ (if (some (Value.ref f) == some Value.none) = true then _ else _) _ _ _
  rw [if_neg (show ¬ ((some (Value.ref f) == some Value.none) = true) from by simp)]
  refine wpAny_bind (own_special_none I.kIn J h.at_ h.fn (wpAny_mono (run_at F hr rfl h.b hx I (.cons (relRef a) (.cons rx .nil)) q) (fun v s' hv => ?_) fun _ _ z => z))
  obtain ⟨y, H', I', ry, b, ey, qb⟩ := hv
  subst ey
  cases (show v = Value.bool b from ry)
  exact wpAny_truthy_bool (qb s' I')
theorem op_inO (F : FnOk X.prog X.w X.K X.mg X.base CX k f fd ps sp) (hr : Room k X.A) (h : Has X.K C "__contains__" f fd ps) (hx : Passes CX X E) (mono : ∀ vs H (Q Q' : VK), (∀ v H', Q v H' → Q' v H') → sp vs H Q E → sp vs H Q' E) : OpR X (compareOp .In) (rInO C sp E id) := by
  intro pins s σ H x y v u Q I rx ry hh
  obtain ⟨a, dx, fs, rfl, ea, q⟩ := hh
  obtain rfl : u = Value.ref a := ry
  show wpAny _ _ (contains (.ref a) v >>= _) _ _ s
  refine wpAny_bind (containsO F hr h hx I rx ea (mono _ _ _ _ (fun v H' ⟨b, e, qb⟩ => ⟨b, e, fun s' I' => ?_⟩) q))
  exact wpAny_pure ⟨.bl b, H', I', rfl, qb⟩
theorem op_notinO (F : FnOk X.prog X.w X.K X.mg X.base CX k f fd ps sp) (hr : Room k X.A) (h : Has X.K C "__contains__" f fd ps) (hx : Passes CX X E) (mono : ∀ vs H (Q Q' : VK), (∀ v H', Q v H' → Q' v H') → sp vs H Q E → sp vs H Q' E) : OpR X (compareOp .NotIn) (rInO C sp E (!·)) := by
  intro pins s σ H x y v u Q I rx ry hh
  obtain ⟨a, dx, fs, rfl, ea, q⟩ := hh
  obtain rfl : u = Value.ref a := ry
  show wpAny _ _ (contains (.ref a) v >>= _) _ _ s
  refine wpAny_bind (containsO F hr h hx I rx ea (mono _ _ _ _ (fun v H' ⟨b, e, qb⟩ => ⟨b, e, fun s' I' => ?_⟩) q))
  exact wpAny_pure ⟨.bl (!b), H', I', rfl, qb⟩
/-- t == x, t != x -/
def rEqO (K : PySem.W.Frag) (C : Addr) (sp : Sp) (E : XK) (g : Bool → Bool) : R2 := fun x y H Q => ∃ (a dx : Addr) (fs : List (Str × V)) (ty : Value), x = .ref a ∧ H a = some (.ins C dx fs) ∧ TyX K H y ty ∧ PySem.W.notFirst K C ty = true ∧
  sp [.ref a, y] H (fun v H' => ∃ b, v = .bl b ∧ Q (.bl (g b)) H') E
theorem op_eqO (F : FnOk X.prog X.w X.K X.mg X.base CX k f fd ps sp) (hr : Room k X.A) (h : Has X.K C "__eq__" f fd ps) (hx : Passes CX X E) : OpR X (compareOp .Eq) (rEqO X.K C sp E id) := by
  intro pins s σ H x y v u Q I rx ry hh
  obtain ⟨a, dx, fs, ty, rfl, ea, hty, hn, q⟩ := hh
  obtain rfl : v = Value.ref a := rx
  obtain ⟨mA, O, _⟩ := ins_get I.hok ea
  obtain ⟨od, J, _⟩ := O.look
  obtain ⟨m, hF⟩ := I.fr
  obtain ⟨P, kx, hP, _⟩ := kit_of I ry hty
  show wpAny (model X.prog X.w) X.A (richCompare .Eq (.ref a) u) (EP X pins σ Q) X.xe s
  refine PySem.W.cmp_K (op := .Eq) (tb := ty) hr.units0 hF I.ok.mod.kin J (kx.ty _ _ I.kIn hP) hn h.at_ h.fn ?_
  refine wpAny_mono (run_at F hr rfl h.b hx I (.cons (relRef a) (.cons ry .nil)) q) (fun v s' hv => ?_) fun _ _ z => z
  obtain ⟨z, H', I', rz, b, ez, qb⟩ := hv
  subst ez
  cases (show v = Value.bool b from rz)
  exact ⟨.bl b, H', I', rfl, qb⟩
theorem op_neO (F : FnOk X.prog X.w X.K X.mg X.base CX k f fd ps sp) (hr : Room (k + 1) X.A) (h : Has X.K C "__eq__" f fd ps) (hne : PySem.W.findIn X.K (.ref C) "__ne__" = some (some (.builtin "object.__ne__"))) (hob : PySem.W.subIn X.K (.ref C) (.type "object") = some true) (hx : Passes CX X E) :
    OpR X (compareOp .NotEq) (rEqO X.K C sp E (!·)) := by
  intro pins s σ H x y v u Q I rx ry hh
  obtain ⟨a, dx, fs, ty, rfl, ea, hty, hn, q⟩ := hh
  obtain rfl : v = Value.ref a := rx
  obtain ⟨mA, O, _⟩ := ins_get I.hok ea
  obtain ⟨od, J, _⟩ := O.look
  obtain ⟨P, kx, hP, _⟩ := kit_of I ry hty
  have hb := kx.ty (model X.prog X.w) _ I.kIn hP
  show wpAny (model X.prog X.w) X.A (richCompare .NotEq (.ref a) u) (EP X pins σ Q) X.xe s
  have body : wpAny (model X.prog X.w) X.A.in1 (Builtin.«object.__ne__» ⟨[.ref a, u], []⟩) (fun fin s' => ∃ b, fin = .done (.ret (.bool (!b))) ∧ EP X pins σ Q (.bool (!b)) s') X.xe s := by
    unfold Builtin.«object.__ne__»
    refine wpAny_bind (m := slotArgs "__ne__" 1 _) (wpAny_pure ?_)
    show wpAny _ _ (cRoomFor "comparison" [.ref a, u] >>= _) _ _ s
    refine wpAny_bind (wpAny_cRoomFor hr.in1.units0 ?_)
    refine wpAny_bind (m := callSpecialIfBound? (.ref a) (Str.ofString "__eq__") [u]) (PySem.W.ifBound_K I.kIn J h.at_ h.fn (wpAny_mono (run_at F hr.in1 rfl h.b hx I (.cons (relRef a) (.cons ry .nil)) q) (fun v s' hv => ?_) fun _ _ z => z))
    obtain ⟨z, H', I', rz, b, ez, qb⟩ := hv
    subst ez
    cases (show v = Value.bool b from rz)
    refine wpAny_bind (wpAny_truthy_bool ?_)
    exact wpAny_pure ⟨b, rfl, .bl (!b), H', I', rfl, qb⟩
  have obj : wpAny (model X.prog X.w) X.A (call (.builtin "object.__ne__") [.ref a, u]) (fun v s' => ∃ b, v = .bool (!b) ∧ EP X pins σ Q (.bool (!b)) s') X.xe s := by
    refine wpAny_call (codeAny_call_builtin PySem.F.cmp_object.ne.plain PySem.F.cmpEntry_ne ?_)
    refine PySem.W.check_slot PySem.F.cmpKind_ne PySem.F.cmpSplit_ne (J.type.andThen (PySem.W.looks_subIn I.kIn hob)) (PySem.F.cmpArgs_ne _ _) (wpAny_mono body (fun fin s' hf => ?_) fun _ _ z => z)
    obtain ⟨b, rfl, hq⟩ := hf
    exact ⟨b, rfl, hq⟩
  have one : wpAny (model X.prog X.w) X.A (tryCompare (.ref a) "__ne__" u) (fun r s' => ∃ b, r = some (.bool (!b)) ∧ EP X pins σ Q (.bool (!b)) s') X.xe s := by
    unfold tryCompare
    have bound : wpAny (model X.prog X.w) X.A (callSpecialIfBound? (.ref a) "__ne__" [u]) (fun r s' => ∃ b, r = some (.bool (!b)) ∧ EP X pins σ Q (.bool (!b)) s') X.xe s := by
      simp only [callSpecialIfBound?, bindSpecialIfBound?]
      refine wpAny_holding (wpAny_bind (wpAny_bind ?_))
      unfold specialOf
      refine wpAny_bind (J.type.here ((PySem.W.looks_findIn I.kIn hne).here ?_))
      simp only [PySem.F.cmp_object.ne.bind]
      refine wpAny_bind (wpAny_askSetting (wpAny_ite ?_))
      have fin : wpAny (model X.prog X.w) X.A (call (.builtin "object.__ne__") ([.ref a] ++ [u]) >>= fun v => pure (some v)) (fun r s' => ∃ b, r = some (.bool (!b)) ∧ EP X pins σ Q (.bool (!b)) s') X.xe s :=
        wpAny_bind (wpAny_mono obj (fun v s' ⟨b, e, h'⟩ => wpAny_pure ⟨b, by rw [e], h'⟩) fun _ _ h' => h')
      split
      · exact wpAny_bind (wpAny_pure (wpAny_pure (by exact fin)))
      · exact wpAny_tryCatch (wpAny_bind (wpAny_pure (wpAny_pure (by exact fin))))
    refine wpAny_bind (wpAny_mono bound (fun r s' hr' => ?_) fun _ _ z => z)
    obtain ⟨b, rfl, hq⟩ := hr'
    exact wpAny_pure ⟨b, rfl, hq⟩
  unfold richCompare
  simp only [oneThing_ref]
  refine wpAny_holding (wpAny_bind (wpAny_cRoomFor hr.units0 ?_))
  refine wpAny_bind (J.type.here (wpAny_bind (hb.here ?_)))
  split
  · rename_i qq
    have e : PySem.W.subIn X.K ty (.ref C) = some false := by
      rcases Bool.or_eq_true_iff.mp hn with e | e
      · rw [beq_iff_eq.mp e] at qq; simp at qq
      · exact beq_iff_eq.mp e
    refine wpAny_bind ((PySem.W.looks_subIn I.kIn e).here ?_)
    simp only [Bool.false_eq_true, if_false]
    refine wpAny_bind (wpAny_mono one (fun r s' z => ?_) fun _ _ e => e)
    obtain ⟨b, rfl, hq⟩ := z
    exact wpAny_pure hq
  · refine wpAny_bind (wpAny_pure ?_)
    simp only [Bool.false_eq_true, if_false]
    refine wpAny_bind (wpAny_mono one (fun r s' z => ?_) fun _ _ e => e)
    obtain ⟨b, rfl, hq⟩ := z
    exact wpAny_pure hq
end
section
variable {X : Cx} {CX : CXT} {k : Nat} {C f : Addr} {fd : FuncData} {ps : List Str} {sp : Sp} {E : St → XK} {x : Str} {p pos : Pos} {e : Expr} {es : List Expr} {t : TA}
/-- C(e, ..), what __init__ lets out is said at the slots -/
def tMakeS (C : Addr) (sp : Sp) (E : St → XK) (t : TA) : TE := fun σ H Q => t σ H fun vs H1 => ∀ x dx, H1 x = none → H1 dx = none → dx ≠ x → sp (.ref x :: vs) (upd (upd H1 dx (.own x)) x (.ins C dx [])) (fun v H2 => v = .non ∧ Q (.ref x) H2) (E σ)
theorem run_makeS {pins : List (Addr × Obj)} {σ : St} {H : Hp} {s : Shared} {Q : VK} {us : List Value} {vs : List V} (M : Mk X.K C f) (F : FnOk X.prog X.w X.K X.mg X.base CX k f fd ps sp) (hr : Room (k + 1) X.A) (hb : Binds X.K fd ps [])
    (hx : PassesAt CX X σ (E σ)) (I : Inv X pins σ H s) (r : Vals vs us)
    (h : ∀ x dx, H x = none → H dx = none → dx ≠ x → sp (.ref x :: vs) (upd (upd H dx (.own x)) x (.ins C dx [])) (fun v H2 => v = .non ∧ Q (.ref x) H2) (E σ)) :
    wpAny (model X.prog X.w) X.A (call (.ref C) us) (EP X pins σ Q) X.xe s := by
  have hq := h (s.heap.objs.size + 1) s.heap.objs.size (I.hok.fresh (Nat.le_succ _)) (I.hok.fresh (Nat.le_refl _)) (Nat.ne_of_lt (Nat.lt_succ_self _))
  have I2 := Inv.made (C := C) I
  have r2 : Vals (V.ref (s.heap.objs.size + 1) :: vs) (Value.ref (s.heap.objs.size + 1) :: us) := .cons rfl r
  have hl : (Value.ref (s.heap.objs.size + 1) :: us ++ []).length = ps.length := by
    rw [List.append_nil, ← r2.length]
    exact F.len _ _ _ _ hq
  have b := hb { s with heap := _ } (Value.ref (s.heap.objs.size + 1) :: us) I2.kIn hl
  rw [List.append_nil] at b
  refine wpAny_call (make_map (f := f) I.kIn M.makes M.init (beq_iff_eq.mp M.fn) (codeAny_mono (F.run _ X.stack _ _ ⟨Value.ref (s.heap.objs.size + 1) :: us, []⟩ (Value.ref (s.heap.objs.size + 1) :: us) _ _ (E σ) (hr.make C us [])
    (I2.env0.make C us []) b r2 hq) fun r s' hq' => ?_))
  cases r with
  | error e => exact hx pins _ _ e s' I2 hq'
  | ok fl =>
    cases fl with
    | ret u =>
      obtain ⟨v, H', I3, rv, ev, q3⟩ := I2.after hq'
      subst ev
      exact ⟨rv, ⟨V.ref (s.heap.objs.size + 1), H', I3, rfl, q3⟩⟩
    | next => exact False.elim hq'
    | brk => exact False.elim hq'
    | cont => exact False.elim hq'
theorem pe_makeS (M : Mk X.K C f) (F : FnOk X.prog X.w X.K X.mg X.base CX k f fd ps sp) (hr : Room (k + 1) X.A) (hg : Gl X x) (hm : X.mg x = some (.ref C)) (hb : Binds X.K fd ps []) (hx : ∀ σ, PassesAt CX X σ (E σ))
    (ha : PA X (e :: es) t) (hdb : (x == ("__debug__" : Str)) = false := by decide) (he : starEach (e :: es) X.env = (false, eval e X.env) :: starEach es X.env := by rfl) (hpl : (backTo pos (starEach es X.env)).any (·.1) = false := by rfl) :
    PE X (.Call (.Name x p) (e :: es) [] pos) (tMakeS C sp E t) := by
  refine ⟨fun pins s σ H Q I h => ?_⟩
  refine wpAny_Call_Name_kw (ld_glob I hg hm ?_ hdb)
  refine PySem.W.callWith_K (h₀ := X.base) I.ok.mod.kin M.kp (thn (ha.run pos pins s σ H _ I h) fun us s1 ⟨vs, H1, I1, r, q⟩ => ⟨I1.kIn, ?_⟩) he hpl
  exact run_makeS M F hr hb (hx σ) I1 r q
/-- nothing is let out -/
theorem passNo {X : Cx} {P : Program} {w : World} (σ : St) : PassesAt (L2.CX P w) X σ (fun _ _ _ => False) := fun _ _ _ _ _ _ ⟨_, _, _, _, _, _, _, _, _, _, _, _, z⟩ => z.elim
theorem takesNo {X : Cx} : Takes X (fun _ _ _ _ => False) := fun _ _ ⟨_, _, _, _, _, _, _, _, _, _, _, _, _, _, _, _, z⟩ => z.elim
end
end L2
set_option Elab.async false
set_option linter.all false
set_option maxRecDepth 100000
set_option maxHeartbeats 4000000
/-! t & x, t * x by the own __and__, __mul__ of t's class: what they promise; they may raise. -/
namespace L2
open PySem PySem.Spec PyProof.Rows
/-- what a right side of the built-in type T asks of the written part -/
structure RightT (K : PySem.W.Frag) (C : Addr) (nm : String) (T : String) : Prop where
  own : ∃ fo, PySem.W.findIn K (.type T) (PySem.dunder nm) = some fo
  back : ∃ ro, PySem.W.findIn K (.type T) (dunderR nm) = some ro
  sub : PySem.W.subIn K (.type T) (.ref C) = some false
/-- what the class itself asks -/
structure LeftO (K : PySem.W.Frag) (C : Addr) (nm : String) : Prop where
  first : PySem.W.selfFirst K C = true
  back : PySem.W.findIn K (.ref C) (dunderR nm) = some none
section
variable {prog : Program} {w : World} {A : Around} {E : Value → Shared → Prop} {s : Shared} {K : PySem.W.Frag} {x C f : Addr} {ox : Obj} {od : Option Obj} {T : String}
theorem own_bin {op : Operator} {b : Value} {Q : Value → Shared → Prop} (X : K.In s.heap) (I : PySem.W.InstAt s.heap x ox C od) (hb : PySem.W.Looks (model prog w) s.heap (typeOf b) (.type T)) (hl : LeftO K C op.info.2) (hr : RightT K C op.info.2 T)
    (hs : PySem.W.findIn K (.ref C) (PySem.dunder op.info.2) = some (some (.ref f))) (hf : PySem.W.isFn K (.ref f) = true) (h : wpAny (model prog w) A (call (.ref f) [.ref x, b]) (PySem.W.CmpBack Q) E s) : wpAny (model prog w) A (binaryOp op (.ref x) b) Q E s := by
  obtain ⟨cd, rest, hcd, hm⟩ := PySem.W.ksp_first hl.first
  obtain ⟨⟨fo, h1⟩, ⟨ro, h2⟩, hsub⟩ := hr
  have hrr := hl.back
  rcases hi : op.info with ⟨sym, nm'⟩
  rw [hi] at hs hrr h1 h2
  dsimp only at hs hrr h1 h2
  have one := PySem.W.ksp_try X I hs hf h
  obtain ⟨hh, g, d, tk, os⟩ := s
  have L1 : PySem.W.Looks (model prog w) hh (typeOf (.ref x)) (.ref C) := I.type
  have L2 : PySem.W.Looks (model prog w) hh (typeOf b) (.type T) := hb
  have L3 : PySem.W.Looks (model prog w) hh (fillsNumberSlot (.ref C) nm') true := PySem.W.fills_K X hcd hm hs
  have L4 := PySem.W.ksp_fillsT (M := model prog w) (h := hh) X h1 h2
  have L5 : PySem.W.Looks (model prog w) hh (isSubtype (.type T) (.ref C)) false := PySem.W.looks_subIn X hsub
  have L6 : PySem.W.Looks (model prog w) hh (numberSlotInPython (.ref C) nm') true := PySem.W.ksp_inPy X hs hrr (.inl rfl)
  have L7 : PySem.W.Looks (model prog w) hh (numberSlotInPython (.type T) nm') false := PySem.W.Looks.of_pure rfl
  have L8 : PySem.W.Looks (model prog w) hh (typeLookup (.type T) (dunderR nm')) ro := PySem.W.looks_findIn X h2
  generalize ((fo.isSome && !isSeqSlot fo) || (ro.isSome && !isSeqSlot ro)) = right at L4
  have hne : (Value.ref C == Value.type T) = false := Bool.eq_false_iff.mpr fun q => by cases beq_iff_eq.mp q
  simp only [binaryOp, hi]
  refine wpAny_holding (wpAny_bind ?_)
  unfold binaryOp1
  refine wpAny_bind (L1.at (wpAny_bind (L2.at (wpAny_bind (L3.at ?_)))))
  simp only [hne, Bool.false_eq_true, if_false]
  open PySem.W in
  cases right with
  | false =>
    ksp_lk
    refine wpAny_mono one (fun r s' hr' => ?_) fun _ _ e => e
    obtain ⟨v, rfl, hq⟩ := hr'
    ksp_lk
    exact hq
  | true =>
    ksp_lk
    refine wpAny_mono one (fun r s' hr' => ?_) fun _ _ e => e
    obtain ⟨v, rfl, hq⟩ := hr'
    ksp_lk
    exact hq
end
/-- t op y; what the def lets out is said at E -/
def rBinO (K : PySem.W.Frag) (C : Addr) (nm : String) (sp : Sp) (E : XK) : R2 := fun x y H Q => ∃ (a dx : Addr) (fs : List (Str × V)), x = .ref a ∧ H a = some (.ins C dx fs) ∧ (TyX K H y (.ref C) ∨ ∃ T, TyX K H y (.type T) ∧ RightT K C nm T) ∧ sp [.ref a, y] H (fun v H' => Q v H') E
section
variable {X : Cx} {CX : CXT} {k : Nat} {C f : Addr} {fd : FuncData} {ps : List Str} {sp : Sp} {E : XK}
theorem op_binO {op : Operator} (F : FnOk X.prog X.w X.K X.mg X.base CX k f fd ps sp) (hr : Room k X.A) (h : Has X.K C (PySem.dunder op.info.2) f fd ps) (hl : LeftO X.K C op.info.2) (hx : Passes CX X E) : OpR X (binaryOp op) (rBinO X.K C op.info.2 sp E) := by
  intro pins s σ H x y v u Q I rx ry hh
  obtain ⟨a, dx, fs, rfl, ea, hty, q⟩ := hh
  obtain rfl : v = Value.ref a := rx
  obtain ⟨mA, O, _⟩ := ins_get I.hok ea
  obtain ⟨od, J, _⟩ := O.look
  have go : wpAny (model X.prog X.w) X.A (call (.ref f) [.ref a, u]) (PySem.W.CmpBack (EP X pins σ Q)) X.xe s := by
    refine wpAny_mono (run_at F hr rfl h.b hx I (.cons (relRef a) (.cons ry .nil)) q) (fun v s' hv => ?_) fun _ _ z => z
    obtain ⟨z, H', I', rz, qz⟩ := hv
    cases v with
    | notImplemented => cases z <;> first | exact rz.elim | cases rz; done | (obtain ⟨_, e⟩ := rz; exact nomatch e)
    | _ => exact ⟨z, H', I', rz, qz⟩
  rcases hty with hty | ⟨T, hty, hT⟩
  · obtain ⟨P, kx, hP, _⟩ := kit_of I ry hty
    obtain ⟨m, hF⟩ := I.fr
    exact PySem.W.binop_K hF I.ok.mod.kin J (kx.ty _ _ I.kIn hP) hl.first h.at_ h.fn go
  · obtain ⟨P, kx, hP, _⟩ := kit_of I ry hty
    exact own_bin I.kIn J (kx.ty _ _ I.kIn hP) hl hT h.at_ h.fn go
end
end L2
set_option Elab.async false
set_option linter.all false
set_option maxRecDepth 100000
set_option maxHeartbeats 4000000
/-! tuple * int for any number from 0, str * int. -/
namespace L2
open PySem PySem.Spec PyProof.Rows
theorem tuple_mul1 (l : Addr) (items : Array Value) (n : Nat) (dd : Option Addr) (sl : Array (Option Value)) (u : Tok) :
    Meets (Builtin.«tuple.__mul__» ⟨[.ref l, .int 1 u], []⟩) (fun _ R s => s.heap.get? l = some { cls := .type "tuple", dict := dd, data := .seq items n, slots := sl } ∧ R (.ok (.ret (Value.ref l))) s) :=
  .of_wp fun prog w A R s h => by
    obtain ⟨hp, g, d, tk, os⟩ := s
    obtain ⟨hl, h⟩ := h
    have f1 := AutoSeq1.idx_int
    have c1 : (items.isEmpty || (1 : Int) == 1) = true := by rw [show ((1 : Int) == 1) = true from rfl, Bool.or_true]
    wp_walk using wpAny_loadPart' hl
    repeat (first
      | (refine wpAny_ite_false (decide_eq_false (by decide)) ?_; wp_walk using wpAny_loadPart' hl)
      | (refine wpAny_ite_true (decide_eq_true c1) ?_; wp_walk using wpAny_loadPart' hl))
    exact ⟨_, rfl, h⟩
theorem tuple_mul0 (l : Addr) (items : Array Value) (n : Nat) (dd : Option Addr) (sl : Array (Option Value)) (u : Tok) (c1 : (items.isEmpty || (0 : Int) == 1) = false) :
    Meets (Builtin.«tuple.__mul__» ⟨[.ref l, .int 0 u], []⟩) (fun _ R s => s.heap.get? l = some { cls := .type "tuple", dict := dd, data := .seq items n, slots := sl } ∧
      R (.ok (.ret (Value.ref s.heap.objs.size))) { s with heap := s.heap.push { cls := Value.type "tuple", data := Data.seq #[] }, toks := s.toks }) :=
  .of_wp fun prog w A R s h => by
    obtain ⟨hp, g, d, tk, os⟩ := s
    obtain ⟨hl, h⟩ := h
    have f1 := AutoSeq1.idx_int
    have c2 : (decide ((0 : Int) ≤ 0) || items.isEmpty) = true := by rw [decide_eq_true (Int.le_refl 0), Bool.true_or]
    wp_walk using wpAny_loadPart' hl
    repeat (first
      | (refine wpAny_ite_false (decide_eq_false (by decide)) ?_; wp_walk using wpAny_loadPart' hl)
      | (refine wpAny_ite_false (decide_eq_false (by rw [c1]; exact Bool.false_ne_true)) ?_; wp_walk using wpAny_loadPart' hl)
      | (refine wpAny_ite_true (decide_eq_true c2) ?_; wp_walk using wpAny_loadPart' hl))
    exact ⟨_, rfl, h⟩
def rRepA (K : PySem.W.Frag) : R2 := fun x y H Q => ∃ l k xs, x = .ref l ∧ y = .int k ∧ SqT K H l xs ∧ xs ≠ [] ∧ 0 ≤ k ∧ k ≤ 1000 ∧ xs.length ≤ 1000 ∧ (k = 1 → Q (.ref l) H) ∧ (k ≠ 1 → ∀ p, H p = none → Q (.ref p) (upd H p (.tup (List.replicate k.toNat xs).flatten)))
section
variable {X : Cx}
theorem op_repA : OpR X (binaryOp .Mult) (rRepA X.K) := by
  intro pins s σ H x y v u Q I rx ry h
  obtain ⟨l, k, xs, rfl, rfl, hT, hne, h0, h2, hz, q1, q⟩ := h
  by_cases hk2 : 2 ≤ k
  · exact op_repT pins s σ H _ _ v u Q I rx ry ⟨l, k, xs, rfl, rfl, hT, hne, hk2, h2, hz, q (by omega)⟩
  cases rx
  obtain ⟨t, rfl⟩ := ry
  obtain ⟨its, r, ⟨⟨cls, dd, data, sl⟩, ho, hc, n, hd⟩, hs⟩ := I.tuple hT
  simp only at hc hd
  subst hc hd
  have hle : its.length = xs.length := r.length.symm
  have hn : its ≠ [] := fun e => hne (by
    rw [e] at hle
    exact List.eq_nil_of_length_eq_zero hle.symm)
  have hi : its.toArray.isEmpty = false := by
    cases its with
    | nil => exact absurd rfl hn
    | cons a b => rfl
  by_cases hk1 : k = 1
  · subst hk1
    exact wpAny_binaryOp_repeat_ref (T := "tuple") (U := "int") (by decide) ⟨_, ho, rfl⟩ (fun s' => typeIs_int s' 1 t) noFill_tuple_mul F.fills_int_mul F.slot_int_rmul repeat_tuple F.slot_int_index.lookup
      (call_meets F.slot_int_rmul (typeIs_int s 1 t) F.entry_int_rmul (F.args_int_rmul_2 _ _) (int_rmul_tuple 1 t l its.toArray n dd sl)
        ⟨ho, rfl, ⟨_, ho, rfl⟩, call_meets F.slot_tuple_mul ⟨_, ho, rfl⟩ F.entry_tuple_mul (F.args_tuple_mul_2 _ _) (tuple_mul1 l its.toArray n dd sl t) ⟨ho, ⟨.ref l, H, I, rfl, q1 rfl⟩⟩⟩)
  · have hk0 : k = 0 := by omega
    subst hk0
    refine wpAny_binaryOp_repeat_ref (T := "tuple") (U := "int") (by decide) ⟨_, ho, rfl⟩ (fun s' => typeIs_int s' 0 t) noFill_tuple_mul F.fills_int_mul F.slot_int_rmul repeat_tuple F.slot_int_index.lookup
      (call_meets F.slot_int_rmul (typeIs_int s 0 t) F.entry_int_rmul (F.args_int_rmul_2 _ _) (int_rmul_tuple 0 t l its.toArray n dd sl)
        ⟨ho, rfl, ⟨_, ho, rfl⟩, call_meets F.slot_tuple_mul ⟨_, ho, rfl⟩ F.entry_tuple_mul (F.args_tuple_mul_2 _ _) (tuple_mul0 l its.toArray n dd sl t (by rw [hi]; rfl)) ⟨ho, ?_⟩⟩)
    refine ⟨.ref s.heap.objs.size, _, I.laid (t' := s.toks) (o := .tup []) (fun b ob q => Heap.get?_push_of_some _ q) (Nat.le_refl _) ?_, rfl, q hk1 _ (I.hok.fresh (Nat.le_refl _))⟩
    exact ⟨Nat.zero_le _, [], .nil, IsTup.new _ _⟩
/-- text * int -/
def repS (x : Str) (n : Int) : Str := if n = 1 then x else ⟨(List.replicate n.toNat x.cps).foldl (· ++ ·) #[]⟩
def rRepS : R2 := fun x y H Q => ∃ (a : Str) (n : Int), x = .str a ∧ y = .int n ∧ 1 ≤ n ∧ n ≤ 1000 ∧ 1 ≤ a.length ∧ a.length ≤ 1000 ∧ Q (.str (repS a n)) H
theorem op_repS : OpR X (binaryOp .Mult) rRepS := by
  intro pins s σ H x y v u Q I rx ry h
  obtain ⟨a, n, rfl, rfl, n1, n2, a1, a2, q⟩ := h
  obtain ⟨t, rfl⟩ := rx
  obtain ⟨t', rfl⟩ := ry
  have l0 : (a.length == 0) = false := beq_eq_false_iff_ne.mpr (by omega)
  refine P.mul_str (by rw [decide_eq_false (by omega), decide_eq_false (by omega)]; rfl) (fun _ hb => ?_) (fun _ hb => ?_) ?_
  · have e : (2 ^ 63 - 1 : Int) / n ≥ (2 ^ 63 - 1) / 1000 := by
      rcases Int.le_iff_eq_or_lt.mp n2 with z | z
      · subst z
        exact Int.le_refl _
      · refine (Int.le_ediv_iff_mul_le (by omega)).mpr ?_
        have : (2 ^ 63 - 1 : Int) / 1000 * n ≤ (2 ^ 63 - 1) / 1000 * 1000 := Int.mul_le_mul_of_nonneg_left (by omega) (by decide)
        have h2 : (2 ^ 63 - 1 : Int) / 1000 * 1000 ≤ 2 ^ 63 - 1 := by decide
        omega
    have e2 : (1000 : Int) ≤ (2 ^ 63 - 1) / 1000 := by decide
    omega
  · show decide (a.length * n.toNat > sizeLine) = false
    refine decide_eq_false ?_
    rw [sizeLine_eq]
    have : a.length * n.toNat ≤ 1000 * 1000 := Nat.mul_le_mul a2 (by omega)
    omega
  · rw [if_neg (by omega)]
    by_cases h1 : n = 1
    · subst h1
      rw [if_pos (by simp)]
      refine ⟨.str a, H, I, ⟨t, rfl⟩, ?_⟩
      rw [repS, if_pos rfl] at q
      exact q
    · rw [if_neg (by rw [l0, Bool.or_false]; exact fun z => h1 (eq_of_beq z))]
      rw [repS, if_neg h1] at q
      refine ⟨?_, .str _, H, I.tok _, ⟨_, rfl⟩, q⟩
      have sz : ∀ (m : Nat) (acc : Array Nat), ((List.replicate m a.cps).foldl (fun x y => x ++ y) acc).size = acc.size + m * a.cps.size := by
        intro m
        induction m with
        | zero => intro acc; simp
        | succ m ih =>
          intro acc
          rw [List.replicate_succ, List.foldl_cons, ih, Array.size_append, Nat.add_mul]
          omega
      show ((List.replicate n.toNat a.cps).foldl (fun x y => x ++ y) #[]).size ≤ sizeLine
      rw [sz, sizeLine_eq]
      have : n.toNat * a.cps.size ≤ 1000 * 1000 := Nat.mul_le_mul (by omega) a2
      show 0 + n.toNat * a.cps.size ≤ _
      omega
end
end L2
set_option Elab.async false
set_option linter.all false
set_option maxRecDepth 100000
set_option maxHeartbeats 4000000
/-! Expressions that give data: what they give, whatever else has been made meanwhile. -/
namespace L2
open PySem PySem.Spec PyProof.Rows PySem.NearX
section
variable {K : PySem.W.Frag} {H H' : Hp}
theorem snew {H H' : Hp} {p : Addr} {o : HO} (s : Same H H') (h : H' p = none) : Same H (upd H' p o) := fun b u e => by
  rw [upd_ne (ne_of_none (s b u e) h)]
  exact s b u e
theorem DpAll.append : ∀ {xs ys : List V} {ds es : List PyData}, DpAll K H xs ds → DpAll K H ys es → DpAll K H (xs ++ ys) (ds ++ es)
  | _, _, _, _, .nil, h => h
  | _, _, _, _, .cons h1 h2, h => .cons h1 (DpAll.append h2 h)
theorem DpAll.leng : ∀ {xs : List V} {ds : List PyData}, DpAll K H xs ds → xs.length = ds.length
  | _, _, .nil => rfl
  | _, _, .cons _ h => by simp [DpAll.leng h]
theorem DpAll.drop : ∀ (n : Nat) {xs : List V} {ds : List PyData}, DpAll K H xs ds → DpAll K H (xs.drop n) (ds.drop n)
  | 0, _, _, h => h
  | n + 1, _, _, .nil => .nil
  | n + 1, _, _, .cons _ h => DpAll.drop n h
theorem DpAll.take : ∀ (n : Nat) {xs : List V} {ds : List PyData}, DpAll K H xs ds → DpAll K H (xs.take n) (ds.take n)
  | 0, _, _, h => .nil
  | n + 1, _, _, .nil => .nil
  | n + 1, _, _, .cons h1 h => .cons h1 (DpAll.take n h)
theorem DpAll.repf {xs : List V} {ds : List PyData} (h : DpAll K H xs ds) : ∀ n : Nat, DpAll K H (List.replicate n xs).flatten (List.replicate n ds).flatten
  | 0 => .nil
  | n + 1 => by
    rw [List.replicate_succ, List.replicate_succ, List.flatten_cons, List.flatten_cons]
    exact DpAll.append h (DpAll.repf h n)
theorem DpAll.at {i : Nat} {d : PyData} : ∀ {xs : List V} {ds : List PyData} {i : Nat} {d : PyData}, DpAll K H xs ds → ds[i]? = some d → ∃ x, xs[i]? = some x ∧ Dp K H x d
  | _, _, _, _, .nil, h => by simp at h
  | _, _, 0, _, .cons h1 h2, h => by
    simp at h
    subst h
    exact ⟨_, rfl, h1⟩
  | _, _, i + 1, _, .cons h1 h2, h => by
    obtain ⟨x, e, hd⟩ := DpAll.at (i := i) (d := .none) h2 (by simpa using h)
    exact ⟨x, by simpa using e, hd⟩
def cutD (ds : List PyData) (lo hi : Option Int) : List PyData := (ds.drop (HT.sIx ds.length 0 lo)).take (HT.sIx ds.length ds.length hi - HT.sIx ds.length 0 lo)
theorem DpAll.cut {xs : List V} {ds : List PyData} (h : DpAll K H xs ds) (lo hi : Option Int) : DpAll K H (cutV xs lo hi) (cutD ds lo hi) := by
  rw [cutV, cutD, h.leng]
  exact (h.drop _).take _
end
/-- H' without what was new between the ground H and H0 -/
def Rs (H H0 H' : Hp) : Hp := fun b => if H b = none ∧ H0 b ≠ none then none else H' b
section
variable {H H0 H1 H2 : Hp}
theorem rs_some {b : Addr} {o : HO} : Rs H H0 H1 b = some o ↔ ¬ (H b = none ∧ H0 b ≠ none) ∧ H1 b = some o := by
  unfold Rs
  by_cases h : H b = none ∧ H0 b ≠ none
  · rw [if_pos h]
    exact ⟨(fun z => nomatch z), fun z => absurd h z.1⟩
  · rw [if_neg h]
    exact ⟨fun z => ⟨h, z⟩, fun z => z.2⟩
theorem rs_le : Same (Rs H H0 H1) H1 := fun b o e => (rs_some.mp e).2
theorem rs_on (s : Same H1 H2) : Same (Rs H H0 H1) (Rs H H0 H2) := fun b o e => rs_some.mpr ⟨(rs_some.mp e).1, s b o (rs_some.mp e).2⟩
theorem rs_in (s : Same H0 H1) : Same (Rs H H1 H2) (Rs H H0 H2) := fun b o e => rs_some.mpr ⟨fun z => (rs_some.mp e).1 ⟨z.1, fun n => by
  cases h : H0 b with
  | none => exact z.2 h
  | some u => exact nomatch (s b u h).symm.trans n⟩, (rs_some.mp e).2⟩
theorem rs_gnd (s : Same H H0) : Same H (Rs H H0 H0) := fun b o e => rs_some.mpr ⟨fun z => (by rw [z.1] at e; exact nomatch e), s b o e⟩
theorem rs_more (s : Same H H1) : Same (Rs H H0 H2) (Rs H1 H0 H2) := fun b o e => rs_some.mpr ⟨fun z => (rs_some.mp e).1 ⟨by
  cases h : H b with
  | none => rfl
  | some u => exact (nomatch (s b u h).symm.trans z.1), z.2⟩, (rs_some.mp e).2⟩
theorem rs_new {p : Addr} {o : HO} (np : H1 p = none) : Same (Rs H H0 H1) (Rs H H0 (upd H1 p o)) := rs_on (snew (Same.refl _) np)
theorem rs_at {p : Addr} {o : HO} (s : Same H0 H1) (np : H1 p = none) : Rs H H0 (upd H1 p o) p = some o := rs_some.mpr ⟨fun z => z.2 (by
  cases h : H0 p with
  | none => rfl
  | some u => exact nomatch (s p u h).symm.trans np), upd_same⟩
end
/-- the expression gives d -/
def DE (K : PySem.W.Frag) (te : TE) (σ : St) (H : Hp) (d : PyData) : Prop := ∀ (H0 : Hp) (Q : VK), Same H H0 → (∀ H' v, Same H0 H' → Dp K (Rs H H0 H') v d → Q v H') → te σ H0 Q
/-- the arguments give ds -/
def DAs (K : PySem.W.Frag) (t : TA) (σ : St) (H : Hp) (ds : List PyData) : Prop := ∀ (H0 : Hp) (Q : List V → Hp → Prop), Same H H0 → (∀ H' vs, Same H0 H' → DpAll K (Rs H H0 H') vs ds → Q vs H') → t σ H0 Q
/-- the expression gives a list of ds that can be changed -/
def DL (K : PySem.W.Frag) (te : TE) (σ : St) (H : Hp) (ds : List PyData) : Prop := ∀ (H0 : Hp) (Q : VK), Same H H0 → (∀ H' l xs, Same H0 H' → Rs H H0 H' l = some (.lst xs) → DpAll K (Rs H H0 H') xs ds → Q (.ref l) H') → te σ H0 Q
/-- the part of a slice -/
def DPt (t : TO) (σ : St) (H : Hp) (o : Option Int) : Prop := ∀ (H0 : Hp) (Q : Option Int → Hp → Prop), Same H H0 → (∀ H', Same H0 H' → Q o H') → t σ H0 Q
section
variable {K : PySem.W.Frag} {σ : St} {H : Hp} {ta tb te : TE} {t : TA} {d : PyData} {ds es : List PyData}
theorem DE.on {H1 : Hp} (h : DE K te σ H d) (s : Same H H1) : DE K te σ H1 d := fun H0 Q s0 q => h H0 Q (s.trans s0) fun H' v s' hv => q H' v s' (hv.on (rs_more s))
theorem DL.on {H1 : Hp} (h : DL K te σ H ds) (s : Same H H1) : DL K te σ H1 ds := fun H0 Q s0 q => h H0 Q (s.trans s0) fun H' l xs s' e hv => q H' l xs s' (rs_more s _ _ e) (hv.on (rs_more s))
theorem DL.toE (h : DL K te σ H ds) : DE K te σ H (.list ds) := fun H0 Q s q => h H0 Q s fun H' l xs s' e hx => q H' _ s' (.lst (.inl (.inl e)) hx)
theorem DE.non : DE K (tC .non) σ H .none := fun H0 Q _ q => q H0 _ (Same.refl _) .non
theorem DE.bl {b : Bool} : DE K (tC (.bl b)) σ H (.bool b) := fun H0 Q _ q => q H0 _ (Same.refl _) (.bl b)
theorem DE.int {i : Int} : DE K (tC (.int i)) σ H (.int i) := fun H0 Q _ q => q H0 _ (Same.refl _) (.int i)
theorem DE.str {x : Str} : DE K (tC (.str x)) σ H (.str x) := fun H0 Q _ q => q H0 _ (Same.refl _) (.str x)
theorem DE.var {i : Nat} {v : V} (e : σ[i]? = some (some v)) (h : Dp K H v d) : DE K (tVar i) σ H d := fun H0 Q s q => ⟨v, e, q H0 _ (Same.refl _) (h.on (rs_gnd s))⟩
theorem DL.var {i : Nat} {l : Addr} {xs : List V} (e : σ[i]? = some (some (.ref l))) (el : H l = some (.lst xs)) (h : DpAll K H xs ds) : DL K (tVar i) σ H ds := fun H0 Q s q => ⟨_, e, q H0 l xs (Same.refl _) (rs_gnd s _ _ el) (h.on (rs_gnd s))⟩
theorem DE.neg {i : Int} (h : DE K te σ H (.int i)) : DE K (tUn (rU fun i => .int (-i)) te) σ H (.int (-i)) := fun H0 Q s q => h H0 _ s fun H' v s' hv => by
  cases hv
  exact ⟨i, rfl, q H' _ s' (.int _)⟩
theorem DE.pow {i j : Int} (h1 : DE K ta σ H (.int i)) (h2 : DE K tb σ H (.int j)) (c : CPow i j) : DE K (tOp (rI CPow fun i j => .int (i ^ j.toNat)) ta tb) σ H (.int (i ^ j.toNat)) := fun H0 Q s q => h1 H0 _ s fun H1 v s1 hv => h2 H1 _ (s.trans s1) fun H2 u s2 hu => by
  cases hv; cases hu
  exact ⟨i, j, rfl, rfl, c, q H2 _ (s1.trans s2) (.int _)⟩
theorem DE.op0 {i j k : Int} {g : Int → Int → V} (h1 : DE K ta σ H (.int i)) (h2 : DE K tb σ H (.int j)) (e : g i j = .int k) : DE K (tOp (rI0 g) ta tb) σ H (.int k) := fun H0 Q s q => h1 H0 _ s fun H1 v s1 hv => h2 H1 _ (s.trans s1) fun H2 u s2 hu => by
  cases hv; cases hu
  exact ⟨i, j, rfl, rfl, by rw [e]; exact q H2 _ (s1.trans s2) (.int _)⟩
theorem DAs.nil : DAs K tNil σ H [] := fun H0 Q _ q => q H0 _ (Same.refl _) .nil
theorem DAs.cons (h : DE K te σ H d) (r : DAs K t σ H ds) : DAs K (tCons te t) σ H (d :: ds) := fun H0 Q s q => h H0 _ s fun H1 v s1 hv => r H1 _ (s.trans s1) fun H2 vs s2 hs => q H2 _ (s1.trans s2) (.cons (hv.on (rs_on s2)) (hs.on (rs_in s1)))
theorem small3 {n : Nat} (h : n ≤ 1000) : n ≤ sizeLine := by rw [sizeLine_eq]; omega
theorem DE.tup (h : DAs K t σ H ds) (z : ds.length ≤ 1000) : DE K (tTup t) σ H (.tuple ds) := fun H0 Q s q => h H0 _ s fun H' vs s' hv => ⟨by rw [hv.leng]; exact small3 z, fun p np => q _ _ (snew s' np) (.tup (.inl (.inl (rs_at s' np))) (hv.on (rs_new np)))⟩
theorem DL.lst (h : DAs K t σ H ds) (z : ds.length ≤ 1000) : DL K (tLst t) σ H ds := fun H0 Q s q => h H0 _ s fun H' vs s' hv => ⟨by rw [hv.leng]; exact small3 z, fun p np => q _ p vs (snew s' np) (rs_at s' np) (hv.on (rs_new np))⟩
theorem DL.cat (h1 : DL K ta σ H ds) (h2 : DL K tb σ H es) (z : ds.length + es.length ≤ 1000) : DL K (tOp rCat ta tb) σ H (ds ++ es) := fun H0 Q s q => h1 H0 _ s fun H1 l xs s1 e1 d1 => h2 H1 _ (s.trans s1) fun H2 m ys s2 e2 d2 =>
  ⟨l, m, xs, ys, rfl, rfl, s2 _ _ (rs_le _ _ e1), rs_le _ _ e2, by rw [d1.leng, d2.leng]; exact small3 z, fun p np => q _ p _ (snew (s1.trans s2) np) (rs_at (s1.trans s2) np) ((DpAll.append (d1.on (rs_on s2)) (d2.on (rs_in s1))).on (rs_new np))⟩
theorem DE.cat (h1 : DE K ta σ H (.tuple ds)) (h2 : DE K tb σ H (.tuple es)) (z : ds.length + es.length ≤ 1000) : DE K (tOp (rCatA K) ta tb) σ H (.tuple (ds ++ es)) := fun H0 Q s q => h1 H0 _ s fun H1 v s1 d1 => h2 H1 _ (s.trans s1) fun H2 u s2 d2 => by
  have d1 := d1.on (rs_on s2)
  have d2 := d2.on (rs_in s1)
  cases d1 with
  | @tup a xs _ a1 a2 =>
    cases d2 with
    | @tup b ys _ b1 b2 =>
      refine ⟨a, b, xs, ys, rfl, rfl, a1.on rs_le, b1.on rs_le, by rw [a2.leng, b2.leng]; exact small3 z, fun e => ?_, fun _ e => ?_, fun _ _ p np => q _ _ (snew (s1.trans s2) np) (.tup (.inl (.inl (rs_at (s1.trans s2) np))) ((DpAll.append a2 b2).on (rs_new np)))⟩
      · subst e
        have : ds = [] := List.eq_nil_of_length_eq_zero (by rw [← a2.leng]; rfl)
        subst this
        exact q _ _ (s1.trans s2) (.tup b1 b2)
      · subst e
        have : es = [] := List.eq_nil_of_length_eq_zero (by rw [← b2.leng]; rfl)
        subst this
        rw [List.append_nil] at q
        exact q _ _ (s1.trans s2) (.tup a1 a2)
theorem DE.rep {k : Int} (h1 : DE K ta σ H (.tuple ds)) (h2 : DE K tb σ H (.int k)) (hne : ds ≠ []) (k0 : 0 ≤ k) (k1 : k ≤ 1000) (z : ds.length ≤ 1000) : DE K (tOp (rRepA K) ta tb) σ H (.tuple (List.replicate k.toNat ds).flatten) := fun H0 Q s q => h1 H0 _ s fun H1 v s1 d1 => h2 H1 _ (s.trans s1) fun H2 u s2 d2 => by
  have d1 := d1.on (rs_on s2)
  cases d2
  cases d1 with
  | @tup a xs _ a1 a2 =>
    refine ⟨a, k, xs, rfl, rfl, a1.on rs_le, fun e => hne ?_, k0, k1, by rw [a2.leng]; exact z, fun e => ?_, fun _ p np => q _ _ (snew (s1.trans s2) np) (.tup (.inl (.inl (rs_at (s1.trans s2) np))) ((DpAll.repf a2 _).on (rs_new np)))⟩
    · subst e
      exact List.eq_nil_of_length_eq_zero (by rw [← a2.leng]; rfl)
    · subst e
      have e2 : (List.replicate (Int.toNat 1) ds).flatten = ds := by simp
      rw [e2] at q
      exact q _ _ (s1.trans s2) (.tup a1 a2)
theorem DE.repS {x : Str} {k : Int} (h1 : DE K ta σ H (.str x)) (h2 : DE K tb σ H (.int k)) (k0 : 1 ≤ k) (k1 : k ≤ 1000) (x1 : 1 ≤ x.length) (z : x.length ≤ 1000) : DE K (tOp rRepS ta tb) σ H (.str (repS x k)) := fun H0 Q s q => h1 H0 _ s fun H1 v s1 d1 => h2 H1 _ (s.trans s1) fun H2 u s2 d2 => by
  cases d1; cases d2
  exact ⟨x, k, rfl, rfl, k0, k1, x1, z, q _ _ (s1.trans s2) (.str _)⟩
theorem DPt.none : DPt tNoPart σ H none := fun H0 Q _ q => q H0 (Same.refl _)
theorem DPt.some {i : Int} (h : DE K te σ H (.int i)) : DPt (tPart te) σ H (some i) := fun H0 Q s q => h H0 _ s fun H' v s' hv => by
  cases hv
  exact ⟨i, rfl, q H' s'⟩
theorem DE.sl {tl th : TO} {lo hi : Option Int} (h : DE K te σ H (.tuple ds)) (hl : DPt tl σ H lo) (hh : DPt th σ H hi) : DE K (tSl (rSlA K) te tl th) σ H (.tuple (cutD ds lo hi)) := fun H0 Q s q => h H0 _ s fun H1 v s1 d1 => hl H1 _ (s.trans s1) fun H2 s2 => hh H2 _ ((s.trans s1).trans s2) fun H3 s3 => by
  have d1 := d1.on (rs_on (s2.trans s3))
  have s13 := (s1.trans s2).trans s3
  cases d1 with
  | @tup a xs _ a1 a2 =>
    refine ⟨a, xs, rfl, a1.on rs_le, fun e => ?_, fun _ p np => q _ _ (snew s13 np) (.tup (.inl (.inl (rs_at s13 np))) ((a2.cut lo hi).on (rs_new np)))⟩
    have : cutD ds lo hi = ds := by
      rw [a2.leng] at e
      rw [cutD, e.1, e.2, List.drop_zero, Nat.sub_zero, List.take_length]
    rw [this] at q
    exact q _ _ s13 (.tup a1 a2)
theorem DE.ix {i : Nat} {d : PyData} (h1 : DE K ta σ H (.tuple ds)) (h2 : DE K tb σ H (.int (i : Nat))) (e : ds[i]? = some d) : DE K (tOp (rIxT K) ta tb) σ H d := fun H0 Q s q => h1 H0 _ s fun H1 v s1 d1 => h2 H1 _ (s.trans s1) fun H2 u s2 d2 => by
  have d1 := d1.on (rs_on s2)
  cases d2
  cases d1 with
  | @tup a xs _ a1 a2 =>
    obtain ⟨x, ex, hx⟩ := DpAll.at (d := .none) (i := 0) a2 e
    exact ⟨a, xs, _, x, rfl, rfl, a1.on rs_le, at_of (j := i) rfl ex, q _ _ (s1.trans s2) hx⟩
theorem DE.listOf (h : DE K te σ H (.tuple ds)) : DE K (tCB (fun xs H Q => ∃ p ys, xs = [.ref p] ∧ (SqL K H p ys ∨ SqT K H p ys) ∧ ∀ l, H l = none → Q (.ref l) (upd H l (.lst ys))) (tCons te tNil)) σ H (.list ds) := fun H0 Q s q => h H0 _ s fun H1 v s1 d1 => by
  cases d1 with
  | @tup a xs _ a1 a2 => exact ⟨a, xs, rfl, .inr (a1.on rs_le), fun l nl => q _ _ (snew s1 nl) (.lst (.inl (.inl (rs_at s1 nl))) (a2.on (rs_new nl)))⟩
theorem DL.lc {i : Nat} {n : Int} {f : Nat → PyData} (h1 : DAs K t σ H [.int n]) (n0 : 0 ≤ n) (n1 : n ≤ 1000) (h2 : ∀ m : Nat, (m : Int) < n → DE K te ((σ.set i Option.none).set i (some (.int (m : Nat)))) H (f m)) :
    DL K (tLc (iRng1 t) (gName i) tYes te [i]) σ H ((List.range n.toNat).map f) := fun H0 Q s q => h1 H0 _ s fun H1 vs s1 hv => by
  cases hv with
  | cons a b =>
    cases a; cases b
    refine ⟨n, rfl, by omega, by omega, fun D nD => ?_⟩
    have hHD : H D = none := by
      cases h : H D with
      | none => rfl
      | some u => exact nomatch ((s.trans s1) D u h).symm.trans nD
    -- what stands beside D
    refine lc_range (lo := 0) (fun m H' => Same H1 H' ∧ ∃ xs, H' D = some (.lst xs) ∧ DpAll K (fun b => if b = D then none else Rs H H0 H' b) xs ((List.range m).map f)) ⟨snew (Same.refl _) nD, [], upd_same, .nil⟩ ?_ ?_
    · rintro m H2 hm ⟨s2, xs, eD, hd⟩
      refine ⟨?_, ?_⟩
      · show ((σ.set i Option.none).set i _).set i Option.none = σ.set i Option.none
        rw [List.set_set]
        rw [List.set_set]
      · show te ((σ.set i Option.none).set i (some (.int (0 + (m : Nat))))) H2 _
        rw [Int.zero_add]
        refine h2 m (by omega) H2 _ ((s.trans s1).trans s2) fun H3 v s3 dv => ⟨xs, s3 _ _ eD, ?_, ?_, xs ++ [v], upd_same, ?_⟩
        · rw [hd.leng, List.length_map, List.length_range, sizeLine_eq]
          omega
        · intro b u e
          rw [upd_ne (ne_of_none e nD)]
          exact s3 _ _ (s2 b u e)
        · rw [List.range_succ, List.map_append]
          refine DpAll.append (hd.on ?_) (.cons (dv.on ?_) .nil)
          · intro b u e
            have e : (if b = D then none else Rs H H0 H2 b) = some u := e
            show (if b = D then none else Rs H H0 (upd H3 D (HO.lst (xs ++ [v]))) b) = some u
            by_cases hb : b = D
            · rw [if_pos hb] at e
              cases e
            · rw [if_neg hb] at e ⊢
              obtain ⟨c, e'⟩ := rs_some.mp e
              exact rs_some.mpr ⟨c, by rw [upd_ne hb]; exact s3 _ _ e'⟩
          · intro b u e
            obtain ⟨c, e'⟩ := rs_some.mp e
            have hb : b ≠ D := fun z => c (by subst z; exact ⟨hHD, by rw [eD]; exact fun z => nomatch z⟩)
            show (if b = D then none else Rs H H0 (upd H3 D (HO.lst (xs ++ [v]))) b) = some u
            rw [if_neg hb]
            refine rs_some.mpr ⟨fun z => c ⟨z.1, ?_⟩, by rw [upd_ne hb]; exact e'⟩
            cases h : H0 b with
            | none => exact absurd h z.2
            | some w => rw [s2 _ _ (s1 _ _ h)]; exact fun z => nomatch z
    · rintro H2 ⟨s2, xs, eD, hd⟩
      refine q H2 D xs (s1.trans s2) (rs_some.mpr ⟨fun z => z.2 ?_, eD⟩) (hd.on fun b u e => ?_)
      · cases h : H0 D with
        | none => rfl
        | some u => exact nomatch (s1 D u h).symm.trans nD
      · have e : (if b = D then none else Rs H H0 H2 b) = some u := e
        by_cases hb : b = D
        · rw [if_pos hb] at e
          cases e
        · rw [if_neg hb] at e
          exact e
theorem DL.run {H0 : Hp} {Q : VK} (h : DL K te σ H0 ds) (q : ∀ H' l xs, Same H0 H' → H' l = some (.lst xs) → DpAll K H' xs ds → Q (.ref l) H') : te σ H0 Q := h H0 Q (Same.refl _) fun H' l xs s e hv => q H' l xs s (rs_le _ _ e) (hv.on rs_le)
theorem DE.run {H0 : Hp} {Q : VK} (h : DE K te σ H0 d) (q : ∀ H' v, Same H0 H' → Dp K H' v d → Q v H') : te σ H0 Q := h H0 Q (Same.refl _) fun H' v s hv => q H' v s (hv.on rs_le)
theorem cutD_len (ds : List PyData) (lo hi : Option Int) : (cutD ds lo hi).length ≤ ds.length := by
  unfold cutD
  rw [List.length_take, List.length_drop]
  omega
/-- at a ground G beside which p stands: what is given does not touch p -/
theorem DL.runG {G H0 : Hp} {p : Addr} {Q : VK} (h : DL K te σ G ds) (s : Same G H0) (gp : G p = none) (hp : H0 p ≠ none)
    (q : ∀ H' G' l xs, Same H0 H' → Same G G' → Same G' H' → G' p = none → H' p ≠ none → G' l = some (.lst xs) → DpAll K G' xs ds → Q (.ref l) H') : te σ H0 Q := h H0 Q s fun H' l xs s' e hv =>
  q H' (Rs G H0 H') l xs s' ((rs_gnd s).trans (rs_on s')) rs_le (if_pos ⟨gp, hp⟩) (by
    cases z : H0 p with
    | none => exact absurd z hp
    | some u => rw [s' _ _ z]; exact fun z => nomatch z) e hv
theorem DE.runG {G H0 : Hp} {p : Addr} {Q : VK} (h : DE K te σ G d) (s : Same G H0) (gp : G p = none) (hp : H0 p ≠ none)
    (q : ∀ H' G' v, Same H0 H' → Same G G' → Same G' H' → G' p = none → H' p ≠ none → Dp K G' v d → Q v H') : te σ H0 Q := h H0 Q s fun H' v s' hv =>
  q H' (Rs G H0 H') v s' ((rs_gnd s).trans (rs_on s')) rs_le (if_pos ⟨gp, hp⟩) (by
    cases z : H0 p with
    | none => exact absurd z hp
    | some u => rw [s' _ _ z]; exact fun z => nomatch z) hv
theorem DL.sl {tl th : TO} {lo hi : Option Int} (h : DL K te σ H ds) (hl : DPt tl σ H lo) (hh : DPt th σ H hi) : DL K (tSl (rSlL K) te tl th) σ H (cutD ds lo hi) := fun H0 Q s q => h H0 _ s fun H1 l xs s1 e1 d1 => hl H1 _ (s.trans s1) fun H2 s2 => hh H2 _ ((s.trans s1).trans s2) fun H3 s3 =>
  ⟨l, xs, rfl, .inl (.inl (s3 _ _ (s2 _ _ (rs_le _ _ e1)))), fun p np => q _ p _ (snew ((s1.trans s2).trans s3) np) (rs_at ((s1.trans s2).trans s3) np) (((d1.on (rs_on (s2.trans s3))).cut lo hi).on (rs_new np))⟩
end
end L2
set_option Elab.async false
set_option linter.all false
set_option maxRecDepth 100000
set_option maxHeartbeats 4000000
/-! What code does to data: values as trees, slots, what is owned, and the readings made of functions on them. -/
namespace EV
open PySem PySem.Spec PyProof.Rows L2 PySem.NearX
/-- data: trees; objects by the name of their class -/
inductive D where
  | non | bl (b : Bool) | int (i : Int) | str (x : Str)
  | lst (ds : List D) | tup (ds : List D)
  | scr (ns : List Int)
  | dic (ks : List Key) (vs : List D)
  | obj (c : Str) (ns : List Str) (vs : List D)
abbrev Cls0 := Str → Option Addr
mutual
/-- the value v stands for d, in the heap G -/
inductive Rp (K : PySem.W.Frag) (Γ : Cls0) (G : Hp) : V → D → Prop
  | non : Rp K Γ G .non .non
  | bl (b : Bool) : Rp K Γ G (.bl b) (.bl b)
  | int (i : Int) : Rp K Γ G (.int i) (.int i)
  | str (x : Str) : Rp K Γ G (.str x) (.str x)
  | lst {a : Addr} {xs : List V} {ds : List D} : G a = some (.lst xs) → RpA K Γ G xs ds → Rp K Γ G (.ref a) (.lst ds)
  | tup {a : Addr} {xs : List V} {ds : List D} : SqT K G a xs → RpA K Γ G xs ds → Rp K Γ G (.ref a) (.tup ds)
  | scr {a : Addr} {ns : List Int} : SqL K G a (ns.map V.int) → Rp K Γ G (.ref a) (.scr ns)
  | dic {a : Addr} {kvs : List (Key × V)} {ds : List D} : G a = some (.dK kvs) → RpA K Γ G (kvs.map (·.2)) ds → Rp K Γ G (.ref a) (.dic (kvs.map (·.1)) ds)
  | obj {a C dx : Addr} {fs : List (Str × V)} {c : Str} {ds : List D} : G a = some (.ins C dx fs) → Γ c = some C → RpA K Γ G (fs.map (·.2)) ds → Rp K Γ G (.ref a) (.obj c (fs.map (·.1)) ds)
inductive RpA (K : PySem.W.Frag) (Γ : Cls0) (G : Hp) : List V → List D → Prop
  | nil : RpA K Γ G [] []
  | cons {v : V} {vs : List V} {d : D} {ds : List D} : Rp K Γ G v d → RpA K Γ G vs ds → RpA K Γ G (v :: vs) (d :: ds)
end
/-- what stands at p alone, outside of G: its parts in G -/
inductive Own (K : PySem.W.Frag) (Γ : Cls0) (G H : Hp) (p : Addr) : D → Prop
  | lst {xs : List V} {ds : List D} : G p = none → H p = some (.lst xs) → RpA K Γ G xs ds → Own K Γ G H p (.lst ds)
  | dic {kvs : List (Key × V)} {ds : List D} : G p = none → H p = some (.dK kvs) → RpA K Γ G (kvs.map (·.2)) ds → Own K Γ G H p (.dic (kvs.map (·.1)) ds)
  | obj {C dx : Addr} {fs : List (Str × V)} {c : Str} {ds : List D} : G p = none → H p = some (.ins C dx fs) → Γ c = some C → RpA K Γ G (fs.map (·.2)) ds → Own K Γ G H p (.obj c (fs.map (·.1)) ds)
section
variable {K : PySem.W.Frag} {Γ : Cls0} {G G' H H' : Hp} {p : Addr} {d : D}
mutual
theorem Rp.on (s : Same G G') : ∀ {v : V} {d : D}, Rp K Γ G v d → Rp K Γ G' v d
  | _, _, .non => .non
  | _, _, .bl b => .bl b
  | _, _, .int i => .int i
  | _, _, .str x => .str x
  | _, _, .lst h1 h2 => .lst (s _ _ h1) (RpA.on s h2)
  | _, _, .tup h1 h2 => .tup (h1.on s) (RpA.on s h2)
  | _, _, .scr h => .scr (h.on s)
  | _, _, .dic h1 h2 => .dic (s _ _ h1) (RpA.on s h2)
  | _, _, .obj h1 h2 h3 => .obj (s _ _ h1) h2 (RpA.on s h3)
theorem RpA.on (s : Same G G') : ∀ {vs : List V} {ds : List D}, RpA K Γ G vs ds → RpA K Γ G' vs ds
  | _, _, .nil => .nil
  | _, _, .cons h1 h2 => .cons (Rp.on s h1) (RpA.on s h2)
end
theorem RpA.len : ∀ {xs : List V} {ds : List D}, RpA K Γ G xs ds → xs.length = ds.length
  | _, _, .nil => rfl
  | _, _, .cons _ h => by simp [RpA.len h]
theorem RpA.append : ∀ {xs ys : List V} {ds es : List D}, RpA K Γ G xs ds → RpA K Γ G ys es → RpA K Γ G (xs ++ ys) (ds ++ es)
  | _, _, _, _, .nil, h => h
  | _, _, _, _, .cons h1 h2, h => .cons h1 (RpA.append h2 h)
theorem RpA.drop : ∀ (n : Nat) {xs : List V} {ds : List D}, RpA K Γ G xs ds → RpA K Γ G (xs.drop n) (ds.drop n)
  | 0, _, _, h => h
  | n + 1, _, _, .nil => .nil
  | n + 1, _, _, .cons _ h => RpA.drop n h
theorem RpA.take : ∀ (n : Nat) {xs : List V} {ds : List D}, RpA K Γ G xs ds → RpA K Γ G (xs.take n) (ds.take n)
  | 0, _, _, h => .nil
  | n + 1, _, _, .nil => .nil
  | n + 1, _, _, .cons h1 h => .cons h1 (RpA.take n h)
theorem RpA.repf {xs : List V} {ds : List D} (h : RpA K Γ G xs ds) : ∀ n : Nat, RpA K Γ G (List.replicate n xs).flatten (List.replicate n ds).flatten
  | 0 => .nil
  | n + 1 => by
    rw [List.replicate_succ, List.replicate_succ, List.flatten_cons, List.flatten_cons]
    exact RpA.append h (RpA.repf h n)
theorem RpA.at : ∀ {xs : List V} {ds : List D} {i : Nat} {x : V}, RpA K Γ G xs ds → xs[i]? = some x → ∃ d, ds[i]? = some d ∧ Rp K Γ G x d
  | _, _, _, _, .nil, h => by simp at h
  | _, _, 0, _, .cons h1 h2, h => by
    simp at h
    subst h
    exact ⟨_, rfl, h1⟩
  | _, _, i + 1, _, .cons h1 h2, h => by
    obtain ⟨d, e, hd⟩ := RpA.at (i := i) h2 (by simpa using h)
    exact ⟨d, by simpa using e, hd⟩
theorem RpA.to : ∀ {xs : List V} {ds : List D} {i : Nat} {d : D}, RpA K Γ G xs ds → ds[i]? = some d → ∃ x, xs[i]? = some x ∧ Rp K Γ G x d
  | _, _, _, _, .nil, h => by simp at h
  | _, _, 0, _, .cons h1 h2, h => by
    simp at h
    subst h
    exact ⟨_, rfl, h1⟩
  | _, _, i + 1, _, .cons h1 h2, h => by
    obtain ⟨x, e, hx⟩ := RpA.to (i := i) h2 (by simpa using h)
    exact ⟨x, by simpa using e, hx⟩
theorem RpA.set {x : V} {d : D} (h : Rp K Γ G x d) : ∀ {xs : List V} {ds : List D} (i : Nat), RpA K Γ G xs ds → RpA K Γ G (xs.set i x) (ds.set i d)
  | _, _, _, .nil => .nil
  | _, _, 0, .cons _ t => .cons h t
  | _, _, i + 1, .cons h1 t => .cons h1 (RpA.set h i t)
theorem RpA.reverse : ∀ {xs : List V} {ds : List D}, RpA K Γ G xs ds → RpA K Γ G xs.reverse ds.reverse
  | _, _, .nil => .nil
  | _, _, .cons h1 h2 => by
    rw [List.reverse_cons, List.reverse_cons]
    exact RpA.append (RpA.reverse h2) (.cons h1 .nil)
theorem RpA.dropLast : ∀ {xs : List V} {ds : List D}, RpA K Γ G xs ds → RpA K Γ G xs.dropLast ds.dropLast := fun {xs ds} h => by
  rw [List.dropLast_eq_take, List.dropLast_eq_take, h.len]
  exact h.take _
/-! ### data as PyData -/
mutual
def toP : D → Option PyData
  | .non => some .none
  | .bl b => some (.bool b)
  | .int i => some (.int i)
  | .str x => some (.str x)
  | .lst ds => (toPs ds).map .list
  | .tup ds => (toPs ds).map .tuple
  | .scr _ => none
  | .dic _ _ => none
  | .obj _ _ _ => none
def toPs : List D → Option (List PyData)
  | [] => some []
  | d :: ds => match toP d, toPs ds with
    | some p, some ps => some (p :: ps)
    | _, _ => none
end
mutual
theorem Rp.dp : ∀ {v : V} {d : D} {q : PyData}, Rp K Γ G v d → toP d = some q → Dp K G v q
  | _, _, _, .non, e => by rw [toP] at e; cases e; exact .non
  | _, _, _, .bl b, e => by rw [toP] at e; cases e; exact .bl b
  | _, _, _, .int i, e => by rw [toP] at e; cases e; exact .int i
  | _, _, _, .str x, e => by rw [toP] at e; cases e; exact .str x
  | _, _, _, .lst (ds := ds) h1 h2, e => by
    rw [toP] at e
    cases h : toPs ds with
    | none => rw [h] at e; cases e
    | some qs => rw [h] at e; cases e; exact .lst (SqL.of h1) (RpA.dp h2 h)
  | _, _, _, .tup (ds := ds) h1 h2, e => by
    rw [toP] at e
    cases h : toPs ds with
    | none => rw [h] at e; cases e
    | some qs => rw [h] at e; cases e; exact .tup h1 (RpA.dp h2 h)
  | _, _, _, .scr _, e => by rw [toP] at e; cases e
  | _, _, _, .dic _ _, e => by rw [toP] at e; cases e
  | _, _, _, .obj _ _ _, e => by rw [toP] at e; cases e
theorem RpA.dp : ∀ {vs : List V} {ds : List D} {qs : List PyData}, RpA K Γ G vs ds → toPs ds = some qs → DpAll K G vs qs
  | _, _, _, .nil, e => by rw [toPs] at e; cases e; exact .nil
  | _, _, _, .cons (d := d) (ds := ds) h1 h2, e => by
    rw [toPs] at e
    cases a : toP d with
    | none => rw [a] at e; cases e
    | some p =>
      cases b : toPs ds with
      | none => rw [a, b] at e; cases e
      | some ps => rw [a, b] at e; cases e; exact .cons (Rp.dp h1 a) (RpA.dp h2 b)
end
theorem Own.rp (h : Own K Γ G H p d) (s : Same G H) : Rp K Γ H (.ref p) d := by
  cases h with
  | lst _ h2 h3 => exact .lst h2 (h3.on s)
  | dic _ h2 h3 => exact .dic h2 (h3.on s)
  | obj _ h2 h3 h4 => exact .obj h2 h3 (h4.on s)
theorem Own.out (h : Own K Γ G H p d) : G p = none := by cases h <;> assumption
theorem Own.there (h : Own K Γ G H p d) : H p ≠ none := by
  cases h with
  | lst _ e _ => rw [e]; exact fun z => nomatch z
  | dic _ e _ => rw [e]; exact fun z => nomatch z
  | obj _ e _ _ => rw [e]; exact fun z => nomatch z
/-- from one state to another, p not touched -/
theorem Own.go (h : Own K Γ G H p d) (s : Same G G') (n : G' p = none) (e : H' p = H p) : Own K Γ G' H' p d := by
  cases h with
  | lst _ h2 h3 => exact .lst n (e.trans h2) (h3.on s)
  | dic _ h2 h3 => exact .dic n (e.trans h2) (h3.on s)
  | obj _ h2 h3 h4 => exact .obj n (e.trans h2) h3 (h4.on s)
/-- p taken into the ground -/
def tin (G H : Hp) (p : Addr) : Hp := fun b => if b = p then H p else G b
theorem tin_same (h : G p = none) : Same G (tin G H p) := fun b o e => by
  have : b ≠ p := fun z => by subst z; rw [h] at e; cases e
  show (if b = p then H p else G b) = some o
  rw [if_neg this]; exact e
theorem tin_le (s : Same G H) : Same (tin G H p) H := fun b o e => by
  have e : (if b = p then H p else G b) = some o := e
  by_cases z : b = p
  · rw [if_pos z] at e; rw [z]; exact e
  · rw [if_neg z] at e; exact s b o e
theorem tin_at : tin G H p p = H p := if_pos rfl
theorem tin_ne {b : Addr} (h : b ≠ p) : tin G H p b = G b := if_neg h
theorem Own.frz (h : Own K Γ G H p d) : Rp K Γ (tin G H p) (.ref p) d := by
  have s := tin_same (H := H) h.out
  cases h with
  | lst _ h2 h3 => exact .lst (tin_at.trans h2) (h3.on s)
  | dic _ h2 h3 => exact .dic (tin_at.trans h2) (h3.on s)
  | obj _ h2 h3 h4 => exact .obj (tin_at.trans h2) h3 (h4.on s)
end
/-! ### slots -/
inductive Sl where
  | no | im (d : D) | mu (io : Bool) (d : D)
abbrev SEnv := List Sl
def SlR (K : PySem.W.Frag) (Γ : Cls0) (G H : Hp) : Sl → Option V → Prop
  | .no, _ => True
  | .im d, some v => Rp K Γ G v d
  | .mu _ d, some v => ∃ p, v = .ref p ∧ Own K Γ G H p d
  | _, none => False
/-- the address that slot i owns -/
def OwAt (env : SEnv) (σ : L2.St) (i : Nat) (p : Addr) : Prop := (∃ b d, env[i]? = some (.mu b d)) ∧ σ[i]? = some (some (.ref p))
def Ow (env : SEnv) (σ : L2.St) (p : Addr) : Prop := ∃ i, OwAt env σ i p
structure Rel (K : PySem.W.Frag) (Γ : Cls0) (env : SEnv) (σ : L2.St) (G H : Hp) : Prop where
  len : env.length = σ.length
  sub : Same G H
  sl : ∀ (i : Nat) (s : Sl) (o : Option V), env[i]? = some s → σ[i]? = some o → SlR K Γ G H s o
  dj : ∀ (i j : Nat) (p : Addr), OwAt env σ i p → OwAt env σ j p → i = j
/-- what a step of code does to the heap: what stands at A alone may change -/
structure Fr (A : Addr → Prop) (G H G' H' : Hp) : Prop where
  g : Same G G'
  h : ∀ b o, ¬ A b → H b = some o → H' b = some o
  n : ∀ b, G' b ≠ none → G b ≠ none ∨ H b = none ∨ A b
  d : ∀ b, H b ≠ none → H' b ≠ none
theorem Fr.refl {A : Addr → Prop} {G H : Hp} : Fr A G H G H := ⟨Same.refl G, fun _ _ _ e => e, fun _ h => .inl h, fun _ h => h⟩
theorem Fr.trans {A A1 : Addr → Prop} {G H G1 H1 G2 H2 : Hp} (a : Fr A G H G1 H1) (b : Fr A1 G1 H1 G2 H2) (k : ∀ p, A1 p → A p ∨ H p = none) : Fr A G H G2 H2 where
  g := a.g.trans b.g
  h := fun p o n e => b.h p o (fun z => (k p z).elim n fun z => by rw [z] at e; cases e) (a.h p o n e)
  n := fun p z => by
    rcases b.n p z with z | z | z
    · exact a.n p z
    · by_cases q : H p = none
      · exact .inr (.inl q)
      · exact absurd z (a.d p q)
    · rcases k p z with z | z
      · exact .inr (.inr z)
      · exact .inr (.inl z)
  d := fun p z => b.d p (a.d p z)
/-- what the slots are stays; what was owned may have come into the ground -/
structure Ks (env env' : SEnv) : Prop where
  len : env'.length = env.length
  im : ∀ (i : Nat) (d : D), env[i]? = some (.im d) → env'[i]? = some (.im d)
  mu : ∀ (i : Nat) (b : Bool) (d : D), env[i]? = some (.mu b d) → ∃ d', env'[i]? = some (.mu b d') ∨ (b = false ∧ env'[i]? = some (.im d'))
  no : ∀ (i : Nat), env[i]? = some .no → env'[i]? = some .no
theorem Ks.refl (env : SEnv) : Ks env env := ⟨rfl, fun _ _ h => h, fun _ _ d h => ⟨d, .inl h⟩, fun _ h => h⟩
theorem Ks.trans {a b c : SEnv} (h : Ks a b) (k : Ks b c) : Ks a c where
  len := k.len.trans h.len
  im := fun i d e => k.im i d (h.im i d e)
  mu := fun i b d e => by
    obtain ⟨d', z | ⟨z0, z⟩⟩ := h.mu i b d e
    · exact k.mu i b d' z
    · exact ⟨d', .inr ⟨z0, k.im i d' z⟩⟩
  no := fun i e => k.no i (h.no i e)
/-- a slot that is owned now was owned -/
theorem Ks.back {a b : SEnv} (h : Ks a b) {i : Nat} {c : Bool} {d : D} (e : b[i]? = some (.mu c d)) : ∃ d', a[i]? = some (.mu c d') := by
  have hi : i < a.length := by
    rw [← h.len]
    exact (List.getElem?_eq_some_iff.mp e).1
  cases z : a[i] with
  | no => have := h.no i (by rw [List.getElem?_eq_getElem hi, z]); rw [this] at e; cases e
  | im d' => have := h.im i d' (by rw [List.getElem?_eq_getElem hi, z]); rw [this] at e; cases e
  | mu c' d' =>
    have z' : a[i]? = some (.mu c' d') := by rw [List.getElem?_eq_getElem hi, z]
    obtain ⟨d2, k | ⟨_, k⟩⟩ := h.mu i c' d' z'
    · rw [k] at e; cases e; exact ⟨d', z'⟩
    · rw [k] at e; cases e
theorem Ks.ow {a b : SEnv} (h : Ks a b) {σ : L2.St} {p : Addr} (e : Ow b σ p) : Ow a σ p := by
  obtain ⟨i, ⟨c, d, e1⟩, e2⟩ := e
  obtain ⟨d', e1'⟩ := h.back e1
  exact ⟨i, ⟨c, d', e1'⟩, e2⟩
structure Post (K : PySem.W.Frag) (Γ : Cls0) (env : SEnv) (σ : L2.St) (G H : Hp) (env' : SEnv) (G' H' : Hp) : Prop where
  rel : Rel K Γ env' σ G' H'
  ks : Ks env env'
  fr : Fr (Ow env σ) G H G' H'
section
variable {K : PySem.W.Frag} {Γ : Cls0} {env env1 env2 : SEnv} {σ : L2.St} {G H G1 H1 G2 H2 : Hp}
theorem Post.refl (r : Rel K Γ env σ G H) : Post K Γ env σ G H env G H := ⟨r, Ks.refl _, Fr.refl⟩
theorem Post.trans (a : Post K Γ env σ G H env1 G1 H1) (b : Post K Γ env1 σ G1 H1 env2 G2 H2) : Post K Γ env σ G H env2 G2 H2 :=
  ⟨b.rel, a.ks.trans b.ks, a.fr.trans b.fr fun _ z => .inl (a.ks.ow z)⟩
theorem Rel.at (r : Rel K Γ env σ G H) {i : Nat} {s : Sl} (e : env[i]? = some s) : ∃ o, σ[i]? = some o ∧ SlR K Γ G H s o := by
  have hi : i < σ.length := by
    rw [← r.len]
    exact (List.getElem?_eq_some_iff.mp e).1
  exact ⟨σ[i], List.getElem?_eq_getElem hi, r.sl i s _ e (List.getElem?_eq_getElem hi)⟩
theorem Rel.own (r : Rel K Γ env σ G H) {i : Nat} {c : Bool} {d : D} (e : env[i]? = some (.mu c d)) : ∃ p, σ[i]? = some (some (.ref p)) ∧ Own K Γ G H p d := by
  obtain ⟨o, e2, h⟩ := r.at e
  cases o with
  | none => exact h.elim
  | some v =>
    obtain ⟨p, rfl, h⟩ := h
    exact ⟨p, e2, h⟩
theorem Rel.imm (r : Rel K Γ env σ G H) {i : Nat} {d : D} (e : env[i]? = some (.im d)) : ∃ v, σ[i]? = some (some v) ∧ Rp K Γ G v d := by
  obtain ⟨o, e2, h⟩ := r.at e
  cases o with
  | none => exact h.elim
  | some v => exact ⟨v, e2, h⟩
theorem Rel.ow (r : Rel K Γ env σ G H) {p : Addr} (h : Ow env σ p) : G p = none ∧ H p ≠ none := by
  obtain ⟨i, ⟨c, d, e1⟩, e2⟩ := h
  obtain ⟨q, e3, o⟩ := r.own e1
  rw [e2] at e3
  cases e3
  exact ⟨o.out, o.there⟩
/-- the heap grows by what is new; the new things may come into the ground -/
theorem Rel.grow (r : Rel K Γ env σ G H) (s : Same H H1) (sg : Same G G1) (sb : Same G1 H1) (n : ∀ b, G1 b ≠ none → G b ≠ none ∨ H b = none) : Post K Γ env σ G H env G1 H1 := by
  refine ⟨⟨r.len, sb, fun i sl o e1 e2 => ?_, r.dj⟩, Ks.refl _, ⟨sg, fun b o _ e => s b o e, fun b z => (n b z).elim .inl fun z => .inr (.inl z), fun b z => ?_⟩⟩
  · have h := r.sl i sl o e1 e2
    cases sl with
    | no => trivial
    | im d =>
      cases o with
      | none => exact h
      | some v => exact h.on sg
    | mu c d =>
      cases o with
      | none => exact h
      | some v =>
        obtain ⟨p, rfl, h⟩ := h
        refine ⟨p, rfl, h.go sg ?_ ?_⟩
        · cases z : G1 p with
          | none => rfl
          | some u =>
            rcases n p (by rw [z]; exact fun z => nomatch z) with q | q
            · exact absurd h.out q
            · exact absurd q h.there
        · cases z : H p with
          | none => exact absurd z h.there
          | some u => exact s p u z
  · cases q : H b with
    | none => exact absurd q z
    | some u => rw [s b u q]; exact fun z => nomatch z
/-- a new thing at p, in the ground -/
theorem Rel.new (r : Rel K Γ env σ G H) {p : Addr} {o : HO} (np : H p = none) : Post K Γ env σ G H env (upd G p o) (upd H p o) := by
  have gp : G p = none := by
    cases z : G p with
    | none => rfl
    | some u => rw [r.sub p u z] at np; cases np
  refine r.grow (snew (Same.refl _) np) (snew (Same.refl _) gp) (fun b u e => ?_) fun b z => ?_
  · by_cases q : b = p
    · subst q; rw [upd_same] at e ⊢; exact e
    · rw [upd_ne q] at e ⊢; exact r.sub b u e
  · by_cases q : b = p
    · subst q; exact .inr np
    · rw [upd_ne q] at z; exact .inl z
/-- a new thing at p, beside the ground -/
theorem Rel.newF (r : Rel K Γ env σ G H) {p : Addr} {o : HO} (np : H p = none) : Post K Γ env σ G H env G (upd H p o) ∧ G p = none ∧ ¬ Ow env σ p := by
  have gp : G p = none := by
    cases z : G p with
    | none => rfl
    | some u => rw [r.sub p u z] at np; cases np
  exact ⟨r.grow (snew (Same.refl _) np) (Same.refl _) (fun b u e => snew (Same.refl _) np b u (r.sub b u e)) fun b z => .inl z, gp, fun z => (r.ow z).2 np⟩
/-- what slot i owns comes into the ground -/
theorem Rel.frz (r : Rel K Γ env σ G H) {i : Nat} {d : D} {p : Addr} (e : env[i]? = some (.mu false d)) (ep : σ[i]? = some (some (.ref p))) : Post K Γ env σ G H (env.set i (.im d)) (tin G H p) H := by
  obtain ⟨q, e3, ow⟩ := r.own e
  rw [ep] at e3
  cases e3
  have sg := tin_same (H := H) ow.out
  have hi := (List.getElem?_eq_some_iff.mp e).1
  refine ⟨⟨by rw [List.length_set]; exact r.len, tin_le r.sub, fun j sl o e1 e2 => ?_, fun j k a h1 h2 => ?_⟩, ⟨List.length_set, fun j d' h => ?_, fun j c' d' h => ?_, fun j h => ?_⟩, ⟨sg, fun _ _ _ z => z, fun b z => ?_, fun _ z => z⟩⟩
  · by_cases hj : j = i
    · subst hj
      rw [List.getElem?_set_self hi] at e1
      cases e1
      rw [ep] at e2
      cases e2
      exact ow.frz
    · rw [List.getElem?_set_ne (Ne.symm hj)] at e1
      have h := r.sl j sl o e1 e2
      cases sl with
      | no => trivial
      | im d =>
        cases o with
        | none => exact h
        | some v => exact h.on sg
      | mu c d' =>
        cases o with
        | none => exact h
        | some v =>
          obtain ⟨a, rfl, h⟩ := h
          refine ⟨a, rfl, h.go sg ?_ rfl⟩
          rw [tin_ne]
          · exact h.out
          · intro z
            subst z
            exact hj (r.dj j i a ⟨⟨_, _, e1⟩, e2⟩ ⟨⟨_, _, e⟩, ep⟩)
  · have back : ∀ {j : Nat}, OwAt (env.set i (.im d)) σ j a → OwAt env σ j a := fun {j} z => by
      obtain ⟨⟨c', d', z1⟩, z2⟩ := z
      by_cases hj : j = i
      · subst hj
        rw [List.getElem?_set_self hi] at z1
        cases z1
      · rw [List.getElem?_set_ne (Ne.symm hj)] at z1
        exact ⟨⟨c', d', z1⟩, z2⟩
    exact r.dj j k a (back h1) (back h2)
  · by_cases hj : j = i
    · subst hj; rw [e] at h; cases h
    · rw [List.getElem?_set_ne (Ne.symm hj)]; exact h
  · by_cases hj : j = i
    · subst hj; rw [e] at h; cases h; exact ⟨d, .inr ⟨rfl, List.getElem?_set_self hi⟩⟩
    · exact ⟨d', .inl (by rw [List.getElem?_set_ne (Ne.symm hj)]; exact h)⟩
  · by_cases hj : j = i
    · subst hj; rw [e] at h; cases h
    · rw [List.getElem?_set_ne (Ne.symm hj)]; exact h
  · by_cases hb : b = p
    · subst hb; exact .inr (.inr ⟨i, ⟨_, d, e⟩, ep⟩)
    · rw [tin_ne hb] at z; exact .inl z
end
/-! ### what an expression gives -/
inductive Rv where
  | v (d : D) | p (i : Nat) | f (d : D)
def RvR (K : PySem.W.Frag) (Γ : Cls0) (env : SEnv) (σ : L2.St) (H0 G H : Hp) (x : V) : Rv → Prop
  | .v d => Rp K Γ G x d
  | .p i => σ[i]? = some (some x) ∧ ∃ d, (∃ b, env[i]? = some (.mu b d)) ∨ env[i]? = some (.im d)
  | .f d => ∃ p, x = .ref p ∧ Own K Γ G H p d ∧ ¬ Ow env σ p ∧ H0 p = none
/-- what it is now -/
def dr (env : SEnv) : Rv → Option D
  | .v d => some d
  | .f d => some d
  | .p i => match env[i]? with
    | some (.mu _ d) => some d
    | some (.im d) => some d
    | _ => none
/-- kept for good -/
def fz (env : SEnv) : Rv → Option (D × SEnv)
  | .v d => some (d, env)
  | .f d => some (d, env)
  | .p i => match env[i]? with
    | some (.mu false d) => some (d, env.set i (.im d))
    | some (.im d) => some (d, env)
    | _ => none
section
variable {K : PySem.W.Frag} {Γ : Cls0} {env env1 env2 : SEnv} {σ : L2.St} {H0 G H G1 H1 G2 H2 : Hp} {x : V} {r : Rv} {d : D}
theorem RvR.step (h : RvR K Γ env σ H0 G H x r) (k : Post K Γ env σ G H env1 G1 H1) : RvR K Γ env1 σ H0 G1 H1 x r := by
  cases r with
  | v d => exact Rp.on k.fr.g h
  | p i =>
    obtain ⟨h1, d, ⟨b, h2⟩ | h2⟩ := h
    · obtain ⟨d', z | ⟨_, z⟩⟩ := k.ks.mu i b d h2
      · exact ⟨h1, d', .inl ⟨b, z⟩⟩
      · exact ⟨h1, d', .inr z⟩
    · exact ⟨h1, d, .inr (k.ks.im i d h2)⟩
  | f d =>
    obtain ⟨p, e, o, n, n0⟩ := h
    refine ⟨p, e, o.go k.fr.g ?_ ?_, fun z => n (k.ks.ow z), n0⟩
    · cases z : G1 p with
      | none => rfl
      | some u =>
        rcases k.fr.n p (by rw [z]; exact fun z => nomatch z) with q | q | q
        · exact absurd o.out q
        · exact absurd q o.there
        · exact absurd q n
    · cases z : H p with
      | none => exact absurd z o.there
      | some u => exact k.fr.h p u n z
theorem dr_mu {i : Nat} {b : Bool} {d : D} (e : env[i]? = some (.mu b d)) : dr env (.p i) = some d := by simp only [dr, e]
theorem dr_im {i : Nat} {d : D} (e : env[i]? = some (.im d)) : dr env (.p i) = some d := by simp only [dr, e]
theorem fz_mu {i : Nat} {d : D} (e : env[i]? = some (.mu false d)) : fz env (.p i) = some (d, env.set i (.im d)) := by simp only [fz, e]
theorem fz_im {i : Nat} {d : D} (e : env[i]? = some (.im d)) : fz env (.p i) = some (d, env) := by simp only [fz, e]
/-- read now -/
theorem RvR.rd (h : RvR K Γ env σ H0 G H x r) (rel : Rel K Γ env σ G H) (e : dr env r = some d) : Rp K Γ H x d := by
  cases r with
  | v d' => cases e; exact Rp.on rel.sub h
  | f d' =>
    cases e
    obtain ⟨p, rfl, o, n⟩ := h
    exact o.rp rel.sub
  | p i =>
    obtain ⟨h1, d', ⟨b, h2⟩ | h2⟩ := h
    · rw [dr_mu h2] at e
      cases e
      obtain ⟨p, e2, o⟩ := rel.own h2
      rw [h1] at e2
      cases e2
      exact o.rp rel.sub
    · rw [dr_im h2] at e
      cases e
      obtain ⟨v, e2, o⟩ := rel.imm h2
      rw [h1] at e2
      cases e2
      exact o.on rel.sub
/-- a list: its parts stand in the ground -/
theorem RvR.lst {ds : List D} (h : RvR K Γ env σ H0 G H x r) (rel : Rel K Γ env σ G H) (e : dr env r = some (.lst ds)) : ∃ a xs, x = .ref a ∧ H a = some (.lst xs) ∧ RpA K Γ G xs ds := by
  have own : ∀ p, Own K Γ G H p (.lst ds) → ∃ xs, H p = some (.lst xs) ∧ RpA K Γ G xs ds := fun p o => by
    cases o with
    | lst _ a b => exact ⟨_, a, b⟩
  have imm : Rp K Γ G x (.lst ds) → ∃ a xs, x = .ref a ∧ H a = some (.lst xs) ∧ RpA K Γ G xs ds := fun o => by
    cases o with
    | lst a b => exact ⟨_, _, rfl, rel.sub _ _ a, b⟩
  cases r with
  | v d' => cases e; exact imm h
  | f d' =>
    cases e
    obtain ⟨p, rfl, o, n⟩ := h
    obtain ⟨xs, a, b⟩ := own p o
    exact ⟨p, xs, rfl, a, b⟩
  | p i =>
    obtain ⟨h1, d', ⟨b, h2⟩ | h2⟩ := h
    · rw [dr_mu h2] at e
      cases e
      obtain ⟨p, e2, o⟩ := rel.own h2
      rw [h1] at e2
      cases e2
      obtain ⟨xs, a, b⟩ := own p o
      exact ⟨p, xs, rfl, a, b⟩
    · rw [dr_im h2] at e
      cases e
      obtain ⟨v, e2, o⟩ := rel.imm h2
      rw [h1] at e2
      cases e2
      exact imm o
theorem RvR.tup {ds : List D} (h : RvR K Γ env σ H0 G H x r) (rel : Rel K Γ env σ G H) (e : dr env r = some (.tup ds)) : ∃ a xs, x = .ref a ∧ SqT K G a xs ∧ RpA K Γ G xs ds := by
  have imm : Rp K Γ G x (.tup ds) → ∃ a xs, x = .ref a ∧ SqT K G a xs ∧ RpA K Γ G xs ds := fun o => by
    cases o with
    | tup a b => exact ⟨_, _, rfl, a, b⟩
  cases r with
  | v d' => cases e; exact imm h
  | f d' =>
    cases e
    obtain ⟨p, rfl, o, n⟩ := h
    cases o
  | p i =>
    obtain ⟨h1, d', ⟨b, h2⟩ | h2⟩ := h
    · rw [dr_mu h2] at e
      cases e
      obtain ⟨p, e2, o⟩ := rel.own h2
      cases o
    · rw [dr_im h2] at e
      cases e
      obtain ⟨v, e2, o⟩ := rel.imm h2
      rw [h1] at e2
      cases e2
      exact imm o
/-- kept for good: it comes into the ground; G0, H0: the start of the expression -/
theorem RvR.fz {env0 env' : SEnv} {G0 : Hp} (h : RvR K Γ env σ H0 G H x r) (k : Post K Γ env0 σ G0 H0 env G H) (e : fz env r = some (d, env')) : ∃ G', Post K Γ env0 σ G0 H0 env' G' H ∧ Rp K Γ G' x d := by
  have rel := k.rel
  cases r with
  | v d' => cases e; exact ⟨G, k, h⟩
  | f d' =>
    cases e
    obtain ⟨p, rfl, o, n, n0⟩ := h
    have sg := tin_same (H := H) o.out
    refine ⟨tin G H p, ⟨⟨rel.len, tin_le rel.sub, fun j sl v e1 e2 => ?_, rel.dj⟩, k.ks, ⟨k.fr.g.trans sg, k.fr.h, fun b z => ?_, k.fr.d⟩⟩, o.frz⟩
    · have h := rel.sl j sl v e1 e2
      cases sl with
      | no => trivial
      | im d =>
        cases v with
        | none => exact h
        | some v => exact h.on sg
      | mu c d' =>
        cases v with
        | none => exact h
        | some v =>
          obtain ⟨a, rfl, h⟩ := h
          refine ⟨a, rfl, h.go sg ?_ rfl⟩
          rw [tin_ne]
          · exact h.out
          · intro z
            subst z
            exact n ⟨j, ⟨_, _, e1⟩, e2⟩
    · by_cases hb : b = p
      · subst hb
        exact .inr (.inl n0)
      · rw [tin_ne hb] at z; exact k.fr.n b z
  | p i =>
    obtain ⟨h1, d', ⟨b, h2⟩ | h2⟩ := h
    · cases b with
      | true => simp only [EV.fz, h2] at e; cases e
      | false =>
        rw [fz_mu h2] at e
        cases e
        obtain ⟨p, e2, o⟩ := rel.own h2
        rw [h1] at e2
        cases e2
        exact ⟨_, k.trans (rel.frz h2 h1), o.frz⟩
    · rw [fz_im h2] at e
      cases e
      obtain ⟨v, e2, o⟩ := rel.imm h2
      rw [h1] at e2
      cases e2
      exact ⟨G, k, o⟩
end
end EV
set_option Elab.async false
set_option linter.all false
set_option maxRecDepth 100000
set_option maxHeartbeats 4000000
/-! Readings made of functions on data: expressions. -/
namespace EV
open PySem PySem.Spec PyProof.Rows L2 PySem.NearX
inductive Out (α : Type) where
  | ok (a : α) (e : SEnv) | ex (c : Str) (d : Option (Str × D)) (e : SEnv) | bad
/-- one thing behind another -/
def eB {α β : Type} (f : SEnv → Out α) (k : α → SEnv → Out β) : SEnv → Out β := fun env => match f env with
  | .ok r e => k r e
  | .ex c d e => .ex c d e
  | .bad => .bad
/-- what is raised: of a class, with one field or none -/
def ExR (K : PySem.W.Frag) (Γ : Cls0) (G H : Hp) (cls : Value) (dx : Option Addr) (c : Str) (d : Option (Str × D)) : Prop := ∃ C, Γ c = some C ∧ cls = .ref C ∧
  match d with
  | none => dx = none
  | some (nm, z) => ∃ x u, dx = some x ∧ H x = some (.xd [(nm, u)]) ∧ Rp K Γ G u z
abbrev RR (α β : Type) := SEnv → L2.St → Hp → Hp → Hp → β → α → Prop
/-- what is to be shown when o has come, from the start env0, G0, H0 -/
structure At (K : PySem.W.Frag) (Γ : Cls0) (W : WX) (σ : L2.St) (env0 : SEnv) (G0 H0 : Hp) {α β : Type} (R : RR α β) (o : Out α) (Q : β → Hp → Prop) : Prop where
  nb : o ≠ .bad
  ok : ∀ r env' v G' H', o = .ok r env' → Post K Γ env0 σ G0 H0 env' G' H' → R env' σ H0 G' H' v r → Q v H'
  ex : ∀ c d env' cls dx G' H', o = .ex c d env' → Post K Γ env0 σ G0 H0 env' G' H' → ExR K Γ G' H' cls dx c d → W cls dx σ H'
def tX (K : PySem.W.Frag) (Γ : Cls0) (W : WX) {α β : Type} (R : RR α β) (f : SEnv → Out α) : L2.St → Hp → (β → Hp → Prop) → Prop := fun σ H Q =>
  ∃ env G, Rel K Γ env σ G H ∧ At K Γ W σ env G H R (f env) Q
abbrev RE (K : PySem.W.Frag) (Γ : Cls0) : RR Rv V := fun env σ H0 G H v r => RvR K Γ env σ H0 G H v r
abbrev RK (K : PySem.W.Frag) (Γ : Cls0) : RR D V := fun _ _ _ G _ v d => Rp K Γ G v d
abbrev RB : RR Bool Bool := fun _ _ _ _ _ b c => b = c
abbrev RA (K : PySem.W.Frag) (Γ : Cls0) : RR (List D) (List V) := fun _ _ _ G _ vs ds => RpA K Γ G vs ds
abbrev tE (K : PySem.W.Frag) (Γ : Cls0) (W : WX) (f : SEnv → Out Rv) : TE := tX K Γ W (RE K Γ) f
abbrev tK (K : PySem.W.Frag) (Γ : Cls0) (W : WX) (f : SEnv → Out D) : TE := tX K Γ W (RK K Γ) f
abbrev tT (K : PySem.W.Frag) (Γ : Cls0) (W : WX) (f : SEnv → Out Bool) : TT := tX K Γ W RB f
abbrev tAs (K : PySem.W.Frag) (Γ : Cls0) (W : WX) (f : SEnv → Out (List D)) : TA := tX K Γ W (RA K Γ) f
section
variable {K : PySem.W.Frag} {Γ : Cls0} {W : WX} {σ : L2.St} {env0 env env1 : SEnv} {G0 H0 G H G1 H1 : Hp} {α β γ δ : Type}
theorem At.run {R : RR α β} {o : Out α} {Q : β → Hp → Prop} (h : At K Γ W σ env G H R o Q) (r : α) (v : β) (env1 : SEnv) (G1 H1 : Hp) (e : o = .ok r env1) (p : Post K Γ env σ G H env1 G1 H1) (rr : R env1 σ H G1 H1 v r) : Q v H1 := h.ok r env1 v G1 H1 e p rr
/-- f, then k -/
theorem At.bind {R : RR α β} {RZ : RR γ δ} {f : SEnv → Out α} {k : α → SEnv → Out γ} {Q : δ → Hp → Prop} {T : β → Hp → Prop} (h : At K Γ W σ env0 G0 H0 RZ (eB f k env) Q) (p : Post K Γ env0 σ G0 H0 env G H)
    (hT : ∀ r env1 v G1 H1, f env = .ok r env1 → Post K Γ env σ G H env1 G1 H1 → R env1 σ H G1 H1 v r → At K Γ W σ env0 G0 H0 RZ (k r env1) Q → T v H1) : At K Γ W σ env G H R (f env) T := by
  have h' := h
  unfold eB at h'
  refine ⟨fun z => ?_, fun r env1 v G1 H1 e p1 rr => ?_, fun c d env1 cls dx G1 H1 e p1 x => ?_⟩
  · rw [z] at h'; exact h'.nb rfl
  · rw [e] at h'
    exact hT r env1 v G1 H1 e p1 rr h'
  · rw [e] at h'
    exact h'.ex c d env1 cls dx G1 H1 rfl (p.trans p1) x
theorem tX.bind {R : RR α β} {RZ : RR γ δ} {f : SEnv → Out α} {k : α → SEnv → Out γ} {Q : δ → Hp → Prop} {T : β → Hp → Prop} (h : At K Γ W σ env0 G0 H0 RZ (eB f k env) Q) (p : Post K Γ env0 σ G0 H0 env G H)
    (hT : ∀ r env1 v G1 H1, f env = .ok r env1 → Post K Γ env σ G H env1 G1 H1 → R env1 σ H G1 H1 v r → At K Γ W σ env0 G0 H0 RZ (k r env1) Q → T v H1) : tX K Γ W R f σ H T := ⟨env, G, p.rel, h.bind p hT⟩
theorem Post.dom (p : Post K Γ env0 σ G0 H0 env G H) {b : Addr} (h : H b = none) : H0 b = none := by
  by_cases z : H0 b = none
  · exact z
  · exact absurd h (p.fr.d b z)
/-- a result that is new at a later start is new -/
theorem RvR.early {x : V} {r : Rv} (h : RvR K Γ env1 σ H G1 H1 x r) (p : Post K Γ env0 σ G0 H0 env G H) : RvR K Γ env1 σ H0 G1 H1 x r := by
  cases r with
  | v d => exact h
  | p i => exact h
  | f d =>
    obtain ⟨a, e, o, n, n0⟩ := h
    exact ⟨a, e, o, n, p.dom n0⟩
theorem At.imp {R : RR α β} {o : Out α} {Q Q' : β → Hp → Prop} (h : At K Γ W σ env G H R o Q) (k : ∀ v H1, Q v H1 → Q' v H1) : At K Γ W σ env G H R o Q' := ⟨h.nb, fun r e v G1 H1 a b c => k v H1 (h.ok r e v G1 H1 a b c), h.ex⟩
end
theorem peI {X : Cx} {e : Expr} {t t' : TE} (h : PE X e t) (k : ∀ σ H Q, t' σ H Q → t σ H Q) : PE X e t' := ⟨fun pins s σ H Q I z => h.run pins s σ H Q I (k σ H Q z)⟩
theorem ptI {X : Cx} {e : Expr} {t t' : TT} (h : PT X e t) (k : ∀ σ H Q, t' σ H Q → t σ H Q) : PT X e t' := ⟨fun pins s σ H Q I z => h.run pins s σ H Q I (k σ H Q z)⟩
theorem pwI {X : Cx} {e : Expr} {t t' : TT} (h : PW X e t) (k : ∀ σ H Q, t' σ H Q → t σ H Q) : PW X e t' := ⟨fun w pins s σ H Q I z => h.run w pins s σ H Q I (k σ H Q z)⟩
theorem paI {X : Cx} {e : List Expr} {t t' : TA} (h : PA X e t) (k : ∀ σ H Q, t' σ H Q → t σ H Q) : PA X e t' := ⟨fun pos pins s σ H Q I z => h.run pos pins s σ H Q I (k σ H Q z)⟩
theorem psI {X : Cx} {e : Stmt} {t t' : TS} (h : PS X e t) (k : ∀ D σ H, t' D σ H → t D σ H) : PS X e t' := ⟨fun pins s σ H D I z => h.run pins s σ H D I (k D σ H z)⟩
theorem pssI {X : Cx} {e : List Stmt} {t t' : TS} (h : PSs X e t) (k : ∀ D σ H, t' D σ H → t D σ H) : PSs X e t' := ⟨fun pins s σ H D I z => h.run pins s σ H D I (k D σ H z)⟩
/-! ### names, constants -/
def eVar (i : Nat) : SEnv → Out Rv := fun env => match env[i]? with
  | some (.im d) => .ok (.v d) env
  | some (.mu _ d) => .ok (.p i) env
  | _ => .bad
def eC (d : D) : SEnv → Out Rv := fun env => .ok (.v d) env
section
variable {X : Cx} {Γ : Cls0} {W : WX} {pos : Pos}
theorem sE_var {i : Nat} {x : Str} (h : PE X (.Name x pos) (tVar i)) : PE X (.Name x pos) (tE X.K Γ W (eVar i)) := peI h fun σ H Q ⟨env, G, rel, a⟩ => by
  unfold eVar at a
  cases e : env[i]? with
  | none => rw [e] at a; exact absurd rfl a.nb
  | some s =>
    cases s with
    | no => rw [e] at a; exact absurd rfl a.nb
    | im d =>
      rw [e] at a
      obtain ⟨v, e2, h⟩ := rel.imm e
      exact ⟨v, e2, a.run _ v env G H rfl (Post.refl rel) h⟩
    | mu b d =>
      rw [e] at a
      obtain ⟨p, e2, h⟩ := rel.own e
      exact ⟨_, e2, a.run (.p i) (.ref p) env G H rfl (Post.refl rel) (And.intro e2 ⟨d, Or.inl ⟨b, e⟩⟩)⟩
theorem sE_c {e : Expr} {v : V} {d : D} (h : PE X e (tC v)) (r : ∀ G, Rp X.K Γ G v d) : PE X e (tE X.K Γ W (eC d)) := peI h fun σ H Q ⟨env, G, rel, a⟩ => a.run _ v env G H rfl (Post.refl rel) (r G)
theorem sE_int {i : Int} {j} : PE X (.Constant (.int i) j pos) (tE X.K Γ W (eC (.int i))) := sE_c pe_int fun _ => .int i
theorem sE_str {x : Str} {j} : PE X (.Constant (.str x) j pos) (tE X.K Γ W (eC (.str x))) := sE_c pe_str fun _ => .str x
theorem sE_bl {b : Bool} {j} : PE X (.Constant (.bool b) j pos) (tE X.K Γ W (eC (.bl b))) := sE_c pe_bl fun _ => .bl b
theorem sE_non {j} : PE X (.Constant .none j pos) (tE X.K Γ W (eC .non)) := sE_c pe_non fun _ => .non
end
/-! ### kept values, argument lists, displays -/
def eK (f : SEnv → Out Rv) : SEnv → Out D := eB f fun r env => match fz env r with
  | some (d, env') => .ok d env'
  | none => .bad
def eNil : SEnv → Out (List D) := fun env => .ok [] env
def eCons (f : SEnv → Out Rv) (g : SEnv → Out (List D)) : SEnv → Out (List D) := eB (eK f) fun d => eB g fun ds env => .ok (d :: ds) env
def eTup (g : SEnv → Out (List D)) : SEnv → Out Rv := eB g fun ds env => if ds.length ≤ sizeLine then .ok (.v (.tup ds)) env else .bad
def eLst (g : SEnv → Out (List D)) : SEnv → Out Rv := eB g fun ds env => if ds.length ≤ sizeLine then .ok (.f (.lst ds)) env else .bad
section
variable {X : Cx} {Γ : Cls0} {W : WX} {pos : Pos} {e : Expr} {es : List Expr} {f : SEnv → Out Rv} {g : SEnv → Out (List D)}
theorem sK (h : PE X e (tE X.K Γ W f)) : PE X e (tK X.K Γ W (eK f)) := peI h fun σ H Q ⟨env, G, rel, a⟩ => tX.bind a (Post.refl rel) fun r env1 v G1 H1 e1 p1 rr a1 => by
  cases z : fz env1 r with
  | none => simp only [z] at a1; exact absurd rfl a1.nb
  | some q =>
    obtain ⟨d, env'⟩ := q
    simp only [z] at a1
    obtain ⟨G', p', hd⟩ := RvR.fz rr p1 z
    exact a1.run d v env' G' H1 rfl p' hd
theorem sA_nil : PA X [] (tAs X.K Γ W eNil) := paI pa_nil fun σ H Q ⟨env, G, rel, a⟩ => a.run [] [] env G H rfl (Post.refl rel) .nil
theorem sA_cons (h : PE X e (tE X.K Γ W f)) (r : PA X es (tAs X.K Γ W g)) (hs : starEach (e :: es) X.env = (false, eval e X.env) :: starEach es X.env := by rfl) : PA X (e :: es) (tAs X.K Γ W (eCons f g)) :=
  paI (pa_cons (sK h) r hs) fun σ H Q ⟨env, G, rel, a⟩ => tX.bind a (Post.refl rel) fun d env1 v G1 H1 e1 p1 rr a1 => tX.bind a1 p1 fun ds env2 vs G2 H2 e2 p2 rr2 a2 => a2.run _ _ env2 G2 H2 rfl (p1.trans p2) (.cons (rr.on p2.fr.g) rr2)
theorem sE_tup {x1} (h : PA X es (tAs X.K Γ W g)) : PE X (.Tuple es x1 pos) (tE X.K Γ W (eTup g)) := peI (pe_tup h) fun σ H Q ⟨env, G, rel, a⟩ => tX.bind a (Post.refl rel) fun ds env1 vs G1 H1 e1 p1 rr a1 => by
  have hl := rr.len
  by_cases z : ds.length ≤ sizeLine
  · simp only [z, if_true] at a1
    refine ⟨by rw [hl]; exact z, fun p np => ?_⟩
    have k := p1.rel.new (o := .tup vs) np
    exact a1.run (.v (.tup ds)) (.ref p) env1 _ _ rfl (p1.trans k) (Rp.tup (.inl (.inl upd_same)) (rr.on k.fr.g))
  · simp only [z, if_false] at a1; exact absurd rfl a1.nb
theorem sE_lst (h : PA X es (tAs X.K Γ W g)) : PE X (.List es pos) (tE X.K Γ W (eLst g)) := peI (pe_lst h) fun σ H Q ⟨env, G, rel, a⟩ => tX.bind a (Post.refl rel) fun ds env1 vs G1 H1 e1 p1 rr a1 => by
  have hl := rr.len
  by_cases z : ds.length ≤ sizeLine
  · simp only [z, if_true] at a1
    refine ⟨by rw [hl]; exact z, fun p np => ?_⟩
    obtain ⟨k, gp, no⟩ := p1.rel.newF (o := .lst vs) np
    exact a1.run (.f (.lst ds)) (.ref p) env1 _ _ rfl (p1.trans k) ⟨p, rfl, Own.lst gp upd_same rr, no, p1.dom np⟩
  · simp only [z, if_false] at a1; exact absurd rfl a1.nb
end
/-! ### operators by their values -/
/-- the rule rr of two values is served by the function h -/
def R2ok (K : PySem.W.Frag) (Γ : Cls0) (rr : R2) (h : SEnv → Rv → Rv → Option Rv) : Prop := ∀ (σ : L2.St) (env : SEnv) (G H HA HB : Hp) (x y : V) (r1 r2 r : Rv) (Q : VK), Rel K Γ env σ G H → RvR K Γ env σ HA G H x r1 → RvR K Γ env σ HB G H y r2 → h env r1 r2 = some r →
  (∀ v G' H', Post K Γ env σ G H env G' H' → RvR K Γ env σ H G' H' v r → Q v H') → rr x y H Q
def eOp (h : SEnv → Rv → Rv → Option Rv) (fa fb : SEnv → Out Rv) : SEnv → Out Rv := eB fa fun r1 => eB fb fun r2 env => match h env r1 r2 with
  | some r => .ok r env
  | none => .bad
section
variable {X : Cx} {Γ : Cls0} {W : WX} {pos : Pos} {a b : Expr} {fa fb : SEnv → Out Rv} {rr : R2} {h : SEnv → Rv → Rv → Option Rv}
theorem eOp_run {K : PySem.W.Frag} {σ : L2.St} {H : Hp} {Q : VK} (hh : R2ok K Γ rr h) (z : tE K Γ W (eOp h fa fb) σ H Q) : tOp rr (tE K Γ W fa) (tE K Γ W fb) σ H Q := by
  obtain ⟨env, G, rel, at_⟩ := z
  refine tX.bind at_ (Post.refl rel) fun r1 env1 x G1 H1 e1 p1 rr1 a1 => tX.bind a1 p1 fun r2 env2 y G2 H2 e2 p2 rr2 a2 => ?_
  cases q : h env2 r1 r2 with
  | none => simp only [q] at a2; exact absurd rfl a2.nb
  | some r =>
    simp only [q] at a2
    refine hh σ env2 G2 H2 H H1 x y r1 r2 r Q p2.rel (rr1.step p2) rr2 q fun v G' H' k rv => ?_
    exact a2.run r v env2 G' H' rfl ((p1.trans p2).trans k) (rv.early (p1.trans p2))
theorem sE_op {op : Operator} (ho : OpR X (binaryOp op) rr) (hh : R2ok X.K Γ rr h) (ha : PE X a (tE X.K Γ W fa)) (hb : PE X b (tE X.K Γ W fb)) : PE X (.BinOp a op b pos) (tE X.K Γ W (eOp h fa fb)) := peI (pe_op ho ha hb) fun σ H Q z => eOp_run hh z
theorem sE_cmp {op : CmpOp} (ho : OpR X (compareOp op) rr) (hh : R2ok X.K Γ rr h) (ha : PE X a (tE X.K Γ W fa)) (hb : PE X b (tE X.K Γ W fb)) (hm : behindInMarks op b = false) : PE X (.Compare a [op] [b] pos) (tE X.K Γ W (eOp h fa fb)) := peI (pe_cmpR ho ha hb hm) fun σ H Q z => eOp_run hh z
theorem sE_ix (ho : IxR X rr) (hh : R2ok X.K Γ rr h) (ha : PE X a (tE X.K Γ W fa)) (hb : PE X b (tE X.K Γ W fb)) (hs : PlainIx b) : PE X (.Subscript a b pos) (tE X.K Γ W (eOp h fa fb)) := peI (pe_ix ho ha hb hs) fun σ H Q z => eOp_run hh z
/-- by a pure function of what is read now -/
def h2 (g : D → D → Option D) : SEnv → Rv → Rv → Option Rv := fun env r1 r2 => match dr env r1, dr env r2 with
  | some a, some b => (g a b).map .v
  | _, _ => none
theorem h2_inv {g : D → D → Option D} {env : SEnv} {r1 r2 r : Rv} (e : h2 g env r1 r2 = some r) : ∃ a b c, dr env r1 = some a ∧ dr env r2 = some b ∧ g a b = some c ∧ r = .v c := by
  unfold h2 at e
  cases e1 : dr env r1 with
  | none => rw [e1] at e; cases e
  | some a =>
    cases e2 : dr env r2 with
    | none => rw [e1, e2] at e; cases e
    | some b =>
      rw [e1, e2] at e
      obtain ⟨c, h1, h2⟩ := Option.map_eq_some_iff.mp e
      exact ⟨a, b, c, rfl, rfl, h1, h2.symm⟩
theorem R2ok.pure {K : PySem.W.Frag} {g : D → D → Option D} (k : ∀ (H : Hp) (x y : V) (a b c : D) (Q : VK), Rp K Γ H x a → Rp K Γ H y b → g a b = some c → (∀ v, (∀ G, Rp K Γ G v c) → Q v H) → rr x y H Q) : R2ok K Γ rr (h2 g) := by
  intro σ env G H HA HB x y r1 r2 r Q rel h1 h2 e q
  obtain ⟨a, b, c, e1, e2, e3, rfl⟩ := h2_inv e
  exact k H x y a b c Q (h1.rd rel e1) (h2.rd rel e2) e3 fun v hv => q v G H (Post.refl rel) (hv G)
end
end EV
set_option Elab.async false
set_option linter.all false
set_option maxRecDepth 100000
set_option maxHeartbeats 4000000
/-! Operators, comparisons, items, slices, tests. -/
namespace EV
open PySem PySem.Spec PyProof.Rows L2 PySem.NearX
section
variable {K : PySem.W.Frag} {Γ : Cls0}
/-! ### + -/
def hAdd (env : SEnv) (r1 r2 : Rv) : Option Rv := match dr env r1, dr env r2 with
  | some (.int i), some (.int j) => some (.v (.int (i + j)))
  | some (.str x), some (.str y) => if x.length + y.length ≤ sizeLine then some (.v (.str (x ++ y))) else none
  | some (.lst a), some (.lst b) => if a.length + b.length ≤ sizeLine then some (.f (.lst (a ++ b))) else none
  | some (.tup a), some (.tup b) => if a.length + b.length ≤ sizeLine then some (.v (.tup (a ++ b))) else none
  | _, _ => none
def rAddX (K : PySem.W.Frag) : R2 := fun x y H Q => rI0 (fun i j => .int (i + j)) x y H Q ∨ (∃ i j, x = .str i ∧ y = .str j ∧ i.length + j.length ≤ sizeLine ∧ Q (.str (i ++ j)) H) ∨ rCat x y H Q ∨ rCatA K x y H Q
theorem op_addX {X : Cx} : OpR X (binaryOp .Add) (rAddX X.K) := op_add.or (op_add_str.or (op_cat.or op_catA))
theorem r2_add : R2ok K Γ (rAddX K) hAdd := by
  intro σ env G H HA HB x y r1 r2 r Q rel h1 h2 e q
  unfold hAdd at e
  split at e
  · rename_i i j e1 e2
    cases e
    have d1 := h1.rd rel e1
    have d2 := h2.rd rel e2
    cases d1; cases d2
    exact .inl ⟨i, j, rfl, rfl, q _ G H (Post.refl rel) (Rp.int _)⟩
  · rename_i s t e1 e2
    split at e
    · cases e
      have d1 := h1.rd rel e1
      have d2 := h2.rd rel e2
      cases d1; cases d2
      exact .inr (.inl ⟨s, t, rfl, rfl, by assumption, q _ G H (Post.refl rel) (Rp.str _)⟩)
    · cases e
  · rename_i a b e1 e2
    split at e
    · cases e
      obtain ⟨l, xs, rfl, el, al⟩ := h1.lst rel e1
      obtain ⟨m, ys, rfl, em, am⟩ := h2.lst rel e2
      refine .inr (.inr (.inl ⟨l, m, xs, ys, rfl, rfl, el, em, by rw [al.len, am.len]; assumption, fun p np => ?_⟩))
      obtain ⟨k, gp, no⟩ := rel.newF (o := .lst (xs ++ ys)) np
      exact q _ _ _ k ⟨p, rfl, Own.lst gp upd_same (al.append am), no, np⟩
    · cases e
  · rename_i a b e1 e2
    split at e
    · cases e
      obtain ⟨l, xs, rfl, el, al⟩ := h1.tup rel e1
      obtain ⟨m, ys, rfl, em, am⟩ := h2.tup rel e2
      refine .inr (.inr (.inr ⟨l, m, xs, ys, rfl, rfl, el.on rel.sub, em.on rel.sub, by rw [al.len, am.len]; assumption, fun z => ?_, fun _ z => ?_, fun _ _ p np => ?_⟩))
      · subst z
        have : a = [] := List.eq_nil_of_length_eq_zero al.len.symm
        subst this
        exact q _ G H (Post.refl rel) (Rp.tup em am)
      · subst z
        have : b = [] := List.eq_nil_of_length_eq_zero am.len.symm
        subst this
        rw [List.append_nil] at q
        exact q _ G H (Post.refl rel) (Rp.tup el al)
      · have k := rel.new (o := .tup (xs ++ ys)) np
        exact q _ _ _ k (Rp.tup (.inl (.inl upd_same)) ((al.append am).on k.fr.g))
    · cases e
  · cases e
/-! ### whole numbers -/
def gI (c : Int → Int → Bool) (g : Int → Int → Int) : D → D → Option D
  | .int i, .int j => if c i j = true then some (.int (g i j)) else none
  | _, _ => none
theorem r2_I {C : Int → Int → Prop} {g : Int → Int → Int} {c : Int → Int → Bool} (hc : ∀ i j, c i j = true → C i j) : R2ok K Γ (rI C fun i j => .int (g i j)) (h2 (gI c g)) := R2ok.pure fun H x y a b d Q ha hb e q => by
  unfold gI at e
  split at e
  · rename_i i j
    split at e
    · rename_i z
      cases e
      cases ha; cases hb
      exact ⟨i, j, rfl, rfl, hc i j z, q _ fun G => .int _⟩
    · cases e
  · cases e
theorem r2_I0 {g : Int → Int → Int} : R2ok K Γ (rI0 fun i j => .int (g i j)) (h2 (gI (fun _ _ => true) g)) := R2ok.pure fun H x y a b d Q ha hb e q => by
  unfold gI at e
  split at e
  · rename_i i j
    cases e
    cases ha; cases hb
    exact ⟨i, j, rfl, rfl, q _ fun G => .int _⟩
  · cases e
def gIb (g : Int → Int → Bool) : D → D → Option D
  | .int i, .int j => some (.bl (g i j))
  | _, _ => none
theorem r2_Ib {g : Int → Int → Bool} : R2ok K Γ (rI0 fun i j => .bl (g i j)) (h2 (gIb g)) := R2ok.pure fun H x y a b d Q ha hb e q => by
  unfold gIb at e
  split at e
  · rename_i i j
    cases e
    cases ha; cases hb
    exact ⟨i, j, rfl, rfl, q _ fun G => .bl _⟩
  · cases e
def hSub := h2 (gI (fun _ _ => true) fun i j => i - j)
def bMul (i j : Int) : Bool := decide ((-(2 ^ 64) < i ∧ i < 2 ^ 64) ∨ (-(2 ^ 64) < j ∧ j < 2 ^ 64))
def hMod := h2 (gI (fun _ j => decide (0 < j)) fun i j => i % j)
def hDiv := h2 (gI (fun _ j => decide (0 < j ∧ j < 1073741824)) fun i j => i / j)
def bPow (i j : Int) : Bool := decide (0 ≤ j ∧ j ≤ 1000000 ∧ i.natAbs < 2 ^ 64)
def hPow := h2 (gI bPow fun i j => i ^ j.toNat)
def hShl := h2 (gI bPow fun i j => i * 2 ^ j.toNat)
def hShr := h2 (gI (fun _ j => decide (0 ≤ j)) fun i j => i / 2 ^ j.toNat)
def hAnd := h2 (gI (fun _ _ => true) Builtin.bitAnd)
def hOr := h2 (gI (fun _ _ => true) Builtin.bitOr)
theorem r2_sub : R2ok K Γ (rI0 fun i j => .int (i - j)) hSub := r2_I0
theorem r2_mod : R2ok K Γ (rI (fun _ j => 0 < j) fun i j => .int (i % j)) hMod := r2_I fun _ _ h => of_decide_eq_true h
theorem r2_div : R2ok K Γ (rI CDiv fun i j => .int (i / j)) hDiv := r2_I fun i j h => by have := of_decide_eq_true (p := 0 < j ∧ j < 1073741824) h; exact this
theorem r2_pow : R2ok K Γ (rI CPow fun i j => .int (i ^ j.toNat)) hPow := r2_I fun i j h => by have := of_decide_eq_true (p := 0 ≤ j ∧ j ≤ 1000000 ∧ i.natAbs < 2 ^ 64) h; exact this
theorem r2_shl : R2ok K Γ (rI CPow fun i j => .int (i * 2 ^ j.toNat)) hShl := r2_I fun i j h => by have := of_decide_eq_true (p := 0 ≤ j ∧ j ≤ 1000000 ∧ i.natAbs < 2 ^ 64) h; exact this
theorem r2_shr : R2ok K Γ (rI (fun _ j => 0 ≤ j) fun i j => .int (i / 2 ^ j.toNat)) hShr := r2_I fun _ _ h => of_decide_eq_true h
theorem r2_and : R2ok K Γ (rI0 fun i j => .int (Builtin.bitAnd i j)) hAnd := r2_I0
theorem r2_or : R2ok K Γ (rI0 fun i j => .int (Builtin.bitOr i j)) hOr := r2_I0
def hLt := h2 (gIb fun i j => decide (i < j))
def hLe := h2 (gIb fun i j => decide (i ≤ j))
def hGt := h2 (gIb fun i j => decide (j < i))
def hGe := h2 (gIb fun i j => decide (j ≤ i))
theorem r2_lt : R2ok K Γ (rI0 fun i j => .bl (decide (i < j))) hLt := r2_Ib
theorem r2_le : R2ok K Γ (rI0 fun i j => .bl (decide (i ≤ j))) hLe := r2_Ib
theorem r2_gt : R2ok K Γ (rI0 fun i j => .bl (decide (j < i))) hGt := r2_Ib
theorem r2_ge : R2ok K Γ (rI0 fun i j => .bl (decide (j ≤ i))) hGe := r2_Ib
/-! ### * -/
def hMul (env : SEnv) (r1 r2 : Rv) : Option Rv := match dr env r1, dr env r2 with
  | some (.int i), some (.int j) => if bMul i j = true then some (.v (.int (i * j))) else none
  | some (.tup a), some (.int k) => if a ≠ [] ∧ 0 ≤ k ∧ k ≤ 1000 ∧ a.length ≤ 1000 then some (.v (.tup (List.replicate k.toNat a).flatten)) else none
  | some (.lst a), some (.int k) => if -(2 ^ 63) ≤ k ∧ k < 2 ^ 63 ∧ a.length * k.toNat ≤ sizeLine then some (.f (.lst (List.replicate k.toNat a).flatten)) else none
  | some (.str x), some (.int k) => if 1 ≤ k ∧ k ≤ 1000 ∧ 1 ≤ x.length ∧ x.length ≤ 1000 then some (.v (.str (repS x k))) else none
  | _, _ => none
def rMulX (K : PySem.W.Frag) : R2 := fun x y H Q => rI CMul (fun i j => .int (i * j)) x y H Q ∨ rRepA K x y H Q ∨ rRep x y H Q ∨ rRepS x y H Q
theorem op_mulX {X : Cx} : OpR X (binaryOp .Mult) (rMulX X.K) := op_mul.or (op_repA.or (op_rep.or op_repS))
instance (a : List D) : Decidable (a = []) := match a with
  | [] => isTrue rfl
  | _ :: _ => isFalse fun h => nomatch h
theorem r2_mul : R2ok K Γ (rMulX K) hMul := by
  intro σ env G H HA HB x y r1 r2 r Q rel h1 h2 e q
  unfold hMul at e
  split at e
  · rename_i i j e1 e2
    split at e
    · rename_i c
      cases e
      have d1 := h1.rd rel e1
      have d2 := h2.rd rel e2
      cases d1; cases d2
      exact .inl ⟨i, j, rfl, rfl, (by have := of_decide_eq_true (p := (-(2 ^ 64) < i ∧ i < 2 ^ 64) ∨ (-(2 ^ 64) < j ∧ j < 2 ^ 64)) c; exact this), q _ G H (Post.refl rel) (Rp.int _)⟩
    · cases e
  · rename_i a k e1 e2
    split at e
    · rename_i c
      cases e
      obtain ⟨l, xs, rfl, el, al⟩ := h1.tup rel e1
      have d2 := h2.rd rel e2
      cases d2
      refine .inr (.inl ⟨l, k, xs, rfl, rfl, el.on rel.sub, fun z => c.1 ?_, c.2.1, c.2.2.1, by rw [al.len]; exact c.2.2.2, fun z => ?_, fun _ p np => ?_⟩)
      · subst z
        exact List.eq_nil_of_length_eq_zero al.len.symm
      · subst z
        have : (List.replicate (Int.toNat 1) a).flatten = a := by simp
        rw [this] at q
        exact q _ G H (Post.refl rel) (Rp.tup el al)
      · have k' := rel.new (o := .tup (List.replicate k.toNat xs).flatten) np
        exact q _ _ _ k' (Rp.tup (.inl (.inl upd_same)) ((al.repf _).on k'.fr.g))
    · cases e
  · rename_i a k e1 e2
    split at e
    · rename_i c
      cases e
      obtain ⟨l, xs, rfl, el, al⟩ := h1.lst rel e1
      have d2 := h2.rd rel e2
      cases d2
      refine .inr (.inr (.inl ⟨l, k, xs, rfl, rfl, el, c.1, c.2.1, by rw [al.len]; exact c.2.2, fun p np => ?_⟩))
      obtain ⟨k', gp, no⟩ := rel.newF (o := .lst (List.replicate k.toNat xs).flatten) np
      exact q _ _ _ k' ⟨p, rfl, Own.lst gp upd_same (al.repf _), no, np⟩
    · cases e
  · rename_i s k e1 e2
    split at e
    · rename_i c
      cases e
      have d1 := h1.rd rel e1
      have d2 := h2.rd rel e2
      cases d1; cases d2
      exact .inr (.inr (.inr ⟨s, k, rfl, rfl, c.1, c.2.1, c.2.2.1, c.2.2.2, q _ G H (Post.refl rel) (Rp.str _)⟩))
    · cases e
  · cases e
/-! ### ==, in -/
def eqD (a b : D) : Option Bool := match toP a, toP b with
  | some p, some q => if SeqAt.shaped p = true ∧ SeqAt.shaped q = true then some (PyData.eqv p q) else none
  | _, _ => none
theorem eqD_inv {a b : D} {c : Bool} (e : eqD a b = some c) : ∃ p q, toP a = some p ∧ toP b = some q ∧ SeqAt.shaped p = true ∧ SeqAt.shaped q = true ∧ c = PyData.eqv p q := by
  unfold eqD at e
  split at e
  · rename_i p q e1 e2
    split at e
    · rename_i z
      cases e
      exact ⟨p, q, e1, e2, z.1, z.2, rfl⟩
    · cases e
  · cases e
def gEq (a b : D) : Option D := (eqD a b).map .bl
def gNe (a b : D) : Option D := (eqD a b).map fun c => .bl (!c)
theorem r2_eq : R2ok K Γ (rEqD K) (h2 gEq) := R2ok.pure fun H x y a b d Q ha hb e q => by
  obtain ⟨c, h1, rfl⟩ := Option.map_eq_some_iff.mp e
  obtain ⟨p, q', e1, e2, s1, s2, rfl⟩ := eqD_inv h1
  exact ⟨p, q', ha.dp e1, hb.dp e2, s1, s2, q _ fun G => .bl _⟩
theorem r2_ne : R2ok K Γ (rNeD K) (h2 gNe) := R2ok.pure fun H x y a b d Q ha hb e q => by
  obtain ⟨c, h1, rfl⟩ := Option.map_eq_some_iff.mp e
  obtain ⟨p, q', e1, e2, s1, s2, rfl⟩ := eqD_inv h1
  exact ⟨p, q', ha.dp e1, hb.dp e2, s1, s2, q _ fun G => .bl _⟩
def inD (a b : D) : Option Bool := match b with
  | .lst ds => match toP a, toPs ds with
    | some p, some ps => if SeqAt.shaped p = true ∧ SeqAt.shaped (.list ps) = true then some (ps.any fun z => PyData.eqv z p) else none
    | _, _ => none
  | _ => none
def gIn (a b : D) : Option D := (inD a b).map .bl
def gNotIn (a b : D) : Option D := (inD a b).map fun c => .bl (!c)
theorem inD_inv {a b : D} {c : Bool} (e : inD a b = some c) : ∃ ds p ps, b = .lst ds ∧ toP a = some p ∧ toPs ds = some ps ∧ SeqAt.shaped p = true ∧ SeqAt.shaped (.list ps) = true ∧ c = ps.any fun z => PyData.eqv z p := by
  unfold inD at e
  split at e
  · rename_i ds
    split at e
    · rename_i p ps e1 e2
      split at e
      · rename_i z
        cases e
        exact ⟨ds, p, ps, rfl, e1, e2, z.1, z.2, rfl⟩
      · cases e
    · cases e
  · cases e
theorem toP_lst {ds : List D} {ps : List PyData} (e : toPs ds = some ps) : toP (.lst ds) = some (.list ps) := by rw [toP, e]; rfl
theorem r2_in : R2ok K Γ (rInD K) (h2 gIn) := R2ok.pure fun H x y a b d Q ha hb e q => by
  obtain ⟨c, h1, rfl⟩ := Option.map_eq_some_iff.mp e
  obtain ⟨ds, p, ps, rfl, e1, e2, s1, s2, rfl⟩ := inD_inv h1
  exact ⟨p, ps, ha.dp e1, hb.dp (toP_lst e2), s1, s2, q _ fun G => .bl _⟩
theorem r2_notin : R2ok K Γ (rNotInD K) (h2 gNotIn) := R2ok.pure fun H x y a b d Q ha hb e q => by
  obtain ⟨c, h1, rfl⟩ := Option.map_eq_some_iff.mp e
  obtain ⟨ds, p, ps, rfl, e1, e2, s1, s2, rfl⟩ := inD_inv h1
  exact ⟨p, ps, ha.dp e1, hb.dp (toP_lst e2), s1, s2, q _ fun G => .bl _⟩
/-! ### items -/
def gIx : D → D → Option D
  | .lst ds, .int i => atI ds i
  | .tup ds, .int i => atI ds i
  | .str z, .int i => if z.length ≤ sizeLine then (atI z.cps.toList i).map fun c => .str ⟨#[c]⟩ else none
  | .scr ns, .int i => (atI ns i).map .int
  | _, _ => none
theorem RpA.atI {G : Hp} {xs : List V} {ds : List D} {i : Int} {d : D} (h : RpA K Γ G xs ds) (e : L2.atI ds i = some d) : ∃ x, L2.atI xs i = some x ∧ Rp K Γ G x d := by
  unfold L2.atI at e ⊢
  rw [h.len]
  cases z : ixN ds.length i with
  | none => rw [z] at e; cases e
  | some j =>
    rw [z] at e
    exact h.to e
theorem r2_ix : R2ok K Γ (rIx K) (h2 gIx) := by
  intro σ env G H HA HB x y r1 r2 r Q rel h1 h2 e q
  obtain ⟨a, b, c, e1, e2, e3, rfl⟩ := h2_inv e
  unfold gIx at e3
  split at e3
  · rename_i ds i
    obtain ⟨l, xs, rfl, el, al⟩ := h1.lst rel e1
    have d2 := h2.rd rel e2
    cases d2
    obtain ⟨v, ev, hv⟩ := al.atI e3
    exact .inl ⟨l, xs, i, v, rfl, rfl, SqL.of el, ev, q v G H (Post.refl rel) hv⟩
  · rename_i ds i
    obtain ⟨l, xs, rfl, el, al⟩ := h1.tup rel e1
    have d2 := h2.rd rel e2
    cases d2
    obtain ⟨v, ev, hv⟩ := al.atI e3
    exact .inr (.inl ⟨l, xs, i, v, rfl, rfl, el.on rel.sub, ev, q v G H (Post.refl rel) hv⟩)
  · rename_i z i
    split at e3
    · obtain ⟨c0, h, rfl⟩ := Option.map_eq_some_iff.mp e3
      have d1 := h1.rd rel e1
      have d2 := h2.rd rel e2
      cases d1; cases d2
      exact .inr (.inr ⟨z, i, c0, rfl, rfl, by assumption, h, q _ G H (Post.refl rel) (Rp.str _)⟩)
    · cases e3
  · rename_i ns i
    obtain ⟨n, h, rfl⟩ := Option.map_eq_some_iff.mp e3
    have d1 := h1.rd rel e1
    have d2 := h2.rd rel e2
    cases d2
    cases d1 with
    | scr hs =>
      refine .inl ⟨_, _, i, .int n, rfl, rfl, hs, ?_, q _ G H (Post.refl rel) (Rp.int _)⟩
      unfold L2.atI at h ⊢
      rw [List.length_map]
      cases z : ixN ns.length i with
      | none => rw [z] at h; cases h
      | some j =>
        rw [z] at h
        show (ns.map V.int)[j]? = some (V.int n)
        rw [List.getElem?_map, show ns[j]? = some n from h]
        rfl
  · cases e3
end
end EV
set_option Elab.async false
set_option linter.all false
set_option maxRecDepth 100000
set_option maxHeartbeats 4000000
/-! Tests, and, or, not, a if t else b, slices, built-in defs of one value. -/
namespace EV
open PySem PySem.Spec PyProof.Rows L2 PySem.NearX
/-! ### tests -/
def eTv (f : SEnv → Out Rv) : SEnv → Out Bool := eB f fun r env => match dr env r with
  | some (.bl b) => .ok b env
  | _ => .bad
def truD : D → Option Bool
  | .non => some false
  | .bl b => some b
  | .int i => some (i != 0)
  | .str y => if y.length ≤ sizeLine then some ((y.length : Int) != 0) else none
  | .lst ds => some !ds.isEmpty
  | .tup ds => some !ds.isEmpty
  | .dic ks _ => some !ks.isEmpty
  | _ => none
def eTr (f : SEnv → Out Rv) : SEnv → Out Bool := eB f fun r env => match (dr env r).bind truD with
  | some b => .ok b env
  | none => .bad
def eAndT (f g : SEnv → Out Bool) : SEnv → Out Bool := eB f fun b env => if b = true then g env else .ok false env
def eOrT (f g : SEnv → Out Bool) : SEnv → Out Bool := eB f fun b env => if b = true then .ok true env else g env
def eNotT (f : SEnv → Out Bool) : SEnv → Out Bool := eB f fun b env => .ok (!b) env
def eAndV (fa fb : SEnv → Out Rv) : SEnv → Out Rv := eB fa fun r env => match dr env r with
  | some (.bl true) => fb env
  | some (.bl false) => .ok (.v (.bl false)) env
  | _ => .bad
def eOrV (fa fb : SEnv → Out Rv) : SEnv → Out Rv := eB fa fun r env => match dr env r with
  | some (.bl true) => .ok (.v (.bl true)) env
  | some (.bl false) => fb env
  | _ => .bad
def eNotV (fa : SEnv → Out Rv) : SEnv → Out Rv := eB fa fun r env => match dr env r with
  | some (.bl b) => .ok (.v (.bl (!b))) env
  | _ => .bad
def eIf (c : SEnv → Out Bool) (fa fb : SEnv → Out Rv) : SEnv → Out Rv := eB c fun b env => if b = true then fa env else fb env
def eChain (h h' : SEnv → Rv → Rv → Option Rv) (fa fb fc : SEnv → Out Rv) : SEnv → Out Rv := eB fa fun r1 => eB fb fun r2 env => match h env r1 r2 with
  | some (.v (.bl true)) => eB fc (fun r3 env' => match h' env' r2 r3 with
    | some r => .ok r env'
    | none => .bad) env
  | some (.v (.bl false)) => .ok (.v (.bl false)) env
  | _ => .bad
def isNon : D → Bool
  | .non => true
  | _ => false
def eIsN (f : SEnv → Out Rv) : SEnv → Out Rv := eB f fun r env => match dr env r with
  | some d => .ok (.v (.bl (isNon d))) env
  | none => .bad
def eNotN (f : SEnv → Out Rv) : SEnv → Out Rv := eB f fun r env => match dr env r with
  | some d => .ok (.v (.bl (!isNon d))) env
  | none => .bad
section
variable {X : Cx} {Γ : Cls0} {W : WX} {pos : Pos} {a b c e : Expr} {rest : List Expr} {fa fb fc : SEnv → Out Rv} {f g : SEnv → Out Bool} {rr rr' : R2} {h h' : SEnv → Rv → Rv → Option Rv}
theorem rp_bl {K : PySem.W.Frag} {H : Hp} {x : V} {b : Bool} (h : Rp K Γ H x (.bl b)) : x = .bl b := by cases h; rfl
theorem rp_int {K : PySem.W.Frag} {H : Hp} {x : V} {b : Int} (h : Rp K Γ H x (.int b)) : x = .int b := by cases h; rfl
theorem rp_str {K : PySem.W.Frag} {H : Hp} {x : V} {b : Str} (h : Rp K Γ H x (.str b)) : x = .str b := by cases h; rfl
theorem rp_non {K : PySem.W.Frag} {H : Hp} {x : V} {d : D} (h : Rp K Γ H x d) : decide (x = .non) = isNon d := by cases h <;> rfl
theorem tv_run {K : PySem.W.Frag} {σ : L2.St} {H : Hp} {Q : Bool → Hp → Prop} (z : tT K Γ W (eTv fa) σ H Q) : tE K Γ W fa σ H (fun x H' => ∃ k, x = .bl k ∧ Q k H') := by
  obtain ⟨env, G, rel, at_⟩ := z
  refine tX.bind at_ (Post.refl rel) fun r env1 v G1 H1 e1 p1 rr a1 => ?_
  try dsimp only at a1
  split at a1
  · rename_i b eb
    exact ⟨b, rp_bl (RvR.rd rr p1.rel eb), a1.run b b env1 G1 H1 rfl p1 rfl⟩
  · exact absurd rfl a1.nb
theorem sT_val (h : PE X a (tE X.K Γ W fa)) (he : ∀ whole, isTrue a X.env whole = (do let v ← whole; standAt a.pos; holding [v] (truthy v)) := by intro _; rfl) : PT X a (tT X.K Γ W (eTv fa)) := ptI (pt_val h he) fun σ H Q z => tv_run z
theorem sT_cmp {op : CmpOp} (ho : OpR X (compareOp op) rr) (hh : R2ok X.K Γ rr h) (ha : PE X a (tE X.K Γ W fa)) (hb : PE X b (tE X.K Γ W fb)) (hm : behindInMarks op b = false) : PT X (.Compare a [op] [b] pos) (tT X.K Γ W (eTv (eOp h fa fb))) :=
  ptI (pt_cmpR ho ha hb hm) fun σ H Q z => eOp_run hh (tv_run z)
theorem tru_of {K : PySem.W.Frag} {H : Hp} {x : V} {d : D} {b : Bool} (h : Rp K Γ H x d) (e : truD d = some b) : TruV K x H b := by
  cases h with
  | non => cases e; rfl
  | bl k => cases e; rfl
  | int i => cases e; rfl
  | str y =>
    by_cases z : y.length ≤ sizeLine
    · rw [truD, if_pos z] at e
      cases e
      exact ⟨z, rfl⟩
    · rw [truD, if_neg z] at e
      cases e
  | lst h1 h2 => cases e; exact .inl ⟨_, SqL.of h1, by cases h2 <;> rfl⟩
  | tup h1 h2 => cases e; exact .inr (.inl ⟨_, h1, by cases h2 <;> rfl⟩)
  | dic h1 h2 => cases e; exact .inr (.inr ⟨_, h1, by rename_i kvs _; cases kvs <;> rfl⟩)
  | _ => cases e
theorem sT_tru (h : PE X a (tE X.K Γ W fa)) (he : ∀ whole, isTrue a X.env whole = (do let v ← whole; standAt a.pos; holding [v] (truthy v)) := by intro _; rfl) : PT X a (tT X.K Γ W (eTr fa)) := ptI (pt_truth h he) fun σ H Q ⟨env, G, rel, at_⟩ => by
  refine tX.bind at_ (Post.refl rel) fun r env1 v G1 H1 e1 p1 rr a1 => ?_
  try dsimp only at a1
  split at a1
  · rename_i b eb
    obtain ⟨d, ed, et⟩ := Option.bind_eq_some_iff.mp eb
    exact ⟨b, tru_of (RvR.rd rr p1.rel ed) et, a1.run b b env1 G1 H1 rfl p1 rfl⟩
  · exact absurd rfl a1.nb
/-- a part of the way, the rest not asked -/
theorem At.go {K : PySem.W.Frag} {σ : L2.St} {env0 env : SEnv} {G0 H0 G H : Hp} {α β : Type} {R : RR α β} {o : SEnv → Out α} {Q : β → Hp → Prop} (a : At K Γ W σ env0 G0 H0 R (o env) Q) (p : Post K Γ env0 σ G0 H0 env G H)
    (early : ∀ r env' v G' H', R env' σ H G' H' v r → R env' σ H0 G' H' v r) : tX K Γ W R o σ H Q :=
  ⟨env, G, p.rel, a.nb, fun r env' v G' H' e p' rr => a.ok r env' v G' H' e (p.trans p') (early _ _ _ _ _ rr), fun c d env' cls dx G' H' e p' x => a.ex c d env' cls dx G' H' e (p.trans p') x⟩
theorem At.goE {K : PySem.W.Frag} {σ : L2.St} {env0 env : SEnv} {G0 H0 G H : Hp} {o : SEnv → Out Rv} {Q : VK} (a : At K Γ W σ env0 G0 H0 (RE K Γ) (o env) Q) (p : Post K Γ env0 σ G0 H0 env G H) : tE K Γ W o σ H Q :=
  a.go p fun r env' v G' H' h => RvR.early h p
theorem At.goB {K : PySem.W.Frag} {σ : L2.St} {env0 env : SEnv} {G0 H0 G H : Hp} {o : SEnv → Out Bool} {Q : Bool → Hp → Prop} (a : At K Γ W σ env0 G0 H0 RB (o env) Q) (p : Post K Γ env0 σ G0 H0 env G H) : tT K Γ W o σ H Q :=
  a.go p fun r env' v G' H' h => h
theorem sW_and1 (h : PT X a (tT X.K Γ W f)) : PW X (.BoolOp .And [a] pos) (tT X.K Γ W f) := pw_and1 h
theorem sW_or1 (h : PT X a (tT X.K Γ W f)) : PW X (.BoolOp .Or [a] pos) (tT X.K Γ W f) := pw_or1 h
theorem sW_and (ha : PT X a (tT X.K Γ W f)) (hb : PW X (.BoolOp .And (b :: rest) pos) (tT X.K Γ W g)) : PW X (.BoolOp .And (a :: b :: rest) pos) (tT X.K Γ W (eAndT f g)) := pwI (pw_and ha hb) fun σ H Q ⟨env, G, rel, at_⟩ => by
  refine tX.bind at_ (Post.refl rel) fun r env1 v G1 H1 e1 p1 rr a1 => ?_
  obtain rfl : v = r := rr
  cases v with
  | true =>
    simp only [if_true] at a1
    exact iteT (a1.goB p1)
  | false =>
    simp only [Bool.false_eq_true, if_false] at a1
    exact iteF (a1.run _ _ env1 G1 H1 rfl p1 rfl)
theorem sW_or (ha : PT X a (tT X.K Γ W f)) (hb : PW X (.BoolOp .Or (b :: rest) pos) (tT X.K Γ W g)) : PW X (.BoolOp .Or (a :: b :: rest) pos) (tT X.K Γ W (eOrT f g)) := pwI (pw_or ha hb) fun σ H Q ⟨env, G, rel, at_⟩ => by
  refine tX.bind at_ (Post.refl rel) fun r env1 v G1 H1 e1 p1 rr a1 => ?_
  obtain rfl : v = r := rr
  cases v with
  | true =>
    simp only [if_true] at a1
    exact iteT (a1.run _ _ env1 G1 H1 rfl p1 rfl)
  | false =>
    simp only [Bool.false_eq_true, if_false] at a1
    exact iteF (a1.goB p1)
theorem sT_not (ha : PT X a (tT X.K Γ W f)) : PT X (.UnaryOp .Not a pos) (tT X.K Γ W (eNotT f)) := ptI (pt_not ha) fun σ H Q ⟨env, G, rel, at_⟩ => by
  refine tX.bind at_ (Post.refl rel) fun r env1 v G1 H1 e1 p1 rr a1 => ?_
  obtain rfl : v = r := rr
  exact a1.run _ _ env1 G1 H1 rfl p1 rfl
theorem sE_and (ha : PE X a (tE X.K Γ W fa)) (hb : PE X (.BoolOp .And (b :: rest) pos) (tE X.K Γ W fb)) : PE X (.BoolOp .And (a :: b :: rest) pos) (tE X.K Γ W (eAndV fa fb)) := peI (pe_and ha hb) fun σ H Q ⟨env, G, rel, at_⟩ => by
  refine tX.bind at_ (Post.refl rel) fun r env1 v G1 H1 e1 p1 rr a1 => ?_
  try dsimp only at a1
  split at a1
  · rename_i eb
    exact ⟨true, rp_bl (RvR.rd rr p1.rel eb), iteT (a1.goE p1)⟩
  · rename_i eb
    exact ⟨false, rp_bl (RvR.rd rr p1.rel eb), iteF (a1.run (.v (.bl false)) _ env1 G1 H1 rfl p1 (Rp.bl _))⟩
  · exact absurd rfl a1.nb
theorem sE_or (ha : PE X a (tE X.K Γ W fa)) (hb : PE X (.BoolOp .Or (b :: rest) pos) (tE X.K Γ W fb)) : PE X (.BoolOp .Or (a :: b :: rest) pos) (tE X.K Γ W (eOrV fa fb)) := peI (pe_or ha hb) fun σ H Q ⟨env, G, rel, at_⟩ => by
  refine tX.bind at_ (Post.refl rel) fun r env1 v G1 H1 e1 p1 rr a1 => ?_
  try dsimp only at a1
  split at a1
  · rename_i eb
    exact ⟨true, rp_bl (RvR.rd rr p1.rel eb), iteT (a1.run (.v (.bl true)) _ env1 G1 H1 rfl p1 (Rp.bl _))⟩
  · rename_i eb
    exact ⟨false, rp_bl (RvR.rd rr p1.rel eb), iteF (a1.goE p1)⟩
  · exact absurd rfl a1.nb
theorem sE_not (ha : PE X a (tE X.K Γ W fa)) : PE X (.UnaryOp .Not a pos) (tE X.K Γ W (eNotV fa)) := peI (pe_not ha) fun σ H Q ⟨env, G, rel, at_⟩ => by
  refine tX.bind at_ (Post.refl rel) fun r env1 v G1 H1 e1 p1 rr a1 => ?_
  try dsimp only at a1
  split at a1
  · rename_i b eb
    exact ⟨b, rp_bl (RvR.rd rr p1.rel eb), a1.run (.v (.bl (!b))) _ env1 G1 H1 rfl p1 (Rp.bl _)⟩
  · exact absurd rfl a1.nb
theorem sE_if (hc : PT X c (tT X.K Γ W f)) (ha : PE X a (tE X.K Γ W fa)) (hb : PE X b (tE X.K Γ W fb)) : PE X (.IfExp c a b pos) (tE X.K Γ W (eIf f fa fb)) := peI (pe_ifExp hc ha hb) fun σ H Q ⟨env, G, rel, at_⟩ => by
  refine tX.bind at_ (Post.refl rel) fun r env1 v G1 H1 e1 p1 rr a1 => ?_
  obtain rfl : v = r := rr
  cases v with
  | true =>
    simp only [if_true] at a1
    exact iteT (a1.goE p1)
  | false =>
    simp only [Bool.false_eq_true, if_false] at a1
    exact iteF (a1.goE p1)
theorem sE_isN {j pos'} (ha : PE X a (tE X.K Γ W fa)) : PE X (.Compare a [.Is] [.Constant .none j pos'] pos) (tE X.K Γ W (eIsN fa)) := peI (pe_cmp (pc_isN ha)) fun σ H Q ⟨env, G, rel, at_⟩ => by
  refine tX.bind at_ (Post.refl rel) fun r env1 v G1 H1 e1 p1 rr a1 => ?_
  try dsimp only at a1
  split at a1
  · rename_i d ed
    exact a1.run (.v (.bl (isNon d))) _ env1 G1 H1 rfl p1 (by rw [rp_non (RvR.rd rr p1.rel ed)]; exact Rp.bl _)
  · exact absurd rfl a1.nb
theorem sE_notN {j pos'} (ha : PE X a (tE X.K Γ W fa)) : PE X (.Compare a [.IsNot] [.Constant .none j pos'] pos) (tE X.K Γ W (eNotN fa)) := peI (pe_cmp (pc_notN ha)) fun σ H Q ⟨env, G, rel, at_⟩ => by
  refine tX.bind at_ (Post.refl rel) fun r env1 v G1 H1 e1 p1 rr a1 => ?_
  try dsimp only at a1
  split at a1
  · rename_i d ed
    exact a1.run (.v (.bl (!isNon d))) _ env1 G1 H1 rfl p1 (by rw [rp_non (RvR.rd rr p1.rel ed)]; exact Rp.bl _)
  · exact absurd rfl a1.nb
theorem sT_isN {j pos'} (ha : PE X a (tE X.K Γ W fa)) : PT X (.Compare a [.Is] [.Constant .none j pos'] pos) (tT X.K Γ W (eTv (eIsN fa))) := ptI (pt_cmp (pc_isN ha)) fun σ H Q z => by
  obtain ⟨env, G, rel, at_⟩ := tv_run z
  refine tX.bind at_ (Post.refl rel) fun r env1 v G1 H1 e1 p1 rr a1 => ?_
  try dsimp only at a1
  split at a1
  · rename_i d ed
    exact a1.run (.v (.bl (isNon d))) _ env1 G1 H1 rfl p1 (by rw [rp_non (RvR.rd rr p1.rel ed)]; exact Rp.bl _)
  · exact absurd rfl a1.nb
theorem sT_notN {j pos'} (ha : PE X a (tE X.K Γ W fa)) : PT X (.Compare a [.IsNot] [.Constant .none j pos'] pos) (tT X.K Γ W (eTv (eNotN fa))) := ptI (pt_cmp (pc_notN ha)) fun σ H Q z => by
  obtain ⟨env, G, rel, at_⟩ := tv_run z
  refine tX.bind at_ (Post.refl rel) fun r env1 v G1 H1 e1 p1 rr a1 => ?_
  try dsimp only at a1
  split at a1
  · rename_i d ed
    exact a1.run (.v (.bl (!isNon d))) _ env1 G1 H1 rfl p1 (by rw [rp_non (RvR.rd rr p1.rel ed)]; exact Rp.bl _)
  · exact absurd rfl a1.nb
theorem eChain_run {K : PySem.W.Frag} {σ : L2.St} {H : Hp} {Q : VK} (hh : R2ok K Γ rr h) (hh' : R2ok K Γ rr' h') (z : tE K Γ W (eChain h h' fa fb fc) σ H Q) : tChain rr rr' (tE K Γ W fa) (tE K Γ W fb) (tE K Γ W fc) σ H Q := by
  obtain ⟨env, G, rel, at_⟩ := z
  refine tX.bind at_ (Post.refl rel) fun r1 env1 x G1 H1 e1 p1 rr1 a1 => tX.bind a1 p1 fun r2 env2 y G2 H2 e2 p2 rr2 a2 => ?_
  try dsimp only at a2
  have p12 := p1.trans p2
  split at a2
  · rename_i q
    refine hh σ env2 G2 H2 H H1 x y r1 r2 _ _ p2.rel (rr1.step p2) rr2 q fun v G' H' k rv => ⟨true, rp_bl rv, iteT ?_⟩
    refine tX.bind (env := env2) a2 (p12.trans k) fun r3 env3 w G3 H3 e3 p3 rr3 a3 => ?_
    try dsimp only at a3
    split at a3
    · rename_i r q3
      refine hh' σ env3 G3 H3 H1 H' y w r2 r3 r Q p3.rel ((rr2.step k).step p3) rr3 q3 fun v' G'' H'' k' rv' => a3.run r v' env3 G'' H'' rfl (((p12.trans k).trans p3).trans k') (rv'.early ((p12.trans k).trans p3))
    · exact absurd rfl a3.nb
  · rename_i q
    refine hh σ env2 G2 H2 H H1 x y r1 r2 _ _ p2.rel (rr1.step p2) rr2 q fun v G' H' k rv => ⟨false, rp_bl rv, iteF ?_⟩
    exact a2.run (.v (.bl false)) _ env2 G' H' rfl (p12.trans k) (Rp.bl _)
  · exact absurd rfl a2.nb
theorem sE_chain {op op' : CmpOp} (ho : OpR X (compareOp op) rr) (hh : R2ok X.K Γ rr h) (ho' : OpR X (compareOp op') rr') (hh' : R2ok X.K Γ rr' h') (ha : PE X a (tE X.K Γ W fa)) (hb : PE X b (tE X.K Γ W fb)) (hc : PE X c (tE X.K Γ W fc))
    (hm : lastMarks [op, op'] [b, c] = false := by with_unfolding_all rfl) : PE X (.Compare a [op, op'] [b, c] pos) (tE X.K Γ W (eChain h h' fa fb fc)) := peI (pe_chain ho ho' ha hb hc hm) fun σ H Q z => eChain_run hh hh' z
end
/-! ### slices -/
def eNoP : SEnv → Out (Option Int) := fun env => .ok none env
def ePt (f : SEnv → Out Rv) : SEnv → Out (Option Int) := eB f fun r env => match dr env r with
  | some (.int i) => .ok (some i) env
  | _ => .bad
abbrev RO : RR (Option Int) (Option Int) := fun _ _ _ _ _ a b => a = b
abbrev tPo (K : PySem.W.Frag) (Γ : Cls0) (W : WX) (f : SEnv → Out (Option Int)) : TO := tX K Γ W RO f
def cutL (ds : List D) (lo hi : Option Int) : List D := (ds.drop (HT.sIx ds.length 0 lo)).take (HT.sIx ds.length ds.length hi - HT.sIx ds.length 0 lo)
def eSl (f : SEnv → Out Rv) (l u : SEnv → Out (Option Int)) : SEnv → Out Rv := eB f fun r => eB l fun lo => eB u fun hi env => match dr env r with
  | some (.lst ds) => .ok (.f (.lst (cutL ds lo hi))) env
  | some (.tup ds) => .ok (.v (.tup (cutL ds lo hi))) env
  | _ => .bad
def eRev (f : SEnv → Out Rv) : SEnv → Out Rv := eB f fun r env => match dr env r with
  | some (.lst ds) => .ok (.f (.lst ds.reverse)) env
  | _ => .bad
section
variable {X : Cx} {Γ : Cls0} {W : WX} {pos : Pos} {e : Expr} {lo hi : Option Expr} {f : SEnv → Out Rv} {l u : SEnv → Out (Option Int)}
theorem poI {X : Cx} {e : Option Expr} {t t' : TO} (h : PO X e t) (k : ∀ σ H Q, t' σ H Q → t σ H Q) : PO X e t' := ⟨fun pins s σ H Q I z => h.run pins s σ H Q I (k σ H Q z)⟩
theorem sO_none : PO X none (tPo X.K Γ W eNoP) := poI po_none fun σ H Q ⟨env, G, rel, a⟩ => a.run none none env G H rfl (Post.refl rel) rfl
theorem sO_some (h : PE X e (tE X.K Γ W f)) : PO X (some e) (tPo X.K Γ W (ePt f)) := poI (po_some h) fun σ H Q ⟨env, G, rel, at_⟩ => tX.bind at_ (Post.refl rel) fun r env1 v G1 H1 e1 p1 rr a1 => by
  try dsimp only at a1
  split at a1
  · rename_i i ei
    exact ⟨i, rp_int (RvR.rd rr p1.rel ei), a1.run _ _ env1 G1 H1 rfl p1 rfl⟩
  · exact absurd rfl a1.nb
theorem RpA.cut {K : PySem.W.Frag} {G : Hp} {xs : List V} {ds : List D} (h : RpA K Γ G xs ds) (lo hi : Option Int) : RpA K Γ G (cutV xs lo hi) (cutL ds lo hi) := by
  rw [cutV, cutL, h.len]
  exact (h.drop _).take _
theorem sE_sl {p2 : Pos} (he : PE X e (tE X.K Γ W f)) (hl : PO X lo (tPo X.K Γ W l)) (hu : PO X hi (tPo X.K Γ W u)) : PE X (.Subscript e (.Slice lo hi none p2) pos) (tE X.K Γ W (eSl f l u)) :=
  peI (pe_slice (SlR.or sl_list sl_tupA) he hl hu) fun σ H Q ⟨env, G, rel, at_⟩ => by
  refine tX.bind at_ (Post.refl rel) fun r env1 x G1 H1 e1 p1 rr1 a1 => tX.bind a1 p1 fun l env2 l' G2 H2 e2 p2 rr2 a2 => tX.bind a2 (p1.trans p2) fun u env3 u' G3 H3 e3 p3 rr3 a3 => ?_
  obtain rfl : l' = l := rr2
  obtain rfl : u' = u := rr3
  have p := (p1.trans p2).trans p3
  have h := (RvR.step rr1 p2).step p3
  try dsimp only at a3
  split at a3
  · rename_i ds ed
    obtain ⟨q, xs, rfl, eq, aq⟩ := RvR.lst h p3.rel ed
    refine .inl ⟨q, xs, rfl, SqL.of eq, fun p' np => ?_⟩
    obtain ⟨k, gp, no⟩ := p3.rel.newF (o := .lst (cutV xs l' u')) np
    exact a3.run (.f (.lst (cutL ds l' u'))) _ env3 _ _ rfl (p.trans k) ⟨p', rfl, Own.lst gp upd_same (aq.cut l' u'), no, p.dom np⟩
  · rename_i ds ed
    obtain ⟨q, xs, rfl, eq, aq⟩ := RvR.tup h p3.rel ed
    refine .inr ⟨q, xs, rfl, eq.on p3.rel.sub, fun z => ?_, fun _ p' np => ?_⟩
    · have : cutL ds l' u' = ds := by
        rw [aq.len] at z
        rw [cutL, z.1, z.2, List.drop_zero, Nat.sub_zero, List.take_length]
      rw [this] at a3
      exact a3.run (.v (.tup ds)) _ env3 G3 H3 rfl p (Rp.tup eq aq)
    · have k := p3.rel.new (o := .tup (cutV xs l' u')) np
      exact a3.run (.v (.tup (cutL ds l' u'))) _ env3 _ _ rfl (p.trans k) (Rp.tup (.inl (.inl upd_same)) ((aq.cut l' u').on k.fr.g))
  · exact absurd rfl a3.nb
theorem sE_rev {k : Nat} {p1 p2 p3 pos : Pos} (he : PE X e (tE X.K Γ W f)) : PE X (.Subscript e (.Slice none none (some (.UnaryOp .USub (.Constant (.int 1) k p1) p2)) p3) pos) (tE X.K Γ W (eRev f)) :=
  peI (pe_revL he) fun σ H Q ⟨env, G, rel, at_⟩ => by
  refine tX.bind at_ (Post.refl rel) fun r env1 x G1 H1 e1 p1 rr1 a1 => ?_
  try dsimp only at a1
  split at a1
  · rename_i ds ed
    obtain ⟨q, xs, rfl, eq, aq⟩ := RvR.lst rr1 p1.rel ed
    refine ⟨q, xs, rfl, SqL.of eq, fun p' np => ?_⟩
    obtain ⟨k, gp, no⟩ := p1.rel.newF (o := .lst xs.reverse) np
    exact a1.run (.f (.lst ds.reverse)) _ env1 _ _ rfl (p1.trans k) ⟨p', rfl, Own.lst gp upd_same aq.reverse, no, p1.dom np⟩
  · exact absurd rfl a1.nb
end
/-! ### built-ins of one value -/
def R1ok (K : PySem.W.Frag) (Γ : Cls0) (rr : V → Hp → VK → Prop) (h : SEnv → Rv → Option Rv) : Prop := ∀ (σ : L2.St) (env : SEnv) (G H HA : Hp) (x : V) (r1 r : Rv) (Q : VK), Rel K Γ env σ G H → RvR K Γ env σ HA G H x r1 → h env r1 = some r →
  (∀ v G' H', Post K Γ env σ G H env G' H' → RvR K Γ env σ H G' H' v r → Q v H') → rr x H Q
def eU (h : SEnv → Rv → Option Rv) (f : SEnv → Out Rv) : SEnv → Out Rv := eB f fun r env => match h env r with
  | some r => .ok r env
  | none => .bad
def h1 (g : D → Option D) : SEnv → Rv → Option Rv := fun env r1 => ((dr env r1).bind g).map .v
section
variable {X : Cx} {Γ : Cls0} {W : WX} {pos : Pos} {e : Expr} {f : SEnv → Out Rv} {rr : V → Hp → VK → Prop} {h : SEnv → Rv → Option Rv} {r : List V → Hp → VK → Prop}
theorem eU_run {K : PySem.W.Frag} {σ : L2.St} {H : Hp} {Q : VK} (hh : R1ok K Γ rr h) (z : tE K Γ W (eU h f) σ H Q) : tE K Γ W f σ H fun x H1 => rr x H1 Q := by
  obtain ⟨env, G, rel, at_⟩ := z
  refine tX.bind at_ (Post.refl rel) fun r1 env1 x G1 H1 e1 p1 rr1 a1 => ?_
  try dsimp only at a1
  split at a1
  · rename_i r q
    exact hh σ env1 G1 H1 H x r1 r Q p1.rel rr1 q fun v G' H' k rv => a1.run r v env1 G' H' rfl (p1.trans k) (rv.early p1)
  · exact absurd rfl a1.nb
theorem R1ok.pure {K : PySem.W.Frag} {g : D → Option D} (k : ∀ (H : Hp) (x : V) (a c : D) (Q : VK), Rp K Γ H x a → g a = some c → (∀ v, (∀ G, Rp K Γ G v c) → Q v H) → rr x H Q) : R1ok K Γ rr (h1 g) := by
  intro σ env G H HA x r1 r Q rel hx e q
  obtain ⟨c, h1, rfl⟩ := Option.map_eq_some_iff.mp e
  obtain ⟨a, h2, h3⟩ := Option.bind_eq_some_iff.mp h1
  exact k H x a c Q (hx.rd rel h2) h3 fun v hv => q v G H (Post.refl rel) (hv G)
theorem sE_un {op : UnaryOp} (ho : UnR X (unaryOp op) rr) (hh : R1ok X.K Γ rr h) (ha : PE X e (tE X.K Γ W f)) : PE X (.UnaryOp op e pos) (tE X.K Γ W (eU h f)) := peI (pe_un ho ha) fun σ H Q z => eU_run hh z
theorem sE_call1 {id : String} {x : Str} {p : Pos} (hc : CallR X (.builtin id) r) (hh : R1ok X.K Γ (fun x H Q => r [x] H Q) h) (hg : Gl X x) (hm : X.mg x = none) (hv : bootBuiltins x = some (.builtin id)) (ha : PE X e (tE X.K Γ W f)) (hn : x ≠ "__name__" := by decide) (hdb : (x == ("__debug__" : Str)) = false := by decide)
    (hs : starEach [e] X.env = [(false, eval e X.env)] := by rfl) : PE X (.Call (.Name x p) [e] [] pos) (tE X.K Γ W (eU h f)) :=
  peI (pe_callB hc hg hm hv (pa_cons ha pa_nil hs) hn hdb hs rfl) fun σ H Q z => eU_run hh z
theorem sE_callT1 {T : String} {x : Str} {p : Pos} (hc : CallR X (.type T) r) (hh : R1ok X.K Γ (fun x H Q => r [x] H Q) h) (hg : Gl X x) (hm : X.mg x = none) (hv : bootBuiltins x = some (.type T)) (ha : PE X e (tE X.K Γ W f)) (hn : x ≠ "__name__" := by decide) (hdb : (x == ("__debug__" : Str)) = false := by decide)
    (hs : starEach [e] X.env = [(false, eval e X.env)] := by rfl) : PE X (.Call (.Name x p) [e] [] pos) (tE X.K Γ W (eU h f)) :=
  peI (pe_callTy hc hg hm hv (pa_cons ha pa_nil hs) hn hdb hs rfl) fun σ H Q z => eU_run hh z
end
end EV
set_option Elab.async false
set_option linter.all false
set_option maxRecDepth 100000
set_option maxHeartbeats 4000000
/-! Readings made of functions on data: statements, loops. -/
namespace EV
open PySem PySem.Spec PyProof.Rows L2 PySem.NearX
inductive SO where
  | nx (e : SEnv) | rt (d : D) (e : SEnv) | bk (e : SEnv) | ct (e : SEnv) | ex (c : Str) (d : Option (Str × D)) (e : SEnv) | bad
structure PostS (K : PySem.W.Frag) (Γ : Cls0) (env : SEnv) (σ : L2.St) (G H : Hp) (env' : SEnv) (σ' : L2.St) (G' H' : Hp) : Prop where
  rel : Rel K Γ env' σ' G' H'
  fr : Fr (Ow env σ) G H G' H'
  ow : ∀ p, Ow env' σ' p → Ow env σ p ∨ H p = none
  io : ∀ (i : Nat) (d : D), env[i]? = some (.mu true d) → σ'[i]? = σ[i]? ∧ ∃ d', env'[i]? = some (.mu true d')
  len : env'.length = env.length
section
variable {K : PySem.W.Frag} {Γ : Cls0} {env env1 env2 : SEnv} {σ σ1 σ2 : L2.St} {G H G1 H1 G2 H2 : Hp}
theorem PostS.refl (r : Rel K Γ env σ G H) : PostS K Γ env σ G H env σ G H := ⟨r, Fr.refl, fun _ z => .inl z, fun _ d e => ⟨rfl, d, e⟩, rfl⟩
theorem PostS.trans (a : PostS K Γ env σ G H env1 σ1 G1 H1) (b : PostS K Γ env1 σ1 G1 H1 env2 σ2 G2 H2) : PostS K Γ env σ G H env2 σ2 G2 H2 where
  rel := b.rel
  fr := a.fr.trans b.fr a.ow
  ow := fun p z => by
    rcases b.ow p z with z | z
    · exact a.ow p z
    · by_cases q : H p = none
      · exact .inr q
      · exact absurd z (a.fr.d p q)
  io := fun i d e => by
    obtain ⟨h1, d', e'⟩ := a.io i d e
    obtain ⟨h2, d2, e2⟩ := b.io i d' e'
    exact ⟨h2.trans h1, d2, e2⟩
  len := b.len.trans a.len
theorem Post.s (a : Post K Γ env σ G H env1 G1 H1) : PostS K Γ env σ G H env1 σ G1 H1 := ⟨a.rel, a.fr, fun p z => .inl (a.ks.ow z), fun i d e => ⟨rfl, by
  obtain ⟨d', z | ⟨z, _⟩⟩ := a.ks.mu i true d e
  · exact ⟨d', z⟩
  · cases z⟩, a.ks.len⟩
end
structure AtS (K : PySem.W.Frag) (Γ : Cls0) (W : WX) (env0 : SEnv) (σ0 : L2.St) (G0 H0 : Hp) (o : SO) (E : Ends) : Prop where
  nb : o ≠ .bad
  nx : ∀ env' σ' G' H', o = .nx env' → PostS K Γ env0 σ0 G0 H0 env' σ' G' H' → E.nx σ' H'
  rt : ∀ d env' v σ' G' H', o = .rt d env' → PostS K Γ env0 σ0 G0 H0 env' σ' G' H' → Rp K Γ G' v d → E.rt v H'
  bk : ∀ env' σ' G' H', o = .bk env' → PostS K Γ env0 σ0 G0 H0 env' σ' G' H' → E.bk σ' H'
  ct : ∀ env' σ' G' H', o = .ct env' → PostS K Γ env0 σ0 G0 H0 env' σ' G' H' → E.ct σ' H'
  ex : ∀ c d env' cls dx σ' G' H', o = .ex c d env' → PostS K Γ env0 σ0 G0 H0 env' σ' G' H' → ExR K Γ G' H' cls dx c d → W cls dx σ' H'
def tS (K : PySem.W.Frag) (Γ : Cls0) (W : WX) (f : SEnv → SO) : TS := fun E σ H => ∃ env G, Rel K Γ env σ G H ∧ AtS K Γ W env σ G H (f env) E
def sB {α : Type} (f : SEnv → Out α) (k : α → SEnv → SO) : SEnv → SO := fun env => match f env with
  | .ok r e => k r e
  | .ex c d e => .ex c d e
  | .bad => .bad
def sSeq (f g : SEnv → SO) : SEnv → SO := fun env => match f env with
  | .nx e => g e
  | o => o
def sNil : SEnv → SO := fun env => .nx env
section
variable {K : PySem.W.Frag} {Γ : Cls0} {W : WX} {σ0 σ : L2.St} {env0 env env1 : SEnv} {G0 H0 G H G1 H1 : Hp} {α β : Type}
/-- from a later state -/
theorem AtS.go {o : SO} {E : Ends} (a : AtS K Γ W env0 σ0 G0 H0 o E) (p : PostS K Γ env0 σ0 G0 H0 env σ G H) : AtS K Γ W env σ G H o E :=
  ⟨a.nb, fun env' σ' G' H' e q => a.nx _ _ _ _ e (p.trans q), fun d env' v σ' G' H' e q h => a.rt _ _ _ _ _ _ e (p.trans q) h, fun env' σ' G' H' e q => a.bk _ _ _ _ e (p.trans q), fun env' σ' G' H' e q => a.ct _ _ _ _ e (p.trans q),
    fun c d env' cls dx σ' G' H' e q x => a.ex _ _ _ _ _ _ _ _ e (p.trans q) x⟩
theorem tX.bindS {R : RR α β} {f : SEnv → Out α} {k : α → SEnv → SO} {E : Ends} {T : β → Hp → Prop} (h : AtS K Γ W env0 σ0 G0 H0 (sB f k env) E) (p : PostS K Γ env0 σ0 G0 H0 env σ G H)
    (hT : ∀ r env1 v G1 H1, f env = .ok r env1 → Post K Γ env σ G H env1 G1 H1 → R env1 σ H G1 H1 v r → AtS K Γ W env0 σ0 G0 H0 (k r env1) E → T v H1) : tX K Γ W R f σ H T := by
  have h' := h
  unfold sB at h'
  refine ⟨env, G, p.rel, fun z => ?_, fun r env1 v G1 H1 e p1 rr => ?_, fun c d env1 cls dx G1 H1 e p1 x => ?_⟩
  · rw [z] at h'; exact h'.nb rfl
  · rw [e] at h'
    exact hT r env1 v G1 H1 e p1 rr h'
  · rw [e] at h'
    exact h'.ex c d env1 cls dx σ G1 H1 rfl (p.trans p1.s) x
end
section
variable {X : Cx} {Γ : Cls0} {W : WX} {pos : Pos} {e : Expr} {st : Stmt} {rest : List Stmt} {f : SEnv → Out Rv} {fs gs : SEnv → SO} {c : SEnv → Out Bool}
theorem sS_nil : PSs X [] (tS X.K Γ W sNil) := pssI pss_nil fun E σ H ⟨env, G, rel, a⟩ => a.nx env σ G H rfl (PostS.refl rel)
theorem sS_one (h : PS X st (tS X.K Γ W fs)) : PSs X [st] (tS X.K Γ W fs) := pss_one h
theorem sS_cons (h1 : PS X st (tS X.K Γ W fs)) (h2 : PSs X rest (tS X.K Γ W gs)) : PSs X (st :: rest) (tS X.K Γ W (sSeq fs gs)) := pssI (pss_cons h1 h2) fun E σ H ⟨env, G, rel, a⟩ => by
  have a' := a
  unfold sSeq at a'
  refine ⟨env, G, rel, fun z => ?_, fun env' σ' G' H' e p => ?_, fun d env' v σ' G' H' e p hd => ?_, fun env' σ' G' H' e p => ?_, fun env' σ' G' H' e p => ?_, fun c d env' cls dx σ' G' H' e p x => ?_⟩
  · rw [z] at a'; exact a'.nb rfl
  · rw [e] at a'
    exact ⟨env', G', p.rel, a'.go p⟩
  · rw [e] at a'; exact a'.rt d env' v σ' G' H' rfl p hd
  · rw [e] at a'; exact a'.bk env' σ' G' H' rfl p
  · rw [e] at a'; exact a'.ct env' σ' G' H' rfl p
  · rw [e] at a'; exact a'.ex c d env' cls dx σ' G' H' rfl p x
def sEx (f : SEnv → Out Rv) : SEnv → SO := sB f fun _ env => .nx env
theorem sS_expr (he : PE X e (tE X.K Γ W f)) (hs : swapsWith e none pos.line X.env = pure false := by rfl) : PS X (.Expr e pos) (tS X.K Γ W (sEx f)) := psI (ps_expr he hs) fun E σ H ⟨env, G, rel, a⟩ =>
  tX.bindS a (PostS.refl rel) fun r env1 v G1 H1 e1 p1 rr a1 => a1.nx env1 σ G1 H1 rfl p1.s
theorem sS_doc {x j pos pos'} : PS X (.Expr (.Constant (.str x) j pos) pos') (tS X.K Γ W sNil) := psI ps_doc fun E σ H ⟨env, G, rel, a⟩ => a.nx env σ G H rfl (PostS.refl rel)
theorem sS_pass : PS X (.Pass pos) (tS X.K Γ W sNil) := psI ps_pass fun E σ H ⟨env, G, rel, a⟩ => a.nx env σ G H rfl (PostS.refl rel)
theorem sS_break : PS X (.Break pos) (tS X.K Γ W .bk) := psI ps_break fun E σ H ⟨env, G, rel, a⟩ => a.bk env σ G H rfl (PostS.refl rel)
theorem sS_continue : PS X (.Continue pos) (tS X.K Γ W .ct) := psI ps_continue fun E σ H ⟨env, G, rel, a⟩ => a.ct env σ G H rfl (PostS.refl rel)
def sRet (f : SEnv → Out Rv) : SEnv → SO := sB (eK f) fun d env => .rt d env
theorem sS_ret (he : PE X e (tE X.K Γ W f)) : PS X (.Return (some e) pos) (tS X.K Γ W (sRet f)) := psI (ps_ret (sK he)) fun E σ H ⟨env, G, rel, a⟩ =>
  tX.bindS a (PostS.refl rel) fun d env1 v G1 H1 e1 p1 rr a1 => a1.rt d env1 v σ G1 H1 rfl p1.s rr
theorem sS_retN : PS X (.Return none pos) (tS X.K Γ W fun env => .rt .non env) := psI ps_retN fun E σ H ⟨env, G, rel, a⟩ => a.rt .non env .non σ G H rfl (PostS.refl rel) .non
def sIf (c : SEnv → Out Bool) (f g : SEnv → SO) : SEnv → SO := sB c fun b env => if b = true then f env else g env
theorem sS_if {b : Expr} {x y : List Stmt} (hc : PT X b (tT X.K Γ W c)) (hx : PSs X x (tS X.K Γ W fs)) (hy : PSs X y (tS X.K Γ W gs)) : PS X (.If b x y pos) (tS X.K Γ W (sIf c fs gs)) := psI (ps_if hc hx hy) fun E σ H ⟨env, G, rel, a⟩ =>
  tX.bindS a (PostS.refl rel) fun r env1 v G1 H1 e1 p1 rr a1 => by
  obtain rfl : v = r := rr
  cases v with
  | true =>
    simp only [if_true] at a1
    exact iteT ⟨env1, G1, p1.rel, a1.go p1.s⟩
  | false =>
    simp only [Bool.false_eq_true, if_false] at a1
    exact iteF ⟨env1, G1, p1.rel, a1.go p1.s⟩
end
/-! ### names stored -/
/-- slot i may be stored -/
def free (env : SEnv) (i : Nat) : Bool := match env[i]? with
  | some (.mu true _) => false
  | some _ => true
  | none => false
def tgN (i : Nat) (d : D) (env : SEnv) : Option SEnv := if free env i = true then some (env.set i (.im d)) else none
section
variable {K : PySem.W.Frag} {Γ : Cls0} {W : WX} {σ : L2.St} {env : SEnv} {G H : Hp}
theorem free_lt {i : Nat} (h : free env i = true) : i < env.length := by
  unfold free at h
  cases e : env[i]? with
  | none => rw [e] at h; cases h
  | some s => exact (List.getElem?_eq_some_iff.mp e).1
theorem free_io {i : Nat} {d : D} (h : free env i = true) : env[i]? ≠ some (.mu true d) := fun e => by
  unfold free at h
  rw [e] at h
  cases h
theorem ow_set {i : Nat} {d : D} {v : Option V} {p : Addr} (h : Ow (env.set i (.im d)) (σ.set i v) p) : ∃ j, j ≠ i ∧ OwAt env σ j p := by
  obtain ⟨j, ⟨c, d', z1⟩, z2⟩ := h
  by_cases hj : j = i
  · subst hj
    by_cases hl : j < env.length
    · rw [List.getElem?_set_self hl] at z1
      cases z1
    · rw [List.getElem?_eq_none (by rw [List.length_set]; omega)] at z1
      cases z1
  · rw [List.getElem?_set_ne (Ne.symm hj)] at z1
    rw [List.getElem?_set_ne (Ne.symm hj)] at z2
    exact ⟨j, hj, ⟨c, d', z1⟩, z2⟩
/-- slot i holds d from now on -/
theorem Rel.setI (r : Rel K Γ env σ G H) {i : Nat} {v : V} {d : D} (f : free env i = true) (h : Rp K Γ G v d) : PostS K Γ env σ G H (env.set i (.im d)) (σ.set i (some v)) G H := by
  have hi := free_lt f
  refine ⟨⟨by rw [List.length_set, List.length_set]; exact r.len, r.sub, fun j s o e1 e2 => ?_, fun j k p h1 h2 => ?_⟩, Fr.refl, fun p z => ?_, fun j d' e => ?_, List.length_set⟩
  · by_cases hj : j = i
    · subst hj
      rw [List.getElem?_set_self hi] at e1
      rw [List.getElem?_set_self (by rw [← r.len]; exact hi)] at e2
      cases e1; cases e2
      exact h
    · rw [List.getElem?_set_ne (Ne.symm hj)] at e1 e2
      exact r.sl j s o e1 e2
  · have back : ∀ {j : Nat}, OwAt (env.set i (.im d)) (σ.set i (some v)) j p → OwAt env σ j p := fun {j} z => by
      obtain ⟨⟨c', d', z1⟩, z2⟩ := z
      by_cases hj : j = i
      · subst hj
        rw [List.getElem?_set_self hi] at z1
        cases z1
      · rw [List.getElem?_set_ne (Ne.symm hj)] at z1 z2
        exact ⟨⟨c', d', z1⟩, z2⟩
    exact r.dj j k p (back h1) (back h2)
  · obtain ⟨j, _, z⟩ := ow_set z
    exact .inl ⟨j, z⟩
  · have hj : j ≠ i := fun z => by subst z; exact free_io f e
    rw [List.getElem?_set_ne (Ne.symm hj), List.getElem?_set_ne (Ne.symm hj)]
    exact ⟨rfl, d', e⟩
/-- slot i owns what is new -/
theorem Rel.setM (r : Rel K Γ env σ G H) {i : Nat} {p : Addr} {d : D} (f : free env i = true) (h : Own K Γ G H p d) (n : ¬ Ow env σ p) : Rel K Γ (env.set i (.mu false d)) (σ.set i (some (.ref p))) G H ∧
    (∀ q, Ow (env.set i (.mu false d)) (σ.set i (some (.ref p))) q → Ow env σ q ∨ q = p) ∧ ∀ (j : Nat) (d' : D), env[j]? = some (.mu true d') → (σ.set i (some (.ref p)))[j]? = σ[j]? ∧ ∃ d'', (env.set i (.mu false d))[j]? = some (.mu true d'') := by
  have hi := free_lt f
  have hs : i < σ.length := by rw [← r.len]; exact hi
  refine ⟨⟨by rw [List.length_set, List.length_set]; exact r.len, r.sub, fun j s o e1 e2 => ?_, fun j k q h1 h2 => ?_⟩, fun q z => ?_, fun j d' e => ?_⟩
  · by_cases hj : j = i
    · subst hj
      rw [List.getElem?_set_self hi] at e1
      rw [List.getElem?_set_self hs] at e2
      cases e1; cases e2
      exact ⟨p, rfl, h⟩
    · rw [List.getElem?_set_ne (Ne.symm hj)] at e1 e2
      exact r.sl j s o e1 e2
  · have back : ∀ {j : Nat}, OwAt (env.set i (.mu false d)) (σ.set i (some (.ref p))) j q → (j = i ∧ q = p) ∨ (j ≠ i ∧ OwAt env σ j q) := fun {j} z => by
      obtain ⟨⟨c', d', z1⟩, z2⟩ := z
      by_cases hj : j = i
      · subst hj
        rw [List.getElem?_set_self hs] at z2
        cases z2
        exact .inl ⟨rfl, rfl⟩
      · rw [List.getElem?_set_ne (Ne.symm hj)] at z1 z2
        exact .inr ⟨hj, ⟨c', d', z1⟩, z2⟩
    rcases back h1 with ⟨rfl, rfl⟩ | ⟨hj, z1⟩
    · rcases back h2 with ⟨rfl, _⟩ | ⟨hk, z2⟩
      · rfl
      · exact absurd ⟨k, z2⟩ n
    · rcases back h2 with ⟨rfl, rfl⟩ | ⟨hk, z2⟩
      · exact absurd ⟨j, z1⟩ n
      · exact r.dj j k q z1 z2
  · obtain ⟨j, ⟨c, d', z1⟩, z2⟩ := z
    by_cases hj : j = i
    · subst hj
      rw [List.getElem?_set_self hs] at z2
      cases z2
      exact .inr rfl
    · rw [List.getElem?_set_ne (Ne.symm hj)] at z1 z2
      exact .inl ⟨j, ⟨c, d', z1⟩, z2⟩
  · have hj : j ≠ i := fun z => by subst z; exact free_io f e
    rw [List.getElem?_set_ne (Ne.symm hj), List.getElem?_set_ne (Ne.symm hj)]
    exact ⟨rfl, d', e⟩
end
/-- a target takes a value -/
def Off (is : List Nat) (σ σ' : L2.St) : Prop := σ'.length = σ.length ∧ ∀ j : Nat, j ∉ is → σ'[j]? = σ[j]?
def tTg (K : PySem.W.Frag) (Γ : Cls0) (is : List Nat) (tg : D → SEnv → Option SEnv) : TG := fun v σ H Q => ∃ env G d env', Rel K Γ env σ G H ∧ Rp K Γ G v d ∧ tg d env = some env' ∧ ∀ σ', PostS K Γ env σ G H env' σ' G H → Off is σ σ' → Q σ' H
def tgsNil (ds : List D) (env : SEnv) : Option SEnv := match ds with
  | [] => some env
  | _ => none
def tgsCons (g : D → SEnv → Option SEnv) (r : List D → SEnv → Option SEnv) (ds : List D) (env : SEnv) : Option SEnv := match ds with
  | d :: ds => (g d env).bind (r ds)
  | [] => none
def tgT (r : List D → SEnv → Option SEnv) (d : D) (env : SEnv) : Option SEnv := match d with
  | .tup ds => r ds env
  | _ => none
def tTgs (K : PySem.W.Frag) (Γ : Cls0) (is : List Nat) (tg : List D → SEnv → Option SEnv) : TGs := fun vs σ H Q => ∃ env G ds env', Rel K Γ env σ G H ∧ RpA K Γ G vs ds ∧ tg ds env = some env' ∧ ∀ σ', PostS K Γ env σ G H env' σ' G H → Off is σ σ' → Q σ' H
theorem Off.trans {a b : List Nat} {σ σ1 σ2 : L2.St} (h : Off a σ σ1) (k : Off b σ1 σ2) : Off (a ++ b) σ σ2 := ⟨k.1.trans h.1, fun j hj => (k.2 j fun z => hj (List.mem_append_right _ z)).trans (h.2 j fun z => hj (List.mem_append_left _ z))⟩
theorem Off.set {σ : L2.St} {i : Nat} {v : Option V} : Off [i] σ (σ.set i v) := ⟨List.length_set, fun j hj => List.getElem?_set_ne fun z => hj (by rw [z]; exact List.mem_singleton.mpr rfl)⟩
section
variable {X : Cx} {Γ : Cls0} {W : WX} {pos : Pos} {t e : Expr} {ts : List Expr} {g : D → SEnv → Option SEnv} {r : List D → SEnv → Option SEnv} {f : SEnv → Out Rv} {is js : List Nat}
theorem pgI {X : Cx} {e : Expr} {t t' : TG} (h : PG X e t) (k : ∀ v σ H Q, t' v σ H Q → t v σ H Q) : PG X e t' := ⟨fun pins s σ H v u Q I r z => h.run pins s σ H v u Q I r (k v σ H Q z)⟩
theorem pgsI {X : Cx} {e : List Expr} {t t' : TGs} (h : PGs X e t) (k : ∀ v σ H Q, t' v σ H Q → t v σ H Q) : PGs X e t' := ⟨fun pins s σ H v u Q I r z => h.run pins s σ H v u Q I r (k v σ H Q z)⟩
theorem sG_name {i : Nat} (h : PG X t (gName i)) : PG X t (tTg X.K Γ [i] (tgN i)) := pgI h fun v σ H Q ⟨env, G, d, env', rel, hd, e, q⟩ => by
  unfold tgN at e
  split at e
  · rename_i z
    cases e
    exact q _ (rel.setI z hd) Off.set
  · cases e
theorem sGs_nil : PGs X [] (tTgs X.K Γ [] tgsNil) := pgsI pgs_nil fun vs σ H Q ⟨env, G, ds, env', rel, hd, e, q⟩ => by
  unfold tgsNil at e
  split at e
  · cases e
    cases hd
    exact ⟨rfl, q σ (PostS.refl rel) ⟨rfl, fun _ _ => rfl⟩⟩
  · cases e
theorem sGs_cons (h1 : PG X t (tTg X.K Γ is g)) (h2 : PGs X ts (tTgs X.K Γ js r)) (hs : (assignEach (t :: ts) X.env).map (·.2) = assign t X.env :: (assignEach ts X.env).map (·.2) := by rfl) : PGs X (t :: ts) (tTgs X.K Γ (is ++ js) (tgsCons g r)) :=
  pgsI (pgs_cons h1 h2 hs) fun vs σ H Q ⟨env, G, ds, env', rel, hd, e, q⟩ => by
  unfold tgsCons at e
  split at e
  · rename_i d ds
    cases hd with
    | cons a b =>
      obtain ⟨env1, e1, e2⟩ := Option.bind_eq_some_iff.mp e
      exact ⟨_, _, rfl, env, G, d, env1, rel, a, e1, fun σ1 p1 o1 => ⟨env1, G, ds, env', p1.rel, b, e2, fun σ2 p2 o2 => q σ2 (p1.trans p2) (o1.trans o2)⟩⟩
  · cases e
theorem sG_tup {k : Nat} {n : Nat} (hc : X.calm = true) (h : PGs X ts (tTgs X.K Γ is r)) (hl : ∀ ds env env', r ds env = some env' → ds.length = n) (hn : (assignEach ts X.env).length = n := by rfl) (hst : (assignEach ts X.env).findIdx? (·.1) = none := by rfl) :
    PG X (.Tuple ts k pos) (tTg X.K Γ is (tgT r)) := pgI (pg_tup hc h hn hst) fun v σ H Q ⟨env, G, d, env', rel, hd, e, q⟩ => by
  unfold tgT at e
  split at e
  · rename_i ds
    cases hd with
    | tup a b => exact ⟨_, _, rfl, a.on rel.sub, by rw [b.len]; exact hl _ _ _ e, env, G, ds, env', rel, b, e, q⟩
  · cases e
theorem len0 (ds : List D) (env env' : SEnv) (h : tgsNil ds env = some env') : ds.length = 0 := by
  unfold tgsNil at h
  split at h
  · rfl
  · cases h
theorem lenS {n : Nat} (k : ∀ ds env env', r ds env = some env' → ds.length = n) (ds : List D) (env env' : SEnv) (h : tgsCons g r ds env = some env') : ds.length = n + 1 := by
  unfold tgsCons at h
  split at h
  · obtain ⟨env1, e1, e2⟩ := Option.bind_eq_some_iff.mp h
    rw [List.length_cons, k _ _ _ e2]
  · cases h
def sAsg (f : SEnv → Out Rv) (tg : D → SEnv → Option SEnv) : SEnv → SO := sB (eK f) fun d env => match tg d env with
  | some env' => .nx env'
  | none => .bad
theorem asg_run {K : PySem.W.Frag} {E : Ends} {σ : L2.St} {H : Hp} (z : tS K Γ W (sAsg f g) E σ H) : tAsg (tK K Γ W (eK f)) (tTg K Γ is g) E σ H := by
  obtain ⟨env, G, rel, a⟩ := z
  refine tX.bindS a (PostS.refl rel) fun d env1 v G1 H1 e1 p1 rr a1 => ?_
  split at a1
  · rename_i env' e2
    exact ⟨env1, G1, d, env', p1.rel, rr, e2, fun σ' p2 _ => a1.nx env' σ' G1 H1 rfl (p1.s.trans p2)⟩
  · exact absurd rfl a1.nb
theorem sS_asg (he : PE X e (tE X.K Γ W f)) (hg : PG X t (tTg X.K Γ is g)) (hs : swapsWithSole [t] e pos.line X.env = pure false := by rfl) (hw : swappedStores [t] e X.env = pure none := by rfl)
    (h1 : (assignEach [t] X.env).map (·.2) = [assign t X.env] := by rfl) : PS X (.Assign [t] e pos) (tS X.K Γ W (sAsg f g)) := psI (ps_asg (sK he) hg hs hw h1) fun E σ H z => asg_run z
/-- name = e, kept -/
theorem sS_set {i : Nat} {x : Str} {pos' : Pos} (hN : X.N.Nodup) (hi : X.N[i]? = some x) (hx : Loc X.env.scope x) (he : PE X e (tE X.K Γ W f)) (hs : swapsWith e (some (.Name x pos')) pos.line X.env = pure false := by rfl) (hf : X.fn x = true ∨ X.env.scope.names.lookup x = some .local := by first | exact .inl rfl | exact .inr rfl | assumption) :
    PS X (.Assign [.Name x pos'] e pos) (tS X.K Γ W (sAsg f (tgN i))) := psI (ps_set hN hi hx (sK he) hs hf) fun E σ H z => by
  obtain ⟨env, G, rel, a⟩ := z
  refine tX.bindS a (PostS.refl rel) fun d env1 v G1 H1 e1 p1 rr a1 => ?_
  split at a1
  · rename_i env' e2
    unfold tgN at e2
    split at e2
    · rename_i z
      cases e2
      exact a1.nx _ _ G1 H1 rfl (p1.s.trans (p1.rel.setI z rr))
    · cases e2
  · exact absurd rfl a1.nb
/-- name = e, owned where it is new -/
def sSetM (i : Nat) (f : SEnv → Out Rv) : SEnv → SO := sB f fun r env => if free env i = true then (match r with
  | .f d => .nx (env.set i (.mu false d))
  | r => match fz env r with
    | some (d, env') => if free env' i = true then .nx (env'.set i (.im d)) else .bad
    | none => .bad) else .bad
theorem setM_run {K : PySem.W.Frag} {E : Ends} {σ : L2.St} {H : Hp} {i : Nat} (z : tS K Γ W (sSetM i f) E σ H) : tAsg (tE K Γ W f) (gName i) E σ H := by
  obtain ⟨env, G, rel, a⟩ := z
  refine tX.bindS a (PostS.refl rel) fun r env1 v G1 H1 e1 p1 rr a1 => ?_
  by_cases hf : free env1 i = true
  · simp only [hf, if_true] at a1
    cases r with
    | f d =>
      obtain ⟨p, rfl, o, n, n0⟩ := rr
      obtain ⟨r1, r2, r3⟩ := p1.rel.setM hf o n
      refine a1.nx _ _ G1 H1 rfl ⟨r1, p1.fr, fun q z => ?_, fun j d' e => ?_, by rw [List.length_set]; exact p1.ks.len⟩
      · rcases r2 q z with z | rfl
        · exact .inl (p1.ks.ow z)
        · exact .inr n0
      · obtain ⟨_, d2, e2⟩ := p1.s.io j d' e
        exact r3 j d2 e2
    | v d =>
      simp only [fz, hf, if_true] at a1
      exact a1.nx _ _ G1 H1 rfl (p1.s.trans (p1.rel.setI hf rr))
    | p j =>
      cases q : fz env1 (.p j) with
      | none => simp only [q] at a1; exact absurd rfl a1.nb
      | some w =>
        obtain ⟨d, env'⟩ := w
        simp only [q] at a1
        obtain ⟨G', p', hd⟩ := RvR.fz rr p1 q
        by_cases hf' : free env' i = true
        · simp only [hf', if_true] at a1
          exact a1.nx _ _ G' H1 rfl (p'.s.trans (p'.rel.setI hf' hd))
        · simp only [hf', Bool.false_eq_true, if_false] at a1
          exact absurd rfl a1.nb
  · simp only [hf, if_false, Bool.false_eq_true] at a1
    exact absurd rfl a1.nb
theorem sS_setM {i : Nat} {x : Str} {pos' : Pos} (hN : X.N.Nodup) (hi : X.N[i]? = some x) (hx : Loc X.env.scope x) (he : PE X e (tE X.K Γ W f)) (hs : swapsWith e (some (.Name x pos')) pos.line X.env = pure false := by rfl) (hf : X.fn x = true ∨ X.env.scope.names.lookup x = some .local := by first | exact .inl rfl | exact .inr rfl | assumption) :
    PS X (.Assign [.Name x pos'] e pos) (tS X.K Γ W (sSetM i f)) := psI (ps_set hN hi hx he hs hf) fun E σ H z => setM_run z
end
end EV
set_option Elab.async false
set_option linter.all false
set_option maxRecDepth 100000
set_option maxHeartbeats 4000000
/-! Loops, comprehensions. -/
namespace EV
open PySem PySem.Spec PyProof.Rows L2 PySem.NearX
/-- the iterator gives these, one after the other -/
structure Walks (K : PySem.W.Frag) (Γ : Cls0) (G : Hp) (J : It) (ds : List D) : Prop where
  go : ∀ i H, Same G H → i < ds.length → J.go i H
  stop : ∀ i H, Same G H → ds.length ≤ i → J.stop i H
  yld : ∀ i env σ G1 H x H', Rel K Γ env σ G1 H → Same G G1 → J.yld i H x H' → ∀ d, ds[i]? = some d → ∃ G2, Post K Γ env σ G1 H env G2 H' ∧ Rp K Γ G2 x d
abbrev RI (K : PySem.W.Frag) (Γ : Cls0) : RR (List D) It := fun _ _ _ G _ J ds => Walks K Γ G J ds
abbrev tI (K : PySem.W.Frag) (Γ : Cls0) (W : WX) (f : SEnv → Out (List D)) : TI := tX K Γ W (RI K Γ) f
def seqOf : D → Option (List D)
  | .lst ds => some ds
  | .tup ds => some ds
  | .scr ns => some (ns.map .int)
  | _ => none
def eSeq (f : SEnv → Out Rv) : SEnv → Out (List D) := eB (eK f) fun d env => match seqOf d with
  | some ds => .ok ds env
  | none => .bad
def eRng1 (f : SEnv → Out Rv) : SEnv → Out (List D) := eB f fun r env => match dr env r with
  | some (.int j) => if -(2 ^ 62) ≤ j ∧ j < 2 ^ 62 then .ok ((List.range j.toNat).map fun (i : Nat) => .int i) env else .bad
  | _ => .bad
def eRng2 (f g : SEnv → Out Rv) : SEnv → Out (List D) := eB f fun r => eB g fun r2 env => match dr env r, dr env r2 with
  | some (.int i), some (.int j) => if -(2 ^ 62) ≤ i ∧ i < 2 ^ 62 ∧ -(2 ^ 62) ≤ j ∧ j < 2 ^ 62 then .ok ((List.range (j - i).toNat).map fun (k : Nat) => .int (i + k)) env else .bad
  | _, _ => .bad
def enumF (n : Nat) : List D → List D
  | [] => []
  | d :: ds => .tup [.int n, d] :: enumF (n + 1) ds
def eEnum (f : SEnv → Out Rv) : SEnv → Out (List D) := eB (eK f) fun d env => match d with
  | .lst ds => .ok (enumF 0 ds) env
  | _ => .bad
def zipF : List D → List D → List D
  | a :: as, b :: bs => .tup [a, b] :: zipF as bs
  | _, _ => []
def eZip (f g : SEnv → Out Rv) : SEnv → Out (List D) := eB (eK f) fun d => eB (eK g) fun d2 env => match d, d2 with
  | .lst as, .lst bs => .ok (zipF as bs) env
  | _, _ => .bad
theorem enumF_get : ∀ (ds : List D) (n i : Nat) (d : D), (enumF n ds)[i]? = some d → ∃ d', ds[i]? = some d' ∧ d = .tup [.int ((n + i : Nat) : Int), d']
  | [], _, _, _, h => by simp [enumF] at h
  | d :: ds, n, 0, e, h => by simp [enumF] at h; exact ⟨d, rfl, by subst h; rfl⟩
  | d :: ds, n, i + 1, e, h => by
    obtain ⟨d', h1, h2⟩ := enumF_get ds (n + 1) i e (by simpa [enumF] using h)
    exact ⟨d', by simpa using h1, by rw [h2, show n + 1 + i = n + (i + 1) by omega]⟩
theorem enumF_len : ∀ (ds : List D) (n : Nat), (enumF n ds).length = ds.length
  | [], _ => rfl
  | d :: ds, n => by simp [enumF, enumF_len ds]
theorem zipF_get : ∀ (as bs : List D) (i : Nat) (d : D), (zipF as bs)[i]? = some d → ∃ a b, as[i]? = some a ∧ bs[i]? = some b ∧ d = .tup [a, b]
  | [], _, _, _, h => by simp [zipF] at h
  | _ :: _, [], _, _, h => by simp [zipF] at h
  | a :: as, b :: bs, 0, e, h => by simp [zipF] at h; exact ⟨a, b, rfl, rfl, h.symm⟩
  | a :: as, b :: bs, i + 1, e, h => by
    obtain ⟨x, y, h1, h2, h3⟩ := zipF_get as bs i e (by simpa [zipF] using h)
    exact ⟨x, y, by simpa using h1, by simpa using h2, h3⟩
theorem zipF_len : ∀ (as bs : List D), (zipF as bs).length = min as.length bs.length
  | [], _ => by simp [zipF]
  | _ :: _, [] => by simp [zipF]
  | a :: as, b :: bs => by simp [zipF, zipF_len as bs]
section
variable {K : PySem.W.Frag} {Γ : Cls0} {G : Hp}
theorem walks_list {a : Addr} {xs : List V} {ds : List D} (h : G a = some (.lst xs)) (r : RpA K Γ G xs ds) : Walks K Γ G (Itl K a) ds := by
  refine ⟨fun i H s hi => ?_, fun i H s hi => ⟨xs, SqL.of (s _ _ h), by rw [r.len]; exact hi⟩, fun i env σ G1 H x H' rel s y d e => ?_⟩
  · obtain ⟨x, e, _⟩ := r.to (List.getElem?_eq_getElem hi)
    exact ⟨xs, x, SqL.of (s _ _ h), e⟩
  · obtain ⟨rfl, y⟩ := y
    obtain ⟨x', e', hx⟩ := r.to e
    cases (y xs (SqL.of (rel.sub _ _ (s _ _ h)))).symm.trans e'
    exact ⟨G1, Post.refl rel, hx.on s⟩
theorem walks_scr {a : Addr} {ns : List Int} (h : SqL K G a (ns.map V.int)) : Walks K Γ G (Itl K a) (ns.map D.int) := by
  refine ⟨fun i H s hi => ?_, fun i H s hi => ⟨_, h.on s, by simpa using hi⟩, fun i env σ G1 H x H' rel s y d e => ?_⟩
  · have hi' : i < (ns.map V.int).length := by simpa using hi
    exact ⟨_, _, h.on s, List.getElem?_eq_getElem hi'⟩
  · obtain ⟨rfl, y⟩ := y
    rw [List.getElem?_map] at e
    obtain ⟨n, en, rfl⟩ := Option.map_eq_some_iff.mp e
    have e2 := y _ (h.on (s.trans rel.sub))
    rw [List.getElem?_map, en] at e2
    cases e2
    exact ⟨G1, Post.refl rel, .int n⟩
theorem walks_tup {a : Addr} {xs : List V} {ds : List D} (h : SqT K G a xs) (r : RpA K Γ G xs ds) : Walks K Γ G (Itt K a) ds := by
  refine ⟨fun i H s hi => ?_, fun i H s hi => ⟨xs, h.on s, by rw [r.len]; exact hi⟩, fun i env σ G1 H x H' rel s y d e => ?_⟩
  · obtain ⟨x, e, _⟩ := r.to (List.getElem?_eq_getElem hi)
    exact ⟨xs, x, h.on s, e⟩
  · obtain ⟨rfl, y⟩ := y
    obtain ⟨x', e', hx⟩ := r.to e
    cases (y xs (h.on (s.trans rel.sub))).symm.trans e'
    exact ⟨G1, Post.refl rel, hx.on s⟩
theorem walks_rng {lo : Int} {n : Nat} : Walks K Γ G (Itr lo n) ((List.range n).map fun (k : Nat) => D.int (lo + k)) := by
  refine ⟨fun i H s hi => ?_, fun i H s hi => ?_, fun i env σ G1 H x H' rel s y d e => ?_⟩
  · have : i < n := by simpa using hi
    exact this
  · have : n ≤ i := by simpa using hi
    exact this
  · obtain ⟨rfl, rfl⟩ := y
    rw [List.getElem?_map] at e
    obtain ⟨k, ek, rfl⟩ := Option.map_eq_some_iff.mp e
    have hk := List.getElem?_eq_some_iff.mp ek
    obtain ⟨hk1, hk2⟩ := hk
    rw [List.getElem_range] at hk2
    subst hk2
    exact ⟨G1, Post.refl rel, .int _⟩
theorem walks_enum {a : Addr} {xs : List V} {ds : List D} (h : G a = some (.lst xs)) (r : RpA K Γ G xs ds) : Walks K Γ G (Ite K a) (enumF 0 ds) := by
  refine ⟨fun i H s hi => ?_, fun i H s hi => ⟨xs, SqL.of (s _ _ h), by rw [r.len]; rw [enumF_len] at hi; exact hi⟩, fun i env σ G1 H x H' rel s y d e => ?_⟩
  · rw [enumF_len] at hi
    obtain ⟨x, e, _⟩ := r.to (List.getElem?_eq_getElem hi)
    exact ⟨xs, x, SqL.of (s _ _ h), e⟩
  · obtain ⟨T, y, rfl, nT, rfl, hy⟩ := y
    obtain ⟨d', e1, rfl⟩ := enumF_get ds 0 i d e
    obtain ⟨x', e', hx⟩ := r.to e1
    cases (hy xs (SqL.of (rel.sub _ _ (s _ _ h)))).symm.trans e'
    have k := rel.new (o := .tup [.int (i : Nat), y]) nT
    refine ⟨_, k, Rp.tup (.inl (.inl upd_same)) (.cons ?_ (.cons ((hx.on s).on k.fr.g) .nil))⟩
    rw [Nat.zero_add]
    exact .int _
theorem walks_zip {a b : Addr} {xs ys : List V} {ds es : List D} (h : G a = some (.lst xs)) (r : RpA K Γ G xs ds) (h' : G b = some (.lst ys)) (r' : RpA K Γ G ys es) : Walks K Γ G (Itz K a b) (zipF ds es) := by
  refine ⟨fun i H s hi => ?_, fun i H s hi => ⟨xs, ys, SqL.of (s _ _ h), SqL.of (s _ _ h'), ?_⟩, fun i env σ G1 H x H' rel s y d e => ?_⟩
  · rw [zipF_len] at hi
    obtain ⟨x, e, _⟩ := r.to (List.getElem?_eq_getElem (show i < ds.length by omega))
    obtain ⟨y, e', _⟩ := r'.to (List.getElem?_eq_getElem (show i < es.length by omega))
    exact ⟨xs, ys, x, y, SqL.of (s _ _ h), SqL.of (s _ _ h'), e, e'⟩
  · rw [zipF_len] at hi
    rw [r.len, r'.len]
    omega
  · obtain ⟨T, x1, y1, rfl, nT, rfl, hx, hy⟩ := y
    obtain ⟨d1, d2, e1, e2, rfl⟩ := zipF_get ds es i d e
    obtain ⟨x', e1', hx'⟩ := r.to e1
    obtain ⟨y', e2', hy'⟩ := r'.to e2
    cases (hx xs (SqL.of (rel.sub _ _ (s _ _ h)))).symm.trans e1'
    cases (hy ys (SqL.of (rel.sub _ _ (s _ _ h')))).symm.trans e2'
    have k := rel.new (o := .tup [x1, y1]) nT
    exact ⟨_, k, Rp.tup (.inl (.inl upd_same)) (.cons ((hx'.on s).on k.fr.g) (.cons ((hy'.on s).on k.fr.g) .nil))⟩
end
section
variable {X : Cx} {Γ : Cls0} {W : WX} {pos : Pos} {tg e e2 : Expr} {f g : SEnv → Out Rv}
theorem piI {X : Cx} {tg e : Expr} {t t' : TI} (h : PI X tg e t) (k : ∀ σ H Q, t' σ H Q → t σ H Q) : PI X tg e t' := ⟨fun pins s σ H Q I z => h.run pins s σ H Q I (k σ H Q z)⟩
theorem sI_seq (h : PE X e (tE X.K Γ W f)) : PI X tg e (tI X.K Γ W (eSeq f)) := ⟨fun pins s σ H R I ⟨env, G, rel, a⟩ => by
  have key : ∀ (T : It → Hp → Prop), T = T := fun _ => rfl
  cases z : eK f env with
  | ok d env1 =>
    cases d with
    | lst ds =>
      refine (pi_list (sK h)).run pins s σ H R I (tX.bind a (Post.refl rel) fun d env2 v G1 H1 e1 p1 rr a1 => ?_)
      rw [z] at e1
      cases e1
      cases rr with
      | lst h1 h2 => exact ⟨_, rfl, ⟨_, SqL.of (p1.rel.sub _ _ h1)⟩, a1.run _ _ _ _ _ rfl p1 (walks_list h1 h2)⟩
    | tup ds =>
      refine (pi_tup (sK h)).run pins s σ H R I (tX.bind a (Post.refl rel) fun d env2 v G1 H1 e1 p1 rr a1 => ?_)
      rw [z] at e1
      cases e1
      cases rr with
      | tup h1 h2 => exact ⟨_, rfl, ⟨_, h1.on p1.rel.sub⟩, a1.run _ _ _ _ _ rfl p1 (walks_tup h1 h2)⟩
    | scr ns =>
      refine (pi_list (sK h)).run pins s σ H R I (tX.bind a (Post.refl rel) fun d env2 v G1 H1 e1 p1 rr a1 => ?_)
      rw [z] at e1
      cases e1
      cases rr with
      | scr h1 => exact ⟨_, rfl, ⟨_, h1.on p1.rel.sub⟩, a1.run _ _ _ _ _ rfl p1 (walks_scr h1)⟩
    | _ =>
      refine absurd ?_ a.nb
      simp only [eSeq, eB, z, seqOf]
  | ex c d env1 =>
    refine (pi_list (sK h)).run pins s σ H R I (tX.bind a (Post.refl rel) fun d env2 v G1 H1 e1 p1 rr a1 => ?_)
    rw [z] at e1
    cases e1
  | bad =>
    refine absurd ?_ a.nb
    simp only [eSeq, eB, z]⟩
theorem sI_rng1 {p : Pos} (hg : Gl X "range") (hm : X.mg "range" = none) (h : PE X e (tE X.K Γ W f)) (hs : starEach [e] X.env = [(false, eval e X.env)] := by rfl) : PI X tg (.Call (.Name "range" p) [e] [] pos) (tI X.K Γ W (eRng1 f)) :=
  piI (pi_range1 hg hm (pa_cons h pa_nil hs) hs) fun σ H Q ⟨env, G, rel, a⟩ => by
  refine tX.bind a (Post.refl rel) fun r env1 v G1 H1 e1 p1 rr a1 => ?_
  split at a1
  · rename_i j ej
    split at a1
    · rename_i c
      refine ⟨j, by rw [rp_int (RvR.rd rr p1.rel ej)], c.1, c.2, a1.run _ _ env1 G1 H1 rfl p1 ?_⟩
      have := walks_rng (K := X.K) (Γ := Γ) (G := G1) (lo := 0) (n := j.toNat)
      simp only [Int.zero_add] at this
      exact this
    · exact absurd rfl a1.nb
  · exact absurd rfl a1.nb
theorem sI_rng2 {p : Pos} (hg : Gl X "range") (hm : X.mg "range" = none) (h : PE X e (tE X.K Γ W f)) (h2 : PE X e2 (tE X.K Γ W g)) (hs : starEach [e, e2] X.env = [(false, eval e X.env), (false, eval e2 X.env)] := by rfl) (hs1 : starEach [e, e2] X.env = (false, eval e X.env) :: starEach [e2] X.env := by rfl) (hs2 : starEach [e2] X.env = [(false, eval e2 X.env)] := by rfl) :
    PI X tg (.Call (.Name "range" p) [e, e2] [] pos) (tI X.K Γ W (eRng2 f g)) :=
  piI (pi_range2 hg hm (pa_cons h (pa_cons h2 pa_nil hs2) hs1) hs hs2) fun σ H Q ⟨env, G, rel, a⟩ => by
  refine tX.bind a (Post.refl rel) fun r env1 v G1 H1 e1 p1 rr a1 => tX.bind a1 p1 fun r2 env2 v2 G2 H2 e2 p2 rr2 a2 => ?_
  split at a2
  · rename_i i j ei ej
    split at a2
    · rename_i c
      exact ⟨i, j, by rw [rp_int (RvR.rd (rr.step p2) p2.rel ei), rp_int (RvR.rd rr2 p2.rel ej)], c, a2.run _ _ env2 G2 H2 rfl (p1.trans p2) walks_rng⟩
    · exact absurd rfl a2.nb
  · exact absurd rfl a2.nb
theorem sI_enum {p tpos : Pos} {elts : List Expr} {kk : Nat} (hg : Gl X "enumerate") (hm : X.mg "enumerate" = none) (h : PE X e (tE X.K Γ W f)) (hs : starEach [e] X.env = [(false, eval e X.env)] := by rfl) :
    PI X (.Tuple elts kk tpos) (.Call (.Name "enumerate" p) [e] [] pos) (tI X.K Γ W (eEnum f)) :=
  piI (pi_enum hg hm (pa_cons (sK h) pa_nil hs) hs) fun σ H Q ⟨env, G, rel, a⟩ => by
  refine tX.bind a (Post.refl rel) fun d env1 v G1 H1 e1 p1 rr a1 => ?_
  split at a1
  · cases rr with
    | lst h1 h2 => exact ⟨_, _, rfl, SqL.of (p1.rel.sub _ _ h1), a1.run _ _ _ _ _ rfl p1 (walks_enum h1 h2)⟩
  · exact absurd rfl a1.nb
theorem sI_zip {p tpos : Pos} {elts : List Expr} {kk : Nat} (hg : Gl X "zip") (hm : X.mg "zip" = none) (h : PE X e (tE X.K Γ W f)) (h2 : PE X e2 (tE X.K Γ W g)) (hs : starEach [e, e2] X.env = (false, eval e X.env) :: starEach [e2] X.env := by rfl) (hs2 : starEach [e2] X.env = [(false, eval e2 X.env)] := by rfl)
    (hpl : ∀ pos : Pos, (backTo pos (starEach [e2] X.env)).any (·.1) = false := by intro _; rfl) : PI X (.Tuple elts kk tpos) (.Call (.Name "zip" p) [e, e2] [] pos) (tI X.K Γ W (eZip f g)) :=
  piI (pi_zip hg hm (pa_cons (sK h) (pa_cons (sK h2) pa_nil hs2) hs) hs (hpl pos)) fun σ H Q ⟨env, G, rel, a⟩ => by
  refine tX.bind a (Post.refl rel) fun d env1 v G1 H1 e1 p1 rr a1 => tX.bind a1 p1 fun d2 env2 v2 G2 H2 e2 p2 rr2 a2 => ?_
  split at a2
  · have rr' := Rp.on p2.fr.g rr
    cases rr' with
    | lst h1 h2 =>
      cases rr2 with
      | lst h3 h4 => exact ⟨_, _, _, _, rfl, SqL.of (p2.rel.sub _ _ h1), SqL.of (p2.rel.sub _ _ h3), a2.run _ _ _ _ _ rfl (p1.trans p2) (walks_zip h1 h2 h3 h4)⟩
  · exact absurd rfl a2.nb
end
/-! ### for, while -/
def forF (tg : D → SEnv → Option SEnv) (body : SEnv → SO) : List D → SEnv → SO
  | [], env => .nx env
  | d :: ds, env => match tg d env with
    | none => .bad
    | some env1 => match body env1 with
      | .nx e => forF tg body ds e
      | .ct e => forF tg body ds e
      | .bk e => .nx e
      | .rt d e => .rt d e
      | .ex c d e => .ex c d e
      | .bad => .bad
def sFor (fi : SEnv → Out (List D)) (tg : D → SEnv → Option SEnv) (body : SEnv → SO) : SEnv → SO := sB fi fun ds env => forF tg body ds env
def whF (c : SEnv → Out Bool) (body : SEnv → SO) : Nat → SEnv → SO
  | 0, _ => .bad
  | n + 1, env => match c env with
    | .ok true e => (match body e with
      | .nx e2 => whF c body n e2
      | .ct e2 => whF c body n e2
      | .bk e2 => .nx e2
      | .rt d e2 => .rt d e2
      | .ex c d e2 => .ex c d e2
      | .bad => .bad)
    | .ok false e => .nx e
    | .ex c d e => .ex c d e
    | .bad => .bad
section
variable {X : Cx} {Γ : Cls0} {W : WX} {pos : Pos} {tgt iter b : Expr} {body : List Stmt} {fi : SEnv → Out (List D)} {tg : D → SEnv → Option SEnv} {fb : SEnv → SO} {c : SEnv → Out Bool} {is : List Nat}
theorem for_run {K : PySem.W.Frag} {E : Ends} {σ : L2.St} {H : Hp} (z : tS K Γ W (sFor fi tg fb) E σ H) : tFor (tI K Γ W fi) (tTg K Γ is tg) (tS K Γ W fb) E σ H := by
  obtain ⟨env, G, rel, a⟩ := z
  refine tX.bindS a (PostS.refl rel) fun ds env1 J G1 H1 e1 p1 w a1 => ?_
  refine ⟨fun i m σ' H' => m = ds.length - i ∧ i ≤ ds.length ∧ ∃ env' G', PostS K Γ env σ G H env' σ' G' H' ∧ Same G1 G' ∧ AtS K Γ W env σ G H (forF tg fb (ds.drop i) env') E, ⟨ds.length, by simp, Nat.zero_le _, env1, G1, p1.s, Same.refl _, by rw [List.drop_zero]; exact a1⟩, ?_⟩
  rintro i m σ' H' ⟨rfl, hi, env', G', p, sg, at_⟩
  by_cases hlt : i < ds.length
  · refine .inr ⟨w.go i H' (sg.trans p.rel.sub) hlt, fun σ2 H2 => ∃ env2 G2, PostS K Γ env σ G H env2 σ2 G2 H2 ∧ Same G1 G2 ∧ AtS K Γ W env σ G H (forF tg fb (ds.drop (i + 1)) env2) E, fun σ2 H2 ⟨env2, G2, q1, q2, q3⟩ => ⟨ds.length - (i + 1), by omega, rfl, hlt, env2, G2, q1, q2, q3⟩, fun x H'' y => ?_⟩
    obtain ⟨G2, k, hx⟩ := w.yld i env' σ' G' H' x H'' p.rel sg y ds[i] (List.getElem?_eq_getElem hlt)
    rw [List.drop_eq_getElem_cons hlt] at at_
    have p2 := p.trans k.s
    unfold forF at at_
    cases et : tg ds[i] env' with
    | none => rw [et] at at_; exact absurd rfl at_.nb
    | some env2 =>
      rw [et] at at_
      refine ⟨env', G2, ds[i], env2, p2.rel, hx, et, fun σ2 q _ => ?_⟩
      have p3 := p2.trans q
      have sg3 : Same G1 G2 := sg.trans k.fr.g
      refine ⟨env2, G2, q.rel, fun z => ?_, fun env3 σ3 G3 H3 e p' => ?_, fun d env3 v σ3 G3 H3 e p' hd => ?_, fun env3 σ3 G3 H3 e p' => ?_, fun env3 σ3 G3 H3 e p' => ?_, fun c d env3 cls dx σ3 G3 H3 e p' x => ?_⟩
      · simp only [z] at at_; exact at_.nb rfl
      · simp only [e] at at_
        exact ⟨env3, G3, p3.trans p', sg3.trans p'.fr.g, at_⟩
      · simp only [e] at at_; exact at_.rt d env3 v σ3 G3 H3 rfl (p3.trans p') hd
      · simp only [e] at at_; exact at_.nx env3 σ3 G3 H3 rfl (p3.trans p')
      · simp only [e] at at_
        exact ⟨env3, G3, p3.trans p', sg3.trans p'.fr.g, at_⟩
      · simp only [e] at at_; exact at_.ex c d env3 cls dx σ3 G3 H3 rfl (p3.trans p') x
  · have e : i = ds.length := by omega
    subst e
    rw [List.drop_length] at at_
    exact .inl ⟨w.stop _ H' (sg.trans p.rel.sub) (Nat.le_refl _), at_.nx env' σ' G' H' rfl p⟩
theorem sS_for (hp : PassesOwn (model X.prog X.w) X.A X.env X.xe) (hc : X.calm = true) (hi : PI X tgt iter (tI X.K Γ W fi)) (hg : PG X tgt (tTg X.K Γ is tg)) (hb : PSs X body (tS X.K Γ W fb))
    (hs : ∀ x, foldedSetIterable iter X.env x = pure x := by intro _; rfl) : PS X (.For tgt iter body [] pos) (tS X.K Γ W (sFor fi tg fb)) := psI (ps_for hp hc hi hg hb hs) fun E σ H z => for_run z
theorem sS_while (fuel : SEnv → Nat) (hp : PassesOwn (model X.prog X.w) X.A X.env X.xe) (hc : PT X b (tT X.K Γ W c)) (hb : PSs X body (tS X.K Γ W fb)) : PS X (.While b body [] pos) (tS X.K Γ W fun env => whF c fb (fuel env) env) :=
  psI (ps_while hp hc hb) fun E σ H ⟨env, G, rel, a⟩ => by
  refine ⟨fun m σ' H' => ∃ env' G', PostS X.K Γ env σ G H env' σ' G' H' ∧ AtS X.K Γ W env σ G H (whF c fb m env') E, ⟨fuel env, env, G, PostS.refl rel, a⟩, ?_⟩
  rintro m σ' H' ⟨env', G', p, at_⟩
  cases m with
  | zero => exact absurd rfl at_.nb
  | succ m =>
    unfold whF at at_
    refine ⟨env', G', p.rel, fun z => ?_, fun r env1 v G1 H1 e p1 rr => ?_, fun c d env1 cls dx G1 H1 e p1 x => ?_⟩
    · simp only [z] at at_; exact at_.nb rfl
    · obtain rfl : v = r := rr
      have p2 := p.trans p1.s
      cases v with
      | true =>
        simp only [e] at at_
        refine iteT ⟨fun σ2 H2 => ∃ env2 G2, PostS X.K Γ env σ G H env2 σ2 G2 H2 ∧ AtS X.K Γ W env σ G H (whF c fb m env2) E, fun σ2 H2 z => ⟨m, Nat.lt_succ_self m, z⟩, env1, G1, p1.rel, fun z => ?_, fun env3 σ3 G3 H3 e p' => ?_, fun d env3 v σ3 G3 H3 e p' hd => ?_, fun env3 σ3 G3 H3 e p' => ?_, fun env3 σ3 G3 H3 e p' => ?_, fun c d env3 cls dx σ3 G3 H3 e p' x => ?_⟩
        · simp only [z] at at_; exact at_.nb rfl
        · simp only [e] at at_; exact ⟨env3, G3, p2.trans p', at_⟩
        · simp only [e] at at_; exact at_.rt d env3 v σ3 G3 H3 rfl (p2.trans p') hd
        · simp only [e] at at_; exact at_.nx env3 σ3 G3 H3 rfl (p2.trans p')
        · simp only [e] at at_; exact ⟨env3, G3, p2.trans p', at_⟩
        · simp only [e] at at_; exact at_.ex c d env3 cls dx σ3 G3 H3 rfl (p2.trans p') x
      | false =>
        simp only [e] at at_
        exact iteF (at_.nx env1 σ' G1 H1 rfl p2)
    · simp only [e] at at_; exact at_.ex c d env1 cls dx σ' G1 H1 rfl (p.trans p1.s) x
end
end EV
set_option Elab.async false
set_option linter.all false
set_option maxRecDepth 100000
set_option maxHeartbeats 4000000
/-! Comprehensions. -/
namespace EV
open PySem PySem.Spec PyProof.Rows L2 PySem.NearX
def wipeE (env : SEnv) : List Nat → SEnv
  | [] => env
  | v :: vs => (wipeE env vs).set v .no
def resE (env0 env : SEnv) : List Nat → SEnv
  | [] => env
  | v :: vs => (resE env0 env vs).set v (env0.getD v .no)
def okW (env : SEnv) (vs : List Nat) : Bool := vs.all fun v => match env[v]? with
  | some .no => true
  | some (.im _) => true
  | _ => false
def WF : WX := fun _ _ _ _ => False
/-- a target stores these slots alone -/
def TgOff (is : List Nat) (tg : D → SEnv → Option SEnv) : Prop := ∀ d env env', tg d env = some env' → env'.length = env.length ∧ ∀ j : Nat, j ∉ is → env'[j]? = env[j]?
def TgsOff (is : List Nat) (tg : List D → SEnv → Option SEnv) : Prop := ∀ d env env', tg d env = some env' → env'.length = env.length ∧ ∀ j : Nat, j ∉ is → env'[j]? = env[j]?
theorem off_N {i : Nat} : TgOff [i] (tgN i) := fun d env env' h => by
  unfold tgN at h
  split at h
  · cases h
    exact ⟨List.length_set, fun j hj => List.getElem?_set_ne fun z => hj (by rw [z]; exact List.mem_singleton.mpr rfl)⟩
  · cases h
theorem off_nil : TgsOff [] tgsNil := fun d env env' h => by
  unfold tgsNil at h
  split at h
  · cases h; exact ⟨rfl, fun _ _ => rfl⟩
  · cases h
theorem off_cons {is js : List Nat} {g : D → SEnv → Option SEnv} {r : List D → SEnv → Option SEnv} (a : TgOff is g) (b : TgsOff js r) : TgsOff (is ++ js) (tgsCons g r) := fun d env env' h => by
  unfold tgsCons at h
  split at h
  · obtain ⟨env1, e1, e2⟩ := Option.bind_eq_some_iff.mp h
    obtain ⟨l1, h1⟩ := a _ _ _ e1
    obtain ⟨l2, h2⟩ := b _ _ _ e2
    exact ⟨l2.trans l1, fun j hj => (h2 j fun z => hj (List.mem_append_right _ z)).trans (h1 j fun z => hj (List.mem_append_left _ z))⟩
  · cases h
theorem off_T {is : List Nat} {r : List D → SEnv → Option SEnv} (b : TgsOff is r) : TgOff is (tgT r) := fun d env env' h => by
  unfold tgT at h
  split at h
  · exact b _ _ _ h
  · cases h
theorem wipeE_len (env : SEnv) : ∀ vs : List Nat, (wipeE env vs).length = env.length
  | [] => rfl
  | v :: vs => by rw [wipeE, List.length_set, wipeE_len env vs]
theorem resE_len (env0 env : SEnv) : ∀ vs : List Nat, (resE env0 env vs).length = env.length
  | [] => rfl
  | v :: vs => by rw [resE, List.length_set, resE_len env0 env vs]
theorem wipeE_out (env : SEnv) {j : Nat} : ∀ {vs : List Nat}, j ∉ vs → (wipeE env vs)[j]? = env[j]?
  | [], _ => rfl
  | v :: vs, h => by
    rw [wipeE, List.getElem?_set_ne (fun z => h (by rw [z]; exact List.mem_cons_self ..)), wipeE_out env fun z => h (List.mem_cons_of_mem _ z)]
theorem wipeE_in (env : SEnv) {j : Nat} : ∀ {vs : List Nat}, j ∈ vs → j < env.length → (wipeE env vs)[j]? = some .no
  | v :: vs, h, hl => by
    rw [wipeE]
    by_cases z : v = j
    · subst z; rw [List.getElem?_set_self (by rw [wipeE_len]; exact hl)]
    · rw [List.getElem?_set_ne z]
      exact wipeE_in env ((List.mem_cons.mp h).resolve_left (Ne.symm z)) hl
theorem resE_out (env0 env : SEnv) {j : Nat} : ∀ {vs : List Nat}, j ∉ vs → (resE env0 env vs)[j]? = env[j]?
  | [], _ => rfl
  | v :: vs, h => by
    rw [resE, List.getElem?_set_ne (fun z => h (by rw [z]; exact List.mem_cons_self ..)), resE_out env0 env fun z => h (List.mem_cons_of_mem _ z)]
theorem resE_in (env0 env : SEnv) {j : Nat} : ∀ {vs : List Nat}, j ∈ vs → j < env.length → (resE env0 env vs)[j]? = some (env0.getD j .no)
  | v :: vs, h, hl => by
    rw [resE]
    by_cases z : v = j
    · subst z; rw [List.getElem?_set_self (by rw [resE_len]; exact hl)]
    · rw [List.getElem?_set_ne z]
      exact resE_in env0 env ((List.mem_cons.mp h).resolve_left (Ne.symm z)) hl
theorem wipe_in {σ : L2.St} {j : Nat} : ∀ {vs : List Nat}, j ∈ vs → j < σ.length → (wipe σ vs)[j]? = some none
  | v :: vs, h, hl => by
    show ((wipe σ vs).set v none)[j]? = some none
    by_cases z : v = j
    · subst z; rw [List.getElem?_set_self (by rw [wipe_length]; exact hl)]
    · rw [List.getElem?_set_ne z]
      exact wipe_in ((List.mem_cons.mp h).resolve_left (Ne.symm z)) hl
theorem wipe_off {σ σ2 : L2.St} {is vs : List Nat} (o : Off is (wipe σ vs) σ2) (hs : ∀ i ∈ is, i ∈ vs) : wipe σ2 vs = wipe σ vs := by
  have hl : σ2.length = σ.length := o.1.trans (wipe_length σ vs)
  refine List.ext_getElem? fun j => ?_
  by_cases hj : j ∈ vs
  · by_cases hlt : j < σ.length
    · rw [wipe_in hj hlt, wipe_in hj (by rw [hl]; exact hlt)]
    · rw [List.getElem?_eq_none (by rw [wipe_length]; omega), List.getElem?_eq_none (by rw [wipe_length]; omega)]
  · rw [wipe_out hj]
    exact o.2 j fun z => hj (hs j z)
section
variable {K : PySem.W.Frag} {Γ : Cls0} {σ σ2 : L2.St} {env env1 env2 : SEnv} {G H G1 H1 G2 H2 : Hp} {vs : List Nat}
theorem ow_wipe {p : Addr} (h : Ow (wipeE env vs) (wipe σ vs) p) : ∃ j, j ∉ vs ∧ OwAt env σ j p := by
  obtain ⟨j, ⟨c, d, z1⟩, z2⟩ := h
  by_cases hj : j ∈ vs
  · have hl : j < env.length := by
      have := (List.getElem?_eq_some_iff.mp z1).1
      rw [wipeE_len] at this
      exact this
    rw [wipeE_in env hj hl] at z1
    cases z1
  · rw [wipeE_out env hj] at z1
    rw [wipe_out hj] at z2
    exact ⟨j, hj, ⟨c, d, z1⟩, z2⟩
theorem Rel.wipe (r : Rel K Γ env σ G H) (vs : List Nat) : Rel K Γ (wipeE env vs) (L2.wipe σ vs) G H := by
  refine ⟨by rw [wipeE_len, wipe_length]; exact r.len, r.sub, fun j s o e1 e2 => ?_, fun j k p h1 h2 => ?_⟩
  · by_cases hj : j ∈ vs
    · have hl : j < env.length := by
        have := (List.getElem?_eq_some_iff.mp e1).1
        rw [wipeE_len] at this
        exact this
      rw [wipeE_in env hj hl] at e1
      cases e1
      trivial
    · rw [wipeE_out env hj] at e1
      rw [wipe_out hj] at e2
      exact r.sl j s o e1 e2
  · have back : ∀ {j : Nat}, OwAt (wipeE env vs) (L2.wipe σ vs) j p → OwAt env σ j p := fun {j} z => by
      obtain ⟨⟨c, d, z1⟩, z2⟩ := z
      by_cases hj : j ∈ vs
      · have hl : j < env.length := by
          have := (List.getElem?_eq_some_iff.mp z1).1
          rw [wipeE_len] at this
          exact this
        rw [wipeE_in env hj hl] at z1
        cases z1
      · rw [wipeE_out env hj] at z1
        rw [wipe_out hj] at z2
        exact ⟨⟨c, d, z1⟩, z2⟩
    exact r.dj j k p (back h1) (back h2)
/-- a thing beside everything changes -/
theorem Rel.beside (r : Rel K Γ env σ G H) {p : Addr} {o : HO} (g : G p = none) (n : ¬ Ow env σ p) : Rel K Γ env σ G (upd H p o) := by
  refine ⟨r.len, fun b u e => ?_, fun j s v e1 e2 => ?_, r.dj⟩
  · have : b ≠ p := fun z => by subst z; rw [g] at e; cases e
    rw [upd_ne this]
    exact r.sub b u e
  · have h := r.sl j s v e1 e2
    cases s with
    | no => trivial
    | im d => cases v <;> exact h
    | mu c d =>
      cases v with
      | none => exact h
      | some v =>
        obtain ⟨q, rfl, h⟩ := h
        refine ⟨q, rfl, h.go (Same.refl _) h.out ?_⟩
        have : q ≠ p := fun z => by subst z; exact n ⟨j, ⟨_, _, e1⟩, e2⟩
        exact upd_ne this
end
def compF (tg : D → SEnv → Option SEnv) (c : SEnv → Out Bool) (fe : SEnv → Out D) (vs : List Nat) : List D → List D → SEnv → Out (List D)
  | [], acc, env => .ok acc env
  | d :: ds, acc, env => match tg d env with
    | none => .bad
    | some env1 => match c env1 with
      | .ok true env2 => (match fe env2 with
        | .ok y env3 => if acc.length < sizeLine then compF tg c fe vs ds (acc ++ [y]) (wipeE env3 vs) else .bad
        | _ => .bad)
      | .ok false env2 => compF tg c fe vs ds acc (wipeE env2 vs)
      | _ => .bad
def eLc (fi : SEnv → Out (List D)) (tg : D → SEnv → Option SEnv) (c : SEnv → Out Bool) (fe : SEnv → Out D) (vs : List Nat) : SEnv → Out Rv := eB fi fun ds env => if okW env vs = true then (match compF tg c fe vs ds [] (wipeE env vs) with
  | .ok acc env' => .ok (.f (.lst acc)) (resE env env' vs)
  | _ => .bad) else .bad
def eYes : SEnv → Out Bool := fun env => .ok true env
section
variable {Γ : Cls0} {W : WX} {fi : SEnv → Out (List D)} {tg : D → SEnv → Option SEnv} {c : SEnv → Out Bool} {fe : SEnv → Out D} {vs is : List Nat}
theorem lc_run {K : PySem.W.Frag} {σ : L2.St} {H : Hp} {Q : VK} (ho : TgOff is tg) (hs : ∀ i ∈ is, i ∈ vs) (z : tE K Γ W (eLc fi tg c fe vs) σ H Q) : tLc (tI K Γ W fi) (tTg K Γ is tg) (tT K Γ WF c) (tK K Γ WF fe) vs σ H Q := by
  obtain ⟨env0, G0, rel0, a⟩ := z
  refine tX.bind a (Post.refl rel0) fun ds env J G1 H1 e1 p1 w a1 => fun Dd nD => ?_
  by_cases hw : okW env vs = true
  · simp only [hw, if_true] at a1
    cases hO : compF tg c fe vs ds [] (wipeE env vs) with
    | bad => simp only [hO] at a1; exact absurd rfl a1.nb
    | ex _ _ _ => simp only [hO] at a1; exact absurd rfl a1.nb
    | ok accF envF =>
    simp only [hO] at a1
    have gD1 : G1 Dd = none := by
      cases q : G1 Dd with
      | none => rfl
      | some u => rw [p1.rel.sub _ _ q] at nD; cases nD
    have nOw : ¬ Ow (wipeE env vs) (wipe σ vs) Dd := fun q => by
      obtain ⟨j, _, q⟩ := ow_wipe q
      exact (p1.rel.ow ⟨j, q⟩).2 nD
    have relw := (p1.rel.wipe vs).beside (o := .lst []) gD1 nOw
    have iD : ∀ {A : Prop}, True := fun {A} => trivial
    refine ⟨fun i m H' => m = ds.length - i ∧ i ≤ ds.length ∧ ∃ env' G' acc xs, Rel K Γ env' (wipe σ vs) G' H' ∧ Ks (wipeE env vs) env' ∧ Fr (fun b => Ow (wipeE env vs) (wipe σ vs) b ∨ b = Dd) G1 (upd H1 Dd (.lst [])) G' H' ∧ G' Dd = none ∧ H' Dd = some (.lst xs) ∧ RpA K Γ G' xs acc ∧
      compF tg c fe vs (ds.drop i) acc env' = .ok accF envF, ⟨ds.length, by simp, Nat.zero_le _, wipeE env vs, G1, [], [], relw, Ks.refl _, Fr.refl, gD1, upd_same, .nil, by rw [List.drop_zero]; exact hO⟩, ?_⟩
    rintro i m H' ⟨rfl, hi, env', G', acc, xs, rel', ks', fr', gD', eD', ra', ec⟩
    have nOw' : ∀ {envx : SEnv} {σx : L2.St}, (∀ p, Ow envx σx p → Ow (wipeE env vs) (wipe σ vs) p) → ¬ Ow envx σx Dd := fun k z => nOw (k _ z)
    by_cases hlt : i < ds.length
    · refine .inr ⟨w.go i H' (fr'.g.trans rel'.sub) hlt, fun H2 => ∃ env' G' acc xs, Rel K Γ env' (wipe σ vs) G' H2 ∧ Ks (wipeE env vs) env' ∧ Fr (fun b => Ow (wipeE env vs) (wipe σ vs) b ∨ b = Dd) G1 (upd H1 Dd (.lst [])) G' H2 ∧ G' Dd = none ∧ H2 Dd = some (.lst xs) ∧ RpA K Γ G' xs acc ∧
        compF tg c fe vs (ds.drop (i + 1)) acc env' = .ok accF envF, fun H2 z => ⟨ds.length - (i + 1), by omega, rfl, hlt, z⟩, fun x H'' y => ?_⟩
      obtain ⟨G2, k, hx⟩ := w.yld i env' (wipe σ vs) G' H' x H'' rel' fr'.g y ds[i] (List.getElem?_eq_getElem hlt)
      rw [List.drop_eq_getElem_cons hlt] at ec
      unfold compF at ec
      cases et : tg ds[i] env' with
      | none => rw [et] at ec; cases ec
      | some env2 =>
      simp only [et] at ec
      have sub' : ∀ p, Ow env' (wipe σ vs) p → Ow (wipeE env vs) (wipe σ vs) p := fun p z => ks'.ow z
      -- D is not touched by a step
      have stepD : ∀ {envx : SEnv} {σx : L2.St} {Ga Ha Gb Hb : Hp}, (∀ p, Ow envx σx p → Ow (wipeE env vs) (wipe σ vs) p) → Fr (Ow envx σx) Ga Ha Gb Hb → Ga Dd = none → (∃ xs, Ha Dd = some (.lst xs)) → Gb Dd = none ∧ Hb Dd = Ha Dd := fun {envx σx Ga Ha Gb Hb} hsub f g h => by
        obtain ⟨zs, h⟩ := h
        have n := nOw' hsub
        refine ⟨?_, (f.h _ _ n h).trans h.symm⟩
        cases q : Gb Dd with
        | none => rfl
        | some u =>
          rcases f.n Dd (by rw [q]; exact fun z => nomatch z) with z | z | z
          · exact absurd g z
          · rw [h] at z; cases z
          · exact absurd z n
      obtain ⟨gD2, eD2⟩ := stepD sub' k.fr gD' ⟨xs, eD'⟩
      refine ⟨env', G2, ds[i], env2, k.rel, hx, et, fun σ2 q oq => ⟨wipe_off oq hs, ?_⟩⟩
      have sub2 : ∀ p, Ow env2 σ2 p → Ow (wipeE env vs) (wipe σ vs) p := fun p z => by
        rcases q.ow p z with z' | z'
        · exact sub' p z'
        · exact absurd z' (q.rel.ow z).2
      obtain ⟨lt2, of2⟩ := ho _ _ _ et
      cases ecnd : c env2 with
      | bad => simp only [ecnd] at ec; cases ec
      | ex _ _ _ => simp only [ecnd] at ec; cases ec
      | ok b env3 =>
      have frA : ∀ {envx : SEnv} {σx : L2.St} {Ga Ha Gb Hb : Hp}, (∀ p, Ow envx σx p → Ow (wipeE env vs) (wipe σ vs) p) → Fr (Ow envx σx) Ga Ha Gb Hb → Fr (fun b => Ow (wipeE env vs) (wipe σ vs) b ∨ b = Dd) G1 (upd H1 Dd (.lst [])) Ga Ha → Fr (fun b => Ow (wipeE env vs) (wipe σ vs) b ∨ b = Dd) G1 (upd H1 Dd (.lst [])) Gb Hb := fun hsub f g => g.trans f fun p z => .inl (.inl (hsub p z))
      have fr2 := frA sub' k.fr fr'
      refine ⟨env2, G2, q.rel, (by rw [ecnd]; exact fun z => (nomatch z)), fun b' env3' v G3 H3 e3 p3 rb => ?_, fun _ _ _ _ _ _ _ e3 _ _ => by rw [ecnd] at e3; cases e3⟩
      rw [ecnd] at e3
      cases e3
      obtain rfl : v = b := rb
      obtain ⟨gD3, eD3⟩ := stepD sub2 p3.fr gD2 ⟨xs, eD2.trans eD'⟩
      have fr3 := frA sub2 p3.fr fr2
      have sub3 : ∀ p, Ow env3 σ2 p → Ow (wipeE env vs) (wipe σ vs) p := fun p z => sub2 p (p3.ks.ow z)
      have ew : wipe σ2 vs = wipe σ vs := wipe_off oq hs
      -- the slots behind a turn
      have ksw : ∀ {envx : SEnv}, Ks env2 envx → Ks (wipeE env vs) (wipeE envx vs) := fun {envx} kx => by
        have hlen : envx.length = env.length := by rw [kx.len, lt2, ks'.len, wipeE_len]
        have ins : ∀ {j : Nat} {s : Sl}, j ∈ vs → (wipeE env vs)[j]? = some s → s = .no ∧ (wipeE envx vs)[j]? = some .no := fun {j s} hj e => by
          have hl : j < env.length := by
            have := (List.getElem?_eq_some_iff.mp e).1
            rw [wipeE_len] at this
            exact this
          rw [wipeE_in env hj hl] at e
          cases e
          exact ⟨rfl, wipeE_in envx hj (by rw [hlen]; exact hl)⟩
        have out : ∀ {j : Nat}, j ∉ vs → env2[j]? = env'[j]? := fun {j} hj => of2 j fun z => hj (hs j z)
        refine ⟨by rw [wipeE_len, wipeE_len, hlen], fun j d e => ?_, fun j b d e => ?_, fun j e => ?_⟩
        · by_cases hj : j ∈ vs
          · cases (ins hj e).1
          · rw [wipeE_out envx hj]
            exact kx.im j d (by rw [out hj]; exact ks'.im j d e)
        · by_cases hj : j ∈ vs
          · cases (ins hj e).1
          · rw [wipeE_out envx hj]
            obtain ⟨d', z | ⟨zb, z⟩⟩ := ks'.mu j b d e
            · exact kx.mu j b d' (by rw [out hj]; exact z)
            · exact ⟨d', .inr ⟨zb, kx.im j d' (by rw [out hj]; exact z)⟩⟩
        · by_cases hj : j ∈ vs
          · exact (ins hj e).2
          · rw [wipeE_out envx hj]
            exact kx.no j (by rw [out hj]; exact ks'.no j e)
      cases v with
      | false =>
        simp only [ecnd] at ec
        refine iteF ⟨wipeE env3 vs, G3, acc, xs, ?_, ksw p3.ks, fr3, gD3, eD3.trans (eD2.trans eD'), ra'.on (k.fr.g.trans p3.fr.g), ec⟩
        rw [← ew]
        exact p3.rel.wipe vs
      | true =>
        simp only [ecnd] at ec
        cases ef : fe env3 with
        | bad => simp only [ef] at ec; cases ec
        | ex _ _ _ => simp only [ef] at ec; cases ec
        | ok yv env4 =>
        simp only [ef] at ec
        by_cases hz : acc.length < sizeLine
        · simp only [hz, if_true] at ec
          refine iteT ⟨env3, G3, p3.rel, (by rw [ef]; exact fun z => (nomatch z)), fun y' env4' v G4 H4 e4 p4 hy => ?_, fun _ _ _ _ _ _ _ e3 _ _ => by rw [ef] at e3; cases e3⟩
          rw [ef] at e4
          cases e4
          obtain ⟨gD4, eD4⟩ := stepD sub3 p4.fr gD3 ⟨xs, eD3.trans (eD2.trans eD')⟩
          have fr4 := frA sub3 p4.fr fr3
          have ra4 := ra'.on ((k.fr.g.trans p3.fr.g).trans p4.fr.g)
          have eDD : H4 Dd = some (.lst xs) := eD4.trans (eD3.trans (eD2.trans eD'))
          have n4 : ¬ Ow (wipeE env4 vs) (wipe σ2 vs) Dd := nOw' fun p z => by
            obtain ⟨j, _, z⟩ := ow_wipe z
            exact sub3 p (p4.ks.ow ⟨j, z⟩)
          refine ⟨xs, eDD, by rw [ra4.len]; exact hz, wipeE env4 vs, G4, acc ++ [yv], xs ++ [v], ?_, ksw (p3.ks.trans p4.ks), ?_, gD4, upd_same, ra4.append (.cons hy .nil), ec⟩
          · rw [← ew]
            exact (p4.rel.wipe vs).beside gD4 n4
          · refine fr4.trans (A1 := fun b => b = Dd) ⟨Same.refl _, fun b o n e => ?_, fun b z => .inl z, fun b z => ?_⟩ fun p z => .inl (.inr z)
            · rw [upd_ne n]; exact e
            · by_cases q' : b = Dd
              · subst q'; rw [upd_same]; exact fun z => nomatch z
              · rw [upd_ne q']; exact z
        · simp only [hz, if_false] at ec; cases ec
    · have e : i = ds.length := by omega
      subst e
      rw [List.drop_length] at ec
      unfold compF at ec
      cases ec
      refine .inl ⟨w.stop _ H' (fr'.g.trans rel'.sub) (Nat.le_refl _), ?_⟩
      have hlenF : envF.length = env.length := by rw [ks'.len, wipeE_len]
      have okv : ∀ v ∈ vs, ∀ s, env[v]? = some s → s = .no ∨ ∃ d, s = .im d := fun v hv s e => by
        have := List.all_eq_true.mp hw v hv
        simp only [e] at this
        cases s with
        | no => exact .inl rfl
        | im d => exact .inr ⟨d, rfl⟩
        | mu b d => cases this
      have inv : ∀ {j : Nat} {s : Sl}, j ∈ vs → (resE env envF vs)[j]? = some s → env[j]? = some s := fun {j s} hj e => by
        have hl : j < envF.length := by
          have := (List.getElem?_eq_some_iff.mp e).1
          rw [resE_len] at this
          exact this
        rw [resE_in env envF hj hl] at e
        cases e
        rw [List.getElem?_eq_getElem (by omega), List.getD_eq_getElem?_getD, List.getElem?_eq_getElem (by omega)]
        rfl
      have inv2 : ∀ {j : Nat} {s : Sl}, j ∈ vs → env[j]? = some s → (resE env envF vs)[j]? = some s := fun {j s} hj e => by
        have hl := (List.getElem?_eq_some_iff.mp e).1
        rw [resE_in env envF hj (by omega), List.getD_eq_getElem?_getD, e]
        rfl
      have frF : Fr (Ow env σ) G1 H1 G' H' := by
        refine ⟨fr'.g, fun b o n e => fr'.h b o (fun z => ?_) (by rw [upd_ne (ne_of_none e nD)]; exact e), fun b z => ?_, fun b z => fr'.d b ?_⟩
        · rcases z with z | z
          · obtain ⟨j, _, z⟩ := ow_wipe z
            exact n ⟨j, z⟩
          · subst z; rw [nD] at e; cases e
        · rcases fr'.n b z with z' | z' | z'
          · exact .inl z'
          · by_cases q : b = Dd
            · subst q; exact absurd gD' z
            · rw [upd_ne q] at z'; exact .inr (.inl z')
          · rcases z' with z' | z'
            · obtain ⟨j, _, z'⟩ := ow_wipe z'
              exact .inr (.inr ⟨j, z'⟩)
            · subst z'; exact absurd gD' z
        · by_cases q : b = Dd
          · subst q; exact absurd nD z
          · rw [upd_ne q]; exact z
      have backF : ∀ {j : Nat} {p : Addr}, OwAt (resE env envF vs) σ j p → j ∉ vs ∧ OwAt envF (wipe σ vs) j p := fun {j p} z => by
        obtain ⟨⟨b, d, z1⟩, z2⟩ := z
        by_cases hj : j ∈ vs
        · rcases okv j hj _ (inv hj z1) with q | ⟨d', q⟩ <;> cases q
        · rw [resE_out env envF hj] at z1
          exact ⟨hj, ⟨b, d, z1⟩, by rw [wipe_out hj]; exact z2⟩
      have relF : Rel K Γ (resE env envF vs) σ G' H' := by
        refine ⟨by rw [resE_len, hlenF]; exact p1.rel.len, rel'.sub, fun j s o e1 e2 => ?_, fun j k p h1 h2 => rel'.dj j k p (backF h1).2 (backF h2).2⟩
        by_cases hj : j ∈ vs
        · have e0 := inv hj e1
          have h := p1.rel.sl j s o e0 e2
          rcases okv j hj s e0 with rfl | ⟨d, rfl⟩
          · trivial
          · cases o with
            | none => exact h
            | some v => exact Rp.on fr'.g h
        · rw [resE_out env envF hj] at e1
          exact rel'.sl j s o e1 (by rw [wipe_out hj]; exact e2)
      have ksF : Ks env (resE env envF vs) := by
        refine ⟨by rw [resE_len, hlenF], fun j d e => ?_, fun j b d e => ?_, fun j e => ?_⟩
        · by_cases hj : j ∈ vs
          · exact inv2 hj e
          · rw [resE_out env envF hj]; exact ks'.im j d (by rw [wipeE_out env hj]; exact e)
        · by_cases hj : j ∈ vs
          · rcases okv j hj _ e with q | ⟨d', q⟩ <;> cases q
          · rw [resE_out env envF hj]; exact ks'.mu j b d (by rw [wipeE_out env hj]; exact e)
        · by_cases hj : j ∈ vs
          · exact inv2 hj e
          · rw [resE_out env envF hj]; exact ks'.no j (by rw [wipeE_out env hj]; exact e)
      refine a1.run (.f (.lst _)) (.ref Dd) _ G' H' rfl (p1.trans ⟨relF, ksF, frF⟩) ⟨Dd, rfl, Own.lst gD' eD' ra', fun z => ?_, p1.dom nD⟩
      obtain ⟨j, z⟩ := z
      exact nOw (ks'.ow ⟨j, (backF z).2⟩)
  · simp only [hw, if_false, Bool.false_eq_true] at a1; exact absurd rfl a1.nb
end
section
variable {X : Cx} {Γ : Cls0} {W : WX} {pos : Pos} {elt tgt iter : Expr} {ifs : List Expr} {scope : Scope} {own : List (Str × Nat)} {fi : SEnv → Out (List D)} {tg : D → SEnv → Option SEnv} {c : SEnv → Out Bool} {fe : SEnv → Out Rv} {is : List Nat}
theorem ptsI {X : Cx} {e : List Expr} {t t' : TT} (h : PTs X e t) (k : ∀ σ H Q, t' σ H Q → t σ H Q) : PTs X e t' := ⟨fun pins s σ H Q I z => h.run pins s σ H Q I (k σ H Q z)⟩
theorem sTs_nil : PTs X [] (tT X.K Γ W eYes) := ptsI pts_nil fun σ H Q ⟨env, G, rel, a⟩ => a.run true true env G H rfl (Post.refl rel) rfl
theorem sTs_one {b : Expr} (h : PT X b (tT X.K Γ W c)) : PTs X [b] (tT X.K Γ W c) := pts_one h
theorem sE_lc (hc : X.calm = true) (hN : X.N.Nodup) (hi : PI X tgt iter (tI X.K Γ W fi)) (ok : BlkOk X.N X.env.scope scope own) (ho : TgOff is tg) (hs : ∀ i ∈ is, i ∈ own.map (·.2))
    (hg : ∀ (s : Shared) (H : Hp) (C : Addr) (cl : List (Str × Addr)) (fp : List Addr), PG (X.blk s H scope (compEnvC scope cl C X.env) fp) tgt (tTg X.K Γ is tg)) (ht : ∀ (s : Shared) (H : Hp) (C : Addr) (cl : List (Str × Addr)) (fp : List Addr), PTs (X.blk s H scope (compEnvC scope cl C X.env) fp) ifs (tT X.K Γ WF c))
    (he : ∀ (s : Shared) (H : Hp) (C : Addr) (cl : List (Str × Addr)) (fp : List Addr), PE (X.blk s H scope (compEnvC scope cl C X.env) fp) elt (tE X.K Γ WF fe)) (hf : ∀ x, foldedSetIterable iter X.env x = pure x := by intro _; rfl) :
    PE X (.ListComp elt [⟨tgt, iter, ifs, 0⟩] scope pos) (tE X.K Γ W (eLc fi tg c (eK fe) (own.map (·.2)))) :=
  peI (pe_lc hc hN hi ok hg ht (fun s H C cl fp => sK (he s H C cl fp)) hf) fun σ H Q z => lc_run ho hs z
theorem sS_setLc {i : Nat} {y : Str} {py spos : Pos} (hc : X.calm = true) (hN : X.N.Nodup) (hy : X.N[i]? = some y) (hyl : X.env.scope.names.lookup y = some .local)
    (hsw : swapsWith (.ListComp elt [⟨tgt, iter, ifs, 0⟩] scope pos) (some (.Name y py)) spos.line X.env = pure true) (hi : PI X tgt iter (tI X.K Γ W fi)) (ok : BlkOk X.N X.env.scope scope own) (ho : TgOff is tg) (hs : ∀ i ∈ is, i ∈ own.map (·.2))
    (hg : ∀ (s : Shared) (H : Hp) (C : Addr) (cl : List (Str × Addr)) (fp : List Addr), PG (X.blk s H scope (compEnvC scope cl C X.env) fp) tgt (tTg X.K Γ is tg)) (ht : ∀ (s : Shared) (H : Hp) (C : Addr) (cl : List (Str × Addr)) (fp : List Addr), PTs (X.blk s H scope (compEnvC scope cl C X.env) fp) ifs (tT X.K Γ WF c))
    (he : ∀ (s : Shared) (H : Hp) (C : Addr) (cl : List (Str × Addr)) (fp : List Addr), PE (X.blk s H scope (compEnvC scope cl C X.env) fp) elt (tE X.K Γ WF fe)) (hf : ∀ x, foldedSetIterable iter X.env x = pure x := by intro _; rfl) :
    PS X (.Assign [.Name y py] (.ListComp elt [⟨tgt, iter, ifs, 0⟩] scope pos) spos) (tS X.K Γ W (sSetM i (eLc fi tg c (eK fe) (own.map (·.2))))) :=
  psI (ps_setLc hc hN hy hyl hsw hi ok hg ht (fun s H C cl fp => sK (he s H C cl fp)) hf) fun E σ H z => by
  have k := setM_run z
  exact lc_run ho hs k
theorem setI_run {K : PySem.W.Frag} {E : Ends} {σ : L2.St} {H : Hp} {i : Nat} {f : SEnv → Out Rv} (z : tS K Γ W (sAsg f (tgN i)) E σ H) : tAsg (tE K Γ W f) (gName i) E σ H := by
  obtain ⟨env, G, rel, a⟩ := z
  have a' := a
  refine ⟨env, G, rel, fun z => ?_, fun r env1 v G1 H1 e1 p1 rr => ?_, fun c d env1 cls dx G1 H1 e p1 x => ?_⟩
  · simp only [sAsg, sB, eK, eB, z] at a'; exact a'.nb rfl
  · simp only [sAsg, sB, eK, eB, e1] at a'
    cases q : fz env1 r with
    | none => simp only [q] at a'; exact absurd rfl a'.nb
    | some w =>
      obtain ⟨d, env2⟩ := w
      simp only [q] at a'
      obtain ⟨G', p', hd⟩ := RvR.fz rr p1 q
      unfold tgN at a'
      by_cases hf : free env2 i = true
      · simp only [hf, if_true] at a'
        exact a'.nx _ _ G' H1 rfl (p'.s.trans (p'.rel.setI hf hd))
      · simp only [hf, if_false, Bool.false_eq_true] at a'; exact absurd rfl a'.nb
  · simp only [sAsg, sB, eK, eB, e] at a'; exact a'.ex c d env1 cls dx σ G1 H1 rfl p1.s x
theorem sS_setLcI {i : Nat} {y : Str} {py spos : Pos} (hc : X.calm = true) (hN : X.N.Nodup) (hy : X.N[i]? = some y) (hyl : X.env.scope.names.lookup y = some .local)
    (hsw : swapsWith (.ListComp elt [⟨tgt, iter, ifs, 0⟩] scope pos) (some (.Name y py)) spos.line X.env = pure true) (hi : PI X tgt iter (tI X.K Γ W fi)) (ok : BlkOk X.N X.env.scope scope own) (ho : TgOff is tg) (hs : ∀ i ∈ is, i ∈ own.map (·.2))
    (hg : ∀ (s : Shared) (H : Hp) (C : Addr) (cl : List (Str × Addr)) (fp : List Addr), PG (X.blk s H scope (compEnvC scope cl C X.env) fp) tgt (tTg X.K Γ is tg)) (ht : ∀ (s : Shared) (H : Hp) (C : Addr) (cl : List (Str × Addr)) (fp : List Addr), PTs (X.blk s H scope (compEnvC scope cl C X.env) fp) ifs (tT X.K Γ WF c))
    (he : ∀ (s : Shared) (H : Hp) (C : Addr) (cl : List (Str × Addr)) (fp : List Addr), PE (X.blk s H scope (compEnvC scope cl C X.env) fp) elt (tE X.K Γ WF fe)) (hf : ∀ x, foldedSetIterable iter X.env x = pure x := by intro _; rfl) :
    PS X (.Assign [.Name y py] (.ListComp elt [⟨tgt, iter, ifs, 0⟩] scope pos) spos) (tS X.K Γ W (sAsg (eLc fi tg c (eK fe) (own.map (·.2))) (tgN i))) :=
  psI (ps_setLc hc hN hy hyl hsw hi ok hg ht (fun s H C cl fp => sK (he s H C cl fp)) hf) fun E σ H z => by
  have k := setI_run z
  exact lc_run ho hs k
end
end EV
set_option Elab.async false
set_option linter.all false
set_option maxRecDepth 100000
set_option maxHeartbeats 4000000
/-! What a def promises: a function on data. Calls. -/
namespace EV
open PySem PySem.Spec PyProof.Rows L2 PySem.NearX
/-- the slots of the arguments: what is handed to be changed, and what is not -/
def mkE : List Bool → List D → SEnv
  | true :: ms, d :: ds => .mu true d :: mkE ms ds
  | false :: ms, d :: ds => .im d :: mkE ms ds
  | _, _ => []
/-- the arguments' slots behind the body -/
def back : List Bool → List D → SEnv → SEnv
  | true :: ms, _ :: ds, s :: e => s :: back ms ds e
  | false :: ms, d :: ds, _ :: e => .im d :: back ms ds e
  | _, _, _ => []
/-- what a def does -/
def gOf (fb : SEnv → SO) (ms : List Bool) (n : Nat) (ds : List D) : Out D := match fb (mkE ms ds ++ List.replicate (n - ms.length) .no) with
  | .nx e => .ok .non (back ms ds e)
  | .rt d e => .ok d (back ms ds e)
  | .ex c d e => .ex c d (back ms ds e)
  | _ => .bad
/-- a def's promise: it does what g says -/
def spF (K : PySem.W.Frag) (Γ : Cls0) (ms : List Bool) (g : List D → Out D) : Sp := fun vs H Q E => ∃ ds G, ds.length = ms.length ∧ vs.length = ms.length ∧ Rel K Γ (mkE ms ds) (vs.map some) G H ∧
  At K Γ (fun cls dx _ H => E cls dx H) (vs.map some) (mkE ms ds) G H (RK K Γ) (g ds) Q
theorem mkE_len : ∀ {ms : List Bool} {ds : List D}, ds.length = ms.length → (mkE ms ds).length = ms.length
  | [], [], _ => rfl
  | true :: ms, d :: ds, h => by simp [mkE, mkE_len (ms := ms) (ds := ds) (by simpa using h)]
  | false :: ms, d :: ds, h => by simp [mkE, mkE_len (ms := ms) (ds := ds) (by simpa using h)]
  | [], _ :: _, h => by cases h
  | _ :: _, [], h => by cases h
theorem mkE_get : ∀ {ms : List Bool} {ds : List D} {i : Nat} {s : Sl}, (mkE ms ds)[i]? = some s → ∃ d, ds[i]? = some d ∧ ((ms[i]? = some true ∧ s = .mu true d) ∨ (ms[i]? = some false ∧ s = .im d))
  | [], ds, i, s, h => by simp [mkE] at h
  | m :: ms, [], i, s, h => by cases m <;> simp [mkE] at h
  | true :: ms, d :: ds, 0, s, h => by simp [mkE] at h; exact ⟨d, rfl, .inl ⟨rfl, h.symm⟩⟩
  | false :: ms, d :: ds, 0, s, h => by simp [mkE] at h; exact ⟨d, rfl, .inr ⟨rfl, h.symm⟩⟩
  | true :: ms, d :: ds, i + 1, s, h => by
    obtain ⟨d', e, k⟩ := mkE_get (ms := ms) (ds := ds) (i := i) (s := s) (by simpa [mkE] using h)
    exact ⟨d', by simpa using e, by simpa using k⟩
  | false :: ms, d :: ds, i + 1, s, h => by
    obtain ⟨d', e, k⟩ := mkE_get (ms := ms) (ds := ds) (i := i) (s := s) (by simpa [mkE] using h)
    exact ⟨d', by simpa using e, by simpa using k⟩
theorem back_len : ∀ {ms : List Bool} {ds : List D} {e : SEnv}, ds.length = ms.length → ms.length ≤ e.length → (back ms ds e).length = ms.length
  | [], [], e, _, _ => by cases e <;> rfl
  | true :: ms, d :: ds, s :: e, h, k => by simp [back, back_len (ms := ms) (ds := ds) (e := e) (by simpa using h) (by simpa using k)]
  | false :: ms, d :: ds, s :: e, h, k => by simp [back, back_len (ms := ms) (ds := ds) (e := e) (by simpa using h) (by simpa using k)]
  | [], _ :: _, _, h, _ => by cases h
  | _ :: _, [], _, h, _ => by cases h
  | _ :: _, _ :: _, [], _, k => by cases k
theorem back_get : ∀ {ms : List Bool} {ds : List D} {e : SEnv} {i : Nat} {s : Sl}, (back ms ds e)[i]? = some s → (ms[i]? = some true ∧ e[i]? = some s) ∨ (ms[i]? = some false ∧ ∃ d, ds[i]? = some d ∧ s = .im d)
  | [], ds, e, i, s, h => by cases ds <;> cases e <;> simp [back] at h
  | m :: ms, [], e, i, s, h => by cases m <;> simp [back] at h
  | m :: ms, d :: ds, [], i, s, h => by cases m <;> simp [back] at h
  | true :: ms, d :: ds, t :: e, 0, s, h => by simp [back] at h; exact .inl ⟨rfl, by simp [h]⟩
  | false :: ms, d :: ds, t :: e, 0, s, h => by simp [back] at h; exact .inr ⟨rfl, d, rfl, h.symm⟩
  | true :: ms, d :: ds, t :: e, i + 1, s, h => by
    have := back_get (ms := ms) (ds := ds) (e := e) (i := i) (s := s) (by simpa [back] using h)
    simpa using this
  | false :: ms, d :: ds, t :: e, i + 1, s, h => by
    have := back_get (ms := ms) (ds := ds) (e := e) (i := i) (s := s) (by simpa [back] using h)
    simpa using this
theorem back_of : ∀ {ms : List Bool} {ds : List D} {e : SEnv} {i : Nat}, ds.length = ms.length → ms.length ≤ e.length → (ms[i]? = some true → (back ms ds e)[i]? = e[i]?) ∧ (∀ d, ms[i]? = some false → ds[i]? = some d → (back ms ds e)[i]? = some (.im d))
  | [], [], e, i, _, _ => ⟨fun h => by simp at h, fun d h => by simp at h⟩
  | true :: ms, d :: ds, t :: e, 0, _, _ => ⟨fun _ => by simp [back], fun d h => by simp at h⟩
  | false :: ms, d :: ds, t :: e, 0, _, _ => ⟨fun h => by simp at h, fun d _ h => by simp at h; simp [back, h]⟩
  | true :: ms, d :: ds, t :: e, i + 1, h, k => by simpa [back] using back_of (ms := ms) (ds := ds) (e := e) (i := i) (by simpa using h) (by simpa using k)
  | false :: ms, d :: ds, t :: e, i + 1, h, k => by simpa [back] using back_of (ms := ms) (ds := ds) (e := e) (i := i) (by simpa using h) (by simpa using k)
  | [], _ :: _, _, _, h, _ => by cases h
  | _ :: _, [], _, _, h, _ => by cases h
  | _ :: _, _ :: _, [], _, _, k => by cases k
section
variable {K : PySem.W.Frag} {Γ : Cls0} {ms : List Bool} {ds : List D} {vs : List V} {G H G' H' : Hp} {n : Nat} {N : List Str}
abbrev st0 (ms : List Bool) (ds : List D) (n : Nat) : SEnv := mkE ms ds ++ List.replicate (n - ms.length) .no
theorem st0_get {i : Nat} {s : Sl} (hl : ds.length = ms.length) (h : (st0 ms ds n)[i]? = some s) : (mkE ms ds)[i]? = some s ∨ s = .no := by
  by_cases hi : i < (mkE ms ds).length
  · rw [List.getElem?_append_left hi] at h
    exact .inl h
  · rw [List.getElem?_append_right (by omega)] at h
    obtain ⟨h1, h2⟩ := List.getElem?_eq_some_iff.mp h
    rw [List.getElem_replicate] at h2
    exact .inr h2.symm
theorem start_get {i : Nat} (hi : i < vs.length) : (L2.start N vs)[i]? = (vs.map some)[i]? := by
  unfold L2.start
  rw [List.getElem?_append_left (by rw [List.length_map]; exact hi)]
theorem start_len (h : vs.length ≤ N.length) : (L2.start N vs).length = N.length := by
  unfold L2.start
  rw [List.length_append, List.length_map, List.length_replicate]
  omega
theorem ow_st0 (hl : ds.length = ms.length) (hv : vs.length = ms.length) {p : Addr} (h : Ow (st0 ms ds N.length) (L2.start N vs) p) : Ow (mkE ms ds) (vs.map some) p := by
  obtain ⟨i, ⟨b, d, e1⟩, e2⟩ := h
  rcases st0_get hl e1 with e1 | e1
  · have hi : i < vs.length := by
      have := (List.getElem?_eq_some_iff.mp e1).1
      rw [mkE_len hl] at this
      omega
    rw [start_get hi] at e2
    exact ⟨i, ⟨b, d, e1⟩, e2⟩
  · cases e1
/-- the slots at the start of the body -/
theorem Rel.st0 (r : Rel K Γ (mkE ms ds) (vs.map some) G H) (hl : ds.length = ms.length) (hv : vs.length = ms.length) (hn : ms.length ≤ N.length) : Rel K Γ (st0 ms ds N.length) (L2.start N vs) G H := by
  refine ⟨?_, r.sub, fun i s o e1 e2 => ?_, fun i j p h1 h2 => ?_⟩
  · rw [start_len (by omega), List.length_append, mkE_len hl, List.length_replicate]
    omega
  · rcases st0_get hl e1 with e1 | e1
    · have hi : i < vs.length := by
        have := (List.getElem?_eq_some_iff.mp e1).1
        rw [mkE_len hl] at this
        omega
      rw [start_get hi] at e2
      exact r.sl i s o e1 e2
    · subst e1; trivial
  · have bk : ∀ {i : Nat}, OwAt (EV.st0 ms ds N.length) (L2.start N vs) i p → OwAt (mkE ms ds) (vs.map some) i p := fun {i} z => by
      obtain ⟨⟨b, d, e1⟩, e2⟩ := z
      rcases st0_get hl e1 with e1 | e1
      · have hi : i < vs.length := by
          have := (List.getElem?_eq_some_iff.mp e1).1
          rw [mkE_len hl] at this
          omega
        rw [start_get hi] at e2
        exact ⟨⟨b, d, e1⟩, e2⟩
      · cases e1
    exact r.dj i j p (bk h1) (bk h2)
/-- behind the body, seen from the caller -/
theorem PostS.toPost {e : SEnv} {σ' : L2.St} (r : Rel K Γ (mkE ms ds) (vs.map some) G H) (hl : ds.length = ms.length) (hv : vs.length = ms.length) (hn : ms.length ≤ N.length) (p : PostS K Γ (EV.st0 ms ds N.length) (L2.start N vs) G H e σ' G' H') :
    Post K Γ (mkE ms ds) (vs.map some) G H (back ms ds e) G' H' := by
  have hle : ms.length ≤ e.length := by
    rw [p.len, List.length_append, mkE_len hl]
    omega
  have hvn : vs.length ≤ N.length := by omega
  have at0 : ∀ {i : Nat} {s : Sl}, (mkE ms ds)[i]? = some s → (EV.st0 ms ds N.length)[i]? = some s ∧ i < vs.length := fun {i s} h => by
    have hi := (List.getElem?_eq_some_iff.mp h).1
    refine ⟨by rw [List.getElem?_append_left hi]; exact h, ?_⟩
    rw [mkE_len hl] at hi
    omega
  -- an owned slot behind the body
  have own : ∀ {i : Nat} {s : Sl}, ms[i]? = some true → e[i]? = some s → (∃ d', s = .mu true d') ∧ σ'[i]? = (vs.map some)[i]? := fun {i s} hm h => by
    have hi : i < ms.length := (List.getElem?_eq_some_iff.mp hm).1
    have hs : (mkE ms ds)[i]? = some ((mkE ms ds)[i]'(by rw [mkE_len hl]; exact hi)) := List.getElem?_eq_getElem _
    obtain ⟨d, ed, k | k⟩ := mkE_get hs
    · rw [k.2] at hs
      obtain ⟨z1, d', z2⟩ := p.io i d (at0 hs).1
      rw [h] at z2
      cases z2
      exact ⟨⟨d', rfl⟩, by rw [z1, start_get (at0 hs).2]⟩
    · rw [hm] at k
      cases k.1
  have hds : ∀ {i : Nat}, i < ms.length → ∃ d, ds[i]? = some d := fun {i} h => ⟨ds[i], List.getElem?_eq_getElem (by omega)⟩
  refine ⟨⟨?_, p.rel.sub, fun i s o e1 e2 => ?_, fun i j a h1 h2 => ?_⟩, ⟨?_, fun i d h => ?_, fun i b d h => ?_, fun i h => ?_⟩, ?_⟩
  · rw [back_len hl hle, List.length_map]
    exact hv.symm
  · rcases back_get e1 with ⟨hm, h⟩ | ⟨hm, d, hd, rfl⟩
    · obtain ⟨⟨d', rfl⟩, hσ⟩ := own hm h
      exact p.rel.sl i _ o h (by rw [hσ]; exact e2)
    · have hi : i < ms.length := (List.getElem?_eq_some_iff.mp hm).1
      have hs : (mkE ms ds)[i]? = some ((mkE ms ds)[i]'(by rw [mkE_len hl]; exact hi)) := List.getElem?_eq_getElem _
      obtain ⟨d2, ed, k | k⟩ := mkE_get hs
      · rw [hm] at k; cases k.1
      · rw [k.2] at hs
        rw [hd] at ed
        cases ed
        have := r.sl i _ o hs e2
        cases o with
        | none => exact this
        | some v => exact Rp.on p.fr.g this
  · have bk : ∀ {i : Nat}, OwAt (back ms ds e) (vs.map some) i a → OwAt e σ' i a := fun {i} z => by
      obtain ⟨⟨b, d, z1⟩, z2⟩ := z
      rcases back_get z1 with ⟨hm, h⟩ | ⟨_, _, _, q⟩
      · obtain ⟨_, hσ⟩ := own hm h
        exact ⟨⟨b, d, h⟩, by rw [hσ]; exact z2⟩
      · cases q
    exact p.rel.dj i j a (bk h1) (bk h2)
  · rw [back_len hl hle, mkE_len hl]
  · obtain ⟨d2, ed, k | k⟩ := mkE_get h
    · cases k.2
    · cases k.2
      exact (back_of hl hle).2 d k.1 ed
  · obtain ⟨d2, ed, k | k⟩ := mkE_get h
    · cases k.2
      obtain ⟨z1, d', z2⟩ := p.io i d (at0 h).1
      exact ⟨d', .inl (by rw [(back_of hl hle).1 k.1]; exact z2)⟩
    · cases k.2
  · obtain ⟨d2, ed, k | k⟩ := mkE_get h
    · cases k.2
    · cases k.2
  · exact ⟨p.fr.g, fun b o n => p.fr.h b o fun z => n (ow_st0 hl hv z), fun b z => (p.fr.n b z).imp id fun z => z.imp id fun z => ow_st0 hl hv z, p.fr.d⟩
/-- the body's reading is what the promise asks -/
theorem body_ok {fb : SEnv → SO} {Q : VK} {E : XK} (hn : ms.length ≤ N.length) (h : spF K Γ ms (gOf fb ms N.length) vs H Q E) :
    tS K Γ (fun cls dx _ H => E cls dx H) fb { nx := fun _ H' => Q .non H', rt := Q } (L2.start N vs) H := by
  obtain ⟨ds, G, hl, hv, r, a⟩ := h
  unfold gOf at a
  have r0 := r.st0 (N := N) hl hv hn
  refine ⟨_, G, r0, fun z => ?_, fun e σ' G' H' z p => ?_, fun d e v σ' G' H' z p hd => ?_, fun e σ' G' H' z p => ?_, fun e σ' G' H' z p => ?_, fun c d e cls dx σ' G' H' z p x => ?_⟩
  · rw [z] at a; exact a.nb rfl
  · rw [z] at a; exact a.ok .non _ .non G' H' rfl (p.toPost r hl hv hn) .non
  · rw [z] at a; exact a.ok d _ v G' H' rfl (p.toPost r hl hv hn) hd
  · rw [z] at a; exact absurd rfl a.nb
  · rw [z] at a; exact absurd rfl a.nb
  · rw [z] at a; exact a.ex c d _ cls dx G' H' rfl (p.toPost r hl hv hn) x
end
/-! ### a def keeps its promise -/
section
variable {P : Program} {w : World} {K : PySem.W.Frag} {Γ : Cls0} {mg : Str → Option Value} {base : Heap} {k : Nat} {f : Addr} {fd : FuncData} {ps N : List Str} {x qual : Str} {st : Stmt} {ms : List Bool} {fb : SEnv → SO}
abbrev WB (E : XK) : WX := fun cls dx _ H => E cls dx H
theorem okF (F : Fun K x qual st f fd) (S : FnScope N ps (defScope st)) (hm : ms.length = ps.length) (hn : ms.length ≤ N.length)
    (hbody : ∀ (cdv : Value) (A : Around) (outer : List Env) (s : Shared) (H : Hp) (E : XK), Room k (A.deeper (envOfC qual (defScope st) s.heap.objs.size f cdv)) →
      PSs (cxOf (L2.CX P w) P w K mg base N qual (defScope st) f cdv A outer s H E) (defBody st) (tS K Γ (WB E) fb)) :
    FnOk P w K mg base (L2.CX P w) (k + 1) f fd ps (spF K Γ ms (gOf fb ms N.length)) := by
  refine F.okX S (fun vs H Q E ⟨ds, G, hl, hv, _⟩ => hv.trans hm) fun cdv A outer s H vs Q E hr h => ⟨_, hbody cdv A outer s H E hr, body_ok hn h⟩
theorem okG (F : Fun K x qual st f fd) (S : FnScope N ps (defScope st)) (hm : ms.length = ps.length) (hn : ms.length ≤ N.length)
    (hbody : ∀ (cdv : Value) (A : Around) (outer : List Env) (s : Shared) (H : Hp) (E : XK), A.guards = some [] → Room k (A.deeper (envOfC qual (defScope st) s.heap.objs.size f cdv)) →
      PSs (cxOf (L2.CX P w) P w K mg base N qual (defScope st) f cdv A outer s H E) (defBody st) (tS K Γ (WB E) fb)) :
    FnG P w K mg base (L2.CX P w) (k + 1) f fd ps (spF K Γ ms (gOf fb ms N.length)) := by
  refine F.okGX S (fun vs H Q E ⟨ds, G, hl, hv, _⟩ => hv.trans hm) fun cdv A outer s H vs Q E hg hr h => ⟨_, hbody cdv A outer s H E hg hr, body_ok hn h⟩
end
end EV
set_option Elab.async false
set_option linter.all false
set_option maxRecDepth 100000
set_option maxHeartbeats 4000000
/-! Calls of own defs. -/
namespace EV
open PySem PySem.Spec PyProof.Rows L2 PySem.NearX
abbrev RvA (K : PySem.W.Frag) (Γ : Cls0) (env : SEnv) (σ : L2.St) (H0 G H : Hp) : List V → List Rv → Prop := Paired fun v r => RvR K Γ env σ H0 G H v r
abbrev RAr (K : PySem.W.Frag) (Γ : Cls0) : RR (List Rv) (List V) := fun env σ H0 G H vs rs => RvA K Γ env σ H0 G H vs rs
abbrev tAr (K : PySem.W.Frag) (Γ : Cls0) (W : WX) (f : SEnv → Out (List Rv)) : TA := tX K Γ W (RAr K Γ) f
def eANil : SEnv → Out (List Rv) := fun env => .ok [] env
def eAK (f : SEnv → Out Rv) (g : SEnv → Out (List Rv)) : SEnv → Out (List Rv) := eB (eK f) fun d => eB g fun rs env => .ok (.v d :: rs) env
def eAP (f : SEnv → Out Rv) (g : SEnv → Out (List Rv)) : SEnv → Out (List Rv) := eB f fun r => eB g fun rs env => match r with
  | .p i => .ok (.p i :: rs) env
  | _ => .bad
def ctsOf (env : SEnv) : List Bool → List Rv → Option (List D)
  | [], [] => some []
  | false :: ms, .v d :: rs => (ctsOf env ms rs).map (d :: ·)
  | true :: ms, .p i :: rs => match env[i]? with
    | some (.mu _ d) => (ctsOf env ms rs).map (d :: ·)
    | _ => none
  | _, _ => none
def ptrs : List Rv → List Nat
  | [] => []
  | .p i :: rs => i :: ptrs rs
  | _ :: rs => ptrs rs
def setMu (env : SEnv) (i : Nat) (d : D) : SEnv := match env[i]? with
  | some (.mu b _) => env.set i (.mu b d)
  | _ => env
def wb1 (r : Rv) (s : Sl) (env : SEnv) : SEnv := match r, s with
  | .p i, .mu _ d => setMu env i d
  | _, _ => env
def wbk : List Rv → SEnv → SEnv → SEnv
  | r :: rs, s :: ea, env => wbk rs ea (wb1 r s env)
  | _, _, env => env
def callF (g : List D → Out D) (ms : List Bool) (rs : List Rv) (env : SEnv) : Out Rv := match ctsOf env ms rs with
  | none => .bad
  | some ds => if (ptrs rs).Nodup then (match g ds with
    | .ok r ea => .ok (.v r) (wbk rs ea env)
    | .ex c d ea => .ex c d (wbk rs ea env)
    | .bad => .bad) else .bad
def eCall (g : List D → Out D) (ms : List Bool) (fa : SEnv → Out (List Rv)) : SEnv → Out Rv := eB fa fun rs env => callF g ms rs env
theorem setMu_len (env : SEnv) (i : Nat) (d : D) : (setMu env i d).length = env.length := by
  unfold setMu
  split
  · exact List.length_set
  · rfl
theorem setMu_ne {env : SEnv} {i k : Nat} {d : D} (h : i ≠ k) : (setMu env i d)[k]? = env[k]? := by
  unfold setMu
  split
  · exact List.getElem?_set_ne h
  · rfl
theorem setMu_at {env : SEnv} {i : Nat} {b : Bool} {d d0 : D} (h : env[i]? = some (.mu b d0)) : (setMu env i d)[i]? = some (.mu b d) := by
  unfold setMu
  rw [h]
  exact List.getElem?_set_self (List.getElem?_eq_some_iff.mp h).1
theorem wb1_len (r : Rv) (s : Sl) (env : SEnv) : (wb1 r s env).length = env.length := by cases r <;> cases s <;> simp [wb1, setMu_len]
theorem wb1_ne {r : Rv} {s : Sl} {env : SEnv} {k : Nat} (h : r ≠ .p k) : (wb1 r s env)[k]? = env[k]? := by
  cases r with
  | p i =>
    cases s with
    | mu b d => exact setMu_ne fun z => h (by rw [z])
    | _ => rfl
  | _ => cases s <;> rfl
theorem wbk_len : ∀ (rs : List Rv) (ea env : SEnv), (wbk rs ea env).length = env.length
  | [], _, _ => by simp [wbk]
  | r :: rs, [], _ => by simp [wbk]
  | r :: rs, s :: ea, env => by rw [wbk, wbk_len, wb1_len]
theorem ptrs_out {k : Nat} {r : Rv} {rs : List Rv} (h : k ∉ ptrs (r :: rs)) : r ≠ .p k ∧ k ∉ ptrs rs := by
  cases r with
  | p i => exact ⟨fun z => h (by cases z; exact List.mem_cons_self ..), fun z => h (List.mem_cons_of_mem _ z)⟩
  | v d => exact ⟨fun z => (nomatch z), h⟩
  | f d => exact ⟨fun z => (nomatch z), h⟩
theorem wbk_out {k : Nat} : ∀ {rs : List Rv} {ea env : SEnv}, k ∉ ptrs rs → (wbk rs ea env)[k]? = env[k]?
  | [], _, _, _ => by simp [wbk]
  | r :: rs, [], _, _ => by simp [wbk]
  | r :: rs, s :: ea, env, h => by rw [wbk, wbk_out (ptrs_out h).2, wb1_ne (ptrs_out h).1]
theorem ptrs_mem {i : Nat} : ∀ {rs : List Rv} {j : Nat}, rs[j]? = some (.p i) → i ∈ ptrs rs
  | [], _, h => by simp at h
  | r :: rs, 0, h => by
    simp at h
    subst h
    exact List.mem_cons_self ..
  | r :: rs, j + 1, h => by
    have := ptrs_mem (rs := rs) (j := j) (by simpa using h)
    cases r <;> simp [ptrs, this]
theorem ptrs_ex {i : Nat} : ∀ {rs : List Rv}, i ∈ ptrs rs → ∃ j : Nat, rs[j]? = some (.p i)
  | [], h => by simp [ptrs] at h
  | .p k :: rs, h => by
    rcases List.mem_cons.mp h with z | z
    · exact ⟨0, by rw [z]; rfl⟩
    · obtain ⟨j, e⟩ := ptrs_ex z
      exact ⟨j + 1, by simpa using e⟩
  | .v _ :: rs, h => by
    obtain ⟨j, e⟩ := ptrs_ex (rs := rs) h
    exact ⟨j + 1, by simpa using e⟩
  | .f _ :: rs, h => by
    obtain ⟨j, e⟩ := ptrs_ex (rs := rs) h
    exact ⟨j + 1, by simpa using e⟩
theorem ptrs_inj {i : Nat} : ∀ {rs : List Rv} {j k : Nat}, (ptrs rs).Nodup → rs[j]? = some (.p i) → rs[k]? = some (.p i) → j = k
  | [], _, _, _, h, _ => by simp at h
  | r :: rs, 0, 0, _, _, _ => rfl
  | r :: rs, 0, k + 1, nd, h, h' => by
    simp at h
    subst h
    have := ptrs_mem (rs := rs) (j := k) (by simpa using h')
    exact absurd this (List.nodup_cons.mp nd).1
  | r :: rs, j + 1, 0, nd, h, h' => by
    simp at h'
    subst h'
    have := ptrs_mem (rs := rs) (j := j) (by simpa using h)
    exact absurd this (List.nodup_cons.mp nd).1
  | r :: rs, j + 1, k + 1, nd, h, h' => by
    have nd' : (ptrs rs).Nodup := by
      cases r with
      | p i => exact (List.nodup_cons.mp nd).2
      | v d => exact nd
      | f d => exact nd
    have := ptrs_inj (i := i) (rs := rs) (j := j) (k := k) nd' (by simpa using h) (by simpa using h')
    omega
theorem ptrs_nd {r : Rv} {rs : List Rv} (h : (ptrs (r :: rs)).Nodup) : (ptrs rs).Nodup := by
  cases r with
  | p i => exact (List.nodup_cons.mp h).2
  | v d => exact h
  | f d => exact h
theorem wbk_in {k : Nat} {b c : Bool} {d d0 : D} : ∀ {rs : List Rv} {ea env : SEnv} {j : Nat}, (ptrs rs).Nodup → rs[j]? = some (.p k) → ea[j]? = some (.mu c d) → env[k]? = some (.mu b d0) → (wbk rs ea env)[k]? = some (.mu b d)
  | [], _, _, _, _, h, _, _ => by simp at h
  | r :: rs, [], _, _, _, _, h, _ => by simp at h
  | r :: rs, s :: ea, env, 0, nd, h, h', he => by
    simp at h h'
    subst h h'
    rw [wbk, wbk_out (List.nodup_cons.mp nd).1]
    exact setMu_at he
  | r :: rs, s :: ea, env, j + 1, nd, h, h', he => by
    rw [wbk]
    refine wbk_in (d0 := d0) (ptrs_nd nd) (by simpa using h) (by simpa using h') ?_
    rw [wb1_ne]
    · exact he
    · intro z
      subst z
      exact (List.nodup_cons.mp nd).1 (ptrs_mem (rs := rs) (j := j) (by simpa using h))
theorem cts_len {env : SEnv} : ∀ {ms : List Bool} {rs : List Rv} {ds : List D}, ctsOf env ms rs = some ds → ds.length = ms.length ∧ rs.length = ms.length
  | [], [], ds, h => by simp [ctsOf] at h; subst h; exact ⟨rfl, rfl⟩
  | false :: ms, .v d :: rs, ds, h => by
    rw [ctsOf] at h
    obtain ⟨es, e, rfl⟩ := Option.map_eq_some_iff.mp h
    obtain ⟨h1, h2⟩ := cts_len e
    exact ⟨by simp [h1], by simp [h2]⟩
  | true :: ms, .p i :: rs, ds, h => by
    rw [ctsOf] at h
    split at h
    · obtain ⟨es, e, rfl⟩ := Option.map_eq_some_iff.mp h
      obtain ⟨h1, h2⟩ := cts_len e
      exact ⟨by simp [h1], by simp [h2]⟩
    · cases h
  | [], _ :: _, _, h => by simp [ctsOf] at h
  | m :: _, [], _, h => by cases m <;> simp [ctsOf] at h
  | true :: _, .v _ :: _, _, h => by simp [ctsOf] at h
  | true :: _, .f _ :: _, _, h => by simp [ctsOf] at h
  | false :: _, .p _ :: _, _, h => by simp [ctsOf] at h
  | false :: _, .f _ :: _, _, h => by simp [ctsOf] at h
theorem cts_get {env : SEnv} : ∀ {ms : List Bool} {rs : List Rv} {ds : List D} {j : Nat} {d : D}, ctsOf env ms rs = some ds → ds[j]? = some d → (ms[j]? = some false ∧ rs[j]? = some (.v d)) ∨ (ms[j]? = some true ∧ ∃ i b, rs[j]? = some (.p i) ∧ env[i]? = some (.mu b d))
  | [], [], ds, j, d, h, e => by simp [ctsOf] at h; subst h; simp at e
  | false :: ms, .v d :: rs, ds, j, d', h, e => by
    rw [ctsOf] at h
    obtain ⟨es, e1, rfl⟩ := Option.map_eq_some_iff.mp h
    cases j with
    | zero => simp at e; subst e; exact .inl ⟨rfl, rfl⟩
    | succ j => simpa using cts_get (j := j) (d := d') e1 (by simpa using e)
  | true :: ms, .p i :: rs, ds, j, d', h, e => by
    rw [ctsOf] at h
    split at h
    · rename_i b d0 e0
      obtain ⟨es, e1, rfl⟩ := Option.map_eq_some_iff.mp h
      cases j with
      | zero => simp at e; subst e; exact .inr ⟨rfl, i, b, rfl, e0⟩
      | succ j => simpa using cts_get (j := j) (d := d') e1 (by simpa using e)
    · cases h
  | [], _ :: _, _, _, _, h, _ => by simp [ctsOf] at h
  | m :: _, [], _, _, _, h, _ => by cases m <;> simp [ctsOf] at h
  | true :: _, .v _ :: _, _, _, _, h, _ => by simp [ctsOf] at h
  | true :: _, .f _ :: _, _, _, _, h, _ => by simp [ctsOf] at h
  | false :: _, .p _ :: _, _, _, _, h, _ => by simp [ctsOf] at h
  | false :: _, .f _ :: _, _, _, _, h, _ => by simp [ctsOf] at h
theorem paired_get {α β : Type} {R : α → β → Prop} : ∀ {xs : List α} {ys : List β} {i : Nat} {y : β}, Paired R xs ys → ys[i]? = some y → ∃ x, xs[i]? = some x ∧ R x y
  | _, _, _, _, .nil, h => by simp at h
  | _, _, 0, _, .cons r _, h => by simp at h; subst h; exact ⟨_, rfl, r⟩
  | _, _, i + 1, _, .cons _ t, h => by
    obtain ⟨x, e, r⟩ := paired_get (i := i) t (by simpa using h)
    exact ⟨x, by simpa using e, r⟩
section
variable {K : PySem.W.Frag} {Γ : Cls0} {env : SEnv} {σ : L2.St} {H0 G H G' H' : Hp} {vs : List V} {rs : List Rv} {ms : List Bool} {ds : List D}
/-- an owned argument is what a slot of the caller owns -/
theorem arg_ow (rv : RvA K Γ env σ H0 G H vs rs) (c : ctsOf env ms rs = some ds) {j : Nat} {p : Addr} (h : OwAt (mkE ms ds) (vs.map some) j p) : ∃ i, rs[j]? = some (.p i) ∧ OwAt env σ i p := by
  obtain ⟨⟨b, d, e1⟩, e2⟩ := h
  obtain ⟨d', ed, k | k⟩ := mkE_get e1
  · cases k.2
    rcases cts_get c ed with z | ⟨_, i, b', z1, z2⟩
    · rw [k.1] at z; cases z.1
    · obtain ⟨v, ev, hv⟩ := paired_get rv z1
      rw [List.getElem?_map, ev] at e2
      cases e2
      exact ⟨i, z1, ⟨b', d, z2⟩, hv.1⟩
  · cases k.2
theorem args_rel (rel : Rel K Γ env σ G H) (rv : RvA K Γ env σ H0 G H vs rs) (c : ctsOf env ms rs = some ds) (nd : (ptrs rs).Nodup) : Rel K Γ (mkE ms ds) (vs.map some) G H := by
  obtain ⟨l1, l2⟩ := cts_len c
  refine ⟨by rw [mkE_len l1, List.length_map, Paired.length rv, l2], rel.sub, fun j s o e1 e2 => ?_, fun j k p h1 h2 => ?_⟩
  · obtain ⟨d, ed, k⟩ := mkE_get e1
    rcases cts_get c ed with ⟨z0, z⟩ | ⟨z0, i, b, z1, z2⟩
    · obtain ⟨v, ev, hv⟩ := paired_get rv z
      rw [List.getElem?_map, ev] at e2
      cases e2
      rcases k with k | k
      · rw [z0] at k; cases k.1
      · cases k.2; exact hv
    · obtain ⟨v, ev, hv⟩ := paired_get rv z1
      rw [List.getElem?_map, ev] at e2
      cases e2
      rcases k with k | k
      · cases k.2
        obtain ⟨p, e3, o⟩ := rel.own z2
        rw [hv.1] at e3
        cases e3
        exact ⟨p, rfl, o⟩
      · rw [z0] at k; cases k.1
  · obtain ⟨i1, a1, b1⟩ := arg_ow rv c h1
    obtain ⟨i2, a2, b2⟩ := arg_ow rv c h2
    cases rel.dj i1 i2 p b1 b2
    exact ptrs_inj nd a1 a2
theorem call_post (rel : Rel K Γ env σ G H) (rv : RvA K Γ env σ H0 G H vs rs) (c : ctsOf env ms rs = some ds) (nd : (ptrs rs).Nodup) {ea : SEnv} (p : Post K Γ (mkE ms ds) (vs.map some) G H ea G' H') : Post K Γ env σ G H (wbk rs ea env) G' H' := by
  obtain ⟨l1, l2⟩ := cts_len c
  have sub : ∀ q, Ow (mkE ms ds) (vs.map some) q → Ow env σ q := fun q ⟨j, z⟩ => let ⟨i, _, z⟩ := arg_ow rv c z; ⟨i, z⟩
  -- a slot that was handed on
  have han : ∀ {i : Nat}, i ∈ ptrs rs → ∃ (j : Nat) (d : D) (b : Bool) (d' : D), rs[j]? = some (.p i) ∧ env[i]? = some (.mu b d) ∧ ea[j]? = some (.mu true d') ∧ (wbk rs ea env)[i]? = some (.mu b d') ∧ ∃ q : Addr, σ[i]? = some (some (.ref q)) ∧ (vs.map some)[j]? = some (some (.ref q)) := fun {i} hi => by
    obtain ⟨j, ej⟩ := ptrs_ex hi
    have hj : j < ds.length := by
      have := (List.getElem?_eq_some_iff.mp ej).1
      omega
    rcases cts_get c (List.getElem?_eq_getElem hj) with z | ⟨z0, i', b, z1, z2⟩
    · rw [ej] at z; cases z.2
    · rw [ej] at z1
      cases z1
      have hs : (mkE ms ds)[j]? = some ((mkE ms ds)[j]'(by rw [mkE_len l1]; omega)) := List.getElem?_eq_getElem _
      obtain ⟨d2, ed, k | k⟩ := mkE_get hs
      · rw [k.2] at hs
        obtain ⟨d', q | ⟨q, _⟩⟩ := p.ks.mu j true d2 hs
        · obtain ⟨v, ev, hv⟩ := paired_get rv ej
          obtain ⟨a, ea1, _⟩ := rel.own z2
          refine ⟨j, _, b, d', ej, z2, q, wbk_in nd ej q z2, a, ea1, ?_⟩
          rw [List.getElem?_map, ev]
          rw [hv.1] at ea1
          cases ea1
          rfl
        · cases q
      · rw [z0] at k; cases k.1
  refine ⟨⟨by rw [wbk_len]; exact rel.len, p.rel.sub, fun i s o e1 e2 => ?_, fun i j q h1 h2 => ?_⟩, ⟨wbk_len .., fun i d e => ?_, fun i b d e => ?_, fun i e => ?_⟩, ⟨p.fr.g, fun b o n => p.fr.h b o fun z => n (sub b z), fun b z => (p.fr.n b z).imp id fun z => z.imp id (sub b), p.fr.d⟩⟩
  · by_cases hi : i ∈ ptrs rs
    · obtain ⟨j, d, b, d', _, _, z3, z4, q, z5, z6⟩ := han hi
      rw [z4] at e1
      cases e1
      rw [z5] at e2
      cases e2
      obtain ⟨a, ea1, o⟩ := p.rel.own z3
      rw [z6] at ea1
      cases ea1
      exact ⟨_, rfl, o⟩
    · rw [wbk_out hi] at e1
      have h := rel.sl i s o e1 e2
      cases s with
      | no => trivial
      | im d =>
        cases o with
        | none => exact h
        | some v => exact Rp.on p.fr.g h
      | mu b d =>
        cases o with
        | none => exact h
        | some v =>
          obtain ⟨a, rfl, o⟩ := h
          have na : ¬ Ow (mkE ms ds) (vs.map some) a := fun ⟨j, z⟩ => by
            obtain ⟨i', z1, z2⟩ := arg_ow rv c z
            cases rel.dj i' i a z2 ⟨⟨b, d, e1⟩, e2⟩
            exact hi (ptrs_mem z1)
          refine ⟨a, rfl, o.go p.fr.g ?_ ?_⟩
          · cases q : G' a with
            | none => rfl
            | some u =>
              rcases p.fr.n a (by rw [q]; exact fun z => nomatch z) with q | q | q
              · exact absurd o.out q
              · exact absurd q o.there
              · exact absurd q na
          · cases q : H a with
            | none => exact absurd q o.there
            | some u => exact p.fr.h a u na q
  · have bk : ∀ {i : Nat}, OwAt (wbk rs ea env) σ i q → OwAt env σ i q := fun {i} z => by
      obtain ⟨⟨b, d, z1⟩, z2⟩ := z
      by_cases hi : i ∈ ptrs rs
      · obtain ⟨j, d, b, d', _, z3, _⟩ := han hi
        exact ⟨⟨b, d, z3⟩, z2⟩
      · rw [wbk_out hi] at z1
        exact ⟨⟨b, d, z1⟩, z2⟩
    exact rel.dj i j q (bk h1) (bk h2)
  · by_cases hi : i ∈ ptrs rs
    · obtain ⟨j, d, b, d', _, z3, _⟩ := han hi
      rw [e] at z3; cases z3
    · rw [wbk_out hi]; exact e
  · by_cases hi : i ∈ ptrs rs
    · obtain ⟨j, d, b, d', _, z3, _, z4, _⟩ := han hi
      rw [e] at z3; cases z3
      exact ⟨d', .inl z4⟩
    · exact ⟨d, .inl (by rw [wbk_out hi]; exact e)⟩
  · by_cases hi : i ∈ ptrs rs
    · obtain ⟨j, d, b, d', _, z3, _⟩ := han hi
      rw [e] at z3; cases z3
    · rw [wbk_out hi]; exact e
/-- a call by its promise -/
theorem call_sp {W : WX} {env0 : SEnv} {G0 H0' : Hp} {g : List D → Out D} {Q : VK} (p : Post K Γ env0 σ G0 H0' env G H) (rv : RvA K Γ env σ H0 G H vs rs) (a : At K Γ W σ env0 G0 H0' (RE K Γ) (callF g ms rs env) Q) : spF K Γ ms g vs H Q (WE W σ) := by
  unfold callF at a
  cases c : ctsOf env ms rs with
  | none => simp only [c] at a; exact absurd rfl a.nb
  | some ds =>
    simp only [c] at a
    by_cases nd : (ptrs rs).Nodup
    · simp only [nd, if_true] at a
      obtain ⟨l1, l2⟩ := cts_len c
      refine ⟨ds, G, l1, by rw [Paired.length rv]; exact l2, args_rel p.rel rv c nd, fun z => ?_, fun r ea v G' H' e q hd => ?_, fun c' d ea cls dx G' H' e q x => ?_⟩
      · rw [z] at a; exact a.nb rfl
      · rw [e] at a; exact a.run (.v r) v _ G' H' rfl (p.trans (call_post p.rel rv c nd q)) hd
      · rw [e] at a; exact a.ex c' d _ cls dx G' H' rfl (p.trans (call_post p.rel rv c nd q)) x
    · simp only [nd, if_false] at a; exact absurd rfl a.nb
end
section
variable {X : Cx} {Γ : Cls0} {W : WX} {pos p : Pos} {e : Expr} {es : List Expr} {f : SEnv → Out Rv} {g : SEnv → Out (List Rv)} {gd : List D → Out D} {ms : List Bool} {k : Nat} {fa : Addr} {fd : FuncData} {ps : List Str} {x : Str}
theorem paired_imp {α β : Type} {R S : α → β → Prop} (k : ∀ a b, R a b → S a b) : ∀ {xs : List α} {ys : List β}, Paired R xs ys → Paired S xs ys
  | _, _, .nil => .nil
  | _, _, .cons r t => .cons (k _ _ r) (paired_imp k t)
theorem sR_nil : PA X [] (tAr X.K Γ W eANil) := paI pa_nil fun σ H Q ⟨env, G, rel, a⟩ => a.run [] [] env G H rfl (Post.refl rel) .nil
theorem sR_k (h : PE X e (tE X.K Γ W f)) (r : PA X es (tAr X.K Γ W g)) (hs : starEach (e :: es) X.env = (false, eval e X.env) :: starEach es X.env := by rfl) : PA X (e :: es) (tAr X.K Γ W (eAK f g)) :=
  paI (pa_cons (sK h) r hs) fun σ H Q ⟨env, G, rel, a⟩ => tX.bind a (Post.refl rel) fun d env1 v G1 H1 e1 p1 rr a1 => tX.bind a1 p1 fun rs env2 vs G2 H2 e2 p2 rr2 a2 => a2.run _ _ env2 G2 H2 rfl (p1.trans p2) (.cons (rr.on p2.fr.g) (paired_imp (fun _ _ h => h.early p1) rr2))
theorem sR_p (h : PE X e (tE X.K Γ W f)) (r : PA X es (tAr X.K Γ W g)) (hs : starEach (e :: es) X.env = (false, eval e X.env) :: starEach es X.env := by rfl) : PA X (e :: es) (tAr X.K Γ W (eAP f g)) :=
  paI (pa_cons h r hs) fun σ H Q ⟨env, G, rel, a⟩ => tX.bind a (Post.refl rel) fun d env1 v G1 H1 e1 p1 rr a1 => tX.bind a1 p1 fun rs env2 vs G2 H2 e2 p2 rr2 a2 => by
  cases d with
  | p i => exact a2.run _ _ env2 G2 H2 rfl (p1.trans p2) (.cons (RvR.step rr p2) (paired_imp (fun _ _ h => h.early p1) rr2))
  | _ => exact absurd rfl a2.nb
/-- f(e, ..) of a def by FnG -/
theorem pe_callGS {sp : Sp} {E : L2.St → XK} {t : TA} (F : FnG X.prog X.w X.K X.mg X.base (L2.CX X.prog X.w) k fa fd ps sp) (hA : X.A.guards = some []) (hr : Room k X.A) (hg : Gl X x) (hm : X.mg x = some (.ref fa)) (hk : PySem.W.keepIn X.K (.ref fa) = true) (hb : Binds X.K fd ps []) (hx : ∀ σ, PassesAt (L2.CX X.prog X.w) X σ (E σ))
    (ha : PA X (e :: es) t) (hdb : (x == ("__debug__" : Str)) = false := by decide) (he : starEach (e :: es) X.env = (false, eval e X.env) :: starEach es X.env := by rfl) (hpl : (backTo pos (starEach es X.env)).any (·.1) = false := by rfl) :
    PE X (.Call (.Name x p) (e :: es) [] pos) (tCallS sp E t) := by
  refine ⟨fun pins s σ H Q I h => wpAny_Call_Name_kw (ld_glob I hg hm (PySem.W.callWith_K (h₀ := X.base) I.ok.mod.kin hk
    (thn (ha.run pos pins s σ H _ I h) fun us s1 ⟨vs, H1, I1, r, q⟩ => ⟨I1.kIn, ?_⟩) he hpl) hdb)⟩
  have hl : us.length = ps.length := by rw [← r.length]; exact F.len _ _ _ _ q
  have b := hb s1 us I1.kIn (by rw [List.append_nil]; exact hl)
  rw [List.append_nil] at b
  refine wpAny_call (codeAny_mono (F.go X.A hA X.stack s1 H1 ⟨us, []⟩ us vs Q (E σ) hr I1.env0 b r q) fun res s' hq => ?_)
  cases res with
  | error err => exact hx σ pins H1 s1 err s' I1 hq
  | ok fl =>
    cases fl with
    | ret u => exact I1.after hq
    | next => exact hq.elim
    | brk => exact hq.elim
    | cont => exact hq.elim
theorem sE_call (F : FnG X.prog X.w X.K X.mg X.base (L2.CX X.prog X.w) k fa fd ps (spF X.K Γ ms gd)) (hA : X.A.guards = some []) (hr : Room k X.A) (hg : Gl X x) (hm : X.mg x = some (.ref fa)) (hk : PySem.W.keepIn X.K (.ref fa) = true) (hb : Binds X.K fd ps []) (hx : ∀ σ, PassesAt (L2.CX X.prog X.w) X σ (WE W σ))
    (ha : PA X (e :: es) (tAr X.K Γ W g)) (hdb : (x == ("__debug__" : Str)) = false := by decide) (he : starEach (e :: es) X.env = (false, eval e X.env) :: starEach es X.env := by rfl) (hpl : (backTo pos (starEach es X.env)).any (·.1) = false := by rfl) :
    PE X (.Call (.Name x p) (e :: es) [] pos) (tE X.K Γ W (eCall gd ms g)) :=
  peI (pe_callGS F hA hr hg hm hk hb hx ha hdb he hpl) fun σ H Q ⟨env, G, rel, a⟩ => tX.bind a (Post.refl rel) fun rs env1 vs G1 H1 e1 p1 rr a1 => call_sp p1 rr a1
/-- the same of a def that needs no more -/
theorem sE_callF (F : FnOk X.prog X.w X.K X.mg X.base (L2.CX X.prog X.w) k fa fd ps (spF X.K Γ ms gd)) (hr : Room k X.A) (hg : Gl X x) (hm : X.mg x = some (.ref fa)) (hk : PySem.W.keepIn X.K (.ref fa) = true) (hb : Binds X.K fd ps []) (hx : ∀ σ, PassesAt (L2.CX X.prog X.w) X σ (WE W σ))
    (ha : PA X (e :: es) (tAr X.K Γ W g)) (hdb : (x == ("__debug__" : Str)) = false := by decide) (he : starEach (e :: es) X.env = (false, eval e X.env) :: starEach es X.env := by rfl) (hpl : (backTo pos (starEach es X.env)).any (·.1) = false := by rfl) :
    PE X (.Call (.Name x p) (e :: es) [] pos) (tE X.K Γ W (eCall gd ms g)) :=
  peI (pe_callS F hr hg hm hk hb hx ha hdb he hpl) fun σ H Q ⟨env, G, rel, a⟩ => tX.bind a (Post.refl rel) fun rs env1 vs G1 H1 e1 p1 rr a1 => call_sp p1 rr a1
end
end EV
set_option Elab.async false
set_option linter.all false
set_option maxRecDepth 100000
set_option maxHeartbeats 4000000
/-! Objects, lists that change. -/
namespace EV
open PySem PySem.Spec PyProof.Rows L2 PySem.NearX
section
variable {K : PySem.W.Frag} {Γ : Cls0} {env : SEnv} {σ : L2.St} {H0 G H G' H' : Hp}
/-- others' things are not touched -/
theorem Rel.frame (r : Rel K Γ env σ G H) {A : Addr → Prop} (f : Fr A G H G' H') (s : Same G' H') (n : ∀ p, A p → ¬ Ow env σ p) : Rel K Γ env σ G' H' := by
  refine ⟨r.len, s, fun i sl o e1 e2 => ?_, r.dj⟩
  have h := r.sl i sl o e1 e2
  cases sl with
  | no => trivial
  | im d =>
    cases o with
    | none => exact h
    | some v => exact Rp.on f.g h
  | mu b d =>
    cases o with
    | none => exact h
    | some v =>
      obtain ⟨a, rfl, o⟩ := h
      have na : ¬ A a := fun z => n a z ⟨i, ⟨b, d, e1⟩, e2⟩
      refine ⟨a, rfl, o.go f.g ?_ ?_⟩
      · cases q : G' a with
        | none => rfl
        | some u =>
          rcases f.n a (by rw [q]; exact fun z => nomatch z) with q | q | q
          · exact absurd o.out q
          · exact absurd q o.there
          · exact absurd q na
      · cases q : H a with
        | none => exact absurd q o.there
        | some u => exact f.h a u na q
/-- what slot i owns is changed -/
theorem Rel.chg (r : Rel K Γ env σ G H) {i : Nat} {b : Bool} {p : Addr} {d d' : D} {o : HO} (e : env[i]? = some (.mu b d)) (ep : σ[i]? = some (some (.ref p))) (ow : Own K Γ G (upd H p o) p d') : Post K Γ env σ G H (env.set i (.mu b d')) G (upd H p o) := by
  have hi := (List.getElem?_eq_some_iff.mp e).1
  have gp := ow.out
  have ow0 : Ow env σ p := ⟨i, ⟨b, d, e⟩, ep⟩
  refine ⟨⟨by rw [List.length_set]; exact r.len, fun a u e => ?_, fun j s o' e1 e2 => ?_, fun j k q h1 h2 => ?_⟩, ⟨List.length_set, fun j d1 h => ?_, fun j c d1 h => ?_, fun j h => ?_⟩, ⟨Same.refl _, fun a u n e => ?_, fun a z => .inl z, fun a z => ?_⟩⟩
  · have : a ≠ p := fun z => by subst z; rw [gp] at e; cases e
    rw [upd_ne this]; exact r.sub a u e
  · by_cases hj : j = i
    · subst hj
      rw [List.getElem?_set_self hi] at e1
      cases e1
      rw [ep] at e2
      cases e2
      exact ⟨p, rfl, ow⟩
    · rw [List.getElem?_set_ne (Ne.symm hj)] at e1
      have h := r.sl j s o' e1 e2
      cases s with
      | no => trivial
      | im d => cases o' <;> exact h
      | mu c d1 =>
        cases o' with
        | none => exact h
        | some v =>
          obtain ⟨q, rfl, h⟩ := h
          refine ⟨q, rfl, h.go (Same.refl _) h.out (upd_ne fun z => ?_)⟩
          subst z
          exact hj (r.dj j i q ⟨⟨_, _, e1⟩, e2⟩ ⟨⟨_, _, e⟩, ep⟩)
  · have bk : ∀ {j : Nat}, OwAt (env.set i (.mu b d')) σ j q → OwAt env σ j q := fun {j} z => by
      obtain ⟨⟨c, d1, z1⟩, z2⟩ := z
      by_cases hj : j = i
      · subst hj; exact ⟨⟨b, d, e⟩, z2⟩
      · rw [List.getElem?_set_ne (Ne.symm hj)] at z1
        exact ⟨⟨c, d1, z1⟩, z2⟩
    exact r.dj j k q (bk h1) (bk h2)
  · by_cases hj : j = i
    · subst hj; rw [e] at h; cases h
    · rw [List.getElem?_set_ne (Ne.symm hj)]; exact h
  · by_cases hj : j = i
    · subst hj; rw [e] at h; cases h; exact ⟨d', .inl (List.getElem?_set_self hi)⟩
    · exact ⟨d1, .inl (by rw [List.getElem?_set_ne (Ne.symm hj)]; exact h)⟩
  · by_cases hj : j = i
    · subst hj; rw [e] at h; cases h
    · rw [List.getElem?_set_ne (Ne.symm hj)]; exact h
  · have : a ≠ p := fun z => by subst z; exact n ow0
    rw [upd_ne this]; exact e
  · by_cases q : a = p
    · subst q; rw [upd_same]; exact fun z => nomatch z
    · rw [upd_ne q]; exact z
theorem RvR.obj {x : V} {r : Rv} {c : Str} {ns : List Str} {ds : List D} (h : RvR K Γ env σ H0 G H x r) (rel : Rel K Γ env σ G H) (e : dr env r = some (.obj c ns ds)) :
    ∃ a C dx fs, x = .ref a ∧ H a = some (.ins C dx fs) ∧ Γ c = some C ∧ ns = fs.map (·.1) ∧ RpA K Γ G (fs.map (·.2)) ds := by
  have own : ∀ p, Own K Γ G H p (.obj c ns ds) → ∃ C dx fs, H p = some (.ins C dx fs) ∧ Γ c = some C ∧ ns = fs.map (·.1) ∧ RpA K Γ G (fs.map (·.2)) ds := fun p o => by
    cases o with
    | obj _ a b k => exact ⟨_, _, _, a, b, rfl, k⟩
  have imm : Rp K Γ G x (.obj c ns ds) → ∃ a C dx fs, x = .ref a ∧ H a = some (.ins C dx fs) ∧ Γ c = some C ∧ ns = fs.map (·.1) ∧ RpA K Γ G (fs.map (·.2)) ds := fun o => by
    cases o with
    | obj a b k => exact ⟨_, _, _, _, rfl, rel.sub _ _ a, b, rfl, k⟩
  cases r with
  | v d' => cases e; exact imm h
  | f d' =>
    cases e
    obtain ⟨p, rfl, o, n⟩ := h
    obtain ⟨C, dx, fs, k⟩ := own p o
    exact ⟨p, C, dx, fs, rfl, k⟩
  | p i =>
    obtain ⟨h1, d', ⟨b, h2⟩ | h2⟩ := h
    · rw [dr_mu h2] at e
      cases e
      obtain ⟨p, e2, o⟩ := rel.own h2
      rw [h1] at e2
      cases e2
      obtain ⟨C, dx, fs, k⟩ := own p o
      exact ⟨p, C, dx, fs, rfl, k⟩
    · rw [dr_im h2] at e
      cases e
      obtain ⟨v, e2, o⟩ := rel.imm h2
      rw [h1] at e2
      cases e2
      exact imm o
def fldD : List Str → List D → Str → Option D
  | n :: ns, d :: ds, f => if n = f then some d else fldD ns ds f
  | _, _, _ => none
def putD (f : Str) (d : D) : List Str → List D → List Str × List D
  | n :: ns, x :: ds => if n = f then (n :: ns, d :: ds) else let (a, b) := putD f d ns ds; (n :: a, x :: b)
  | _, _ => ([f], [d])
theorem fld_of : ∀ {fs : List (Str × V)} {ds : List D} {f : Str} {d : D}, RpA K Γ G (fs.map (·.2)) ds → fldD (fs.map (·.1)) ds f = some d → ∃ v, fs.lookup f = some v ∧ Rp K Γ G v d
  | [], ds, f, d, h, e => by cases h; cases e
  | (n, v) :: fs, ds, f, d, h, e => by
    cases h with
    | cons h1 h2 =>
      have e' : (if n = f then some _ else fldD (fs.map (·.1)) _ f) = some d := e
      by_cases z : n = f
      · rw [if_pos z] at e'
        cases e'
        exact ⟨v, by rw [z]; simp [List.lookup], h1⟩
      · rw [if_neg z] at e'
        obtain ⟨u, e1, hu⟩ := fld_of h2 e'
        refine ⟨u, ?_, hu⟩
        have : (f == n) = false := by
          rw [beq_eq_false_iff_ne]
          exact fun q => z q.symm
        simp [List.lookup, this, e1]
theorem put_of {f : Str} {v : V} {d : D} (hv : Rp K Γ G v d) : ∀ {fs : List (Str × V)} {ds : List D}, RpA K Γ G (fs.map (·.2)) ds → (putD f d (fs.map (·.1)) ds).1 = (putF f v fs).map (·.1) ∧ RpA K Γ G ((putF f v fs).map (·.2)) (putD f d (fs.map (·.1)) ds).2
  | [], ds, h => by cases h; exact ⟨rfl, .cons hv .nil⟩
  | (n, x) :: fs, ds, h => by
    cases h with
    | @cons _ _ d1 ds h1 h2 =>
      by_cases z : n = f
      · have e1 : putF f v ((n, x) :: fs) = (n, v) :: fs := by show (if n = f then _ else _) = _; rw [if_pos z]
        have e2 : putD f d ((((n, x) :: fs)).map (·.1)) (d1 :: ds) = (n :: fs.map (·.1), d :: ds) := by show (if n = f then _ else _) = _; rw [if_pos z]
        rw [e1, e2]
        exact ⟨rfl, .cons hv h2⟩
      · have e1 : putF f v ((n, x) :: fs) = (n, x) :: putF f v fs := by show (if n = f then _ else _) = _; rw [if_neg z]
        obtain ⟨k1, k2⟩ := put_of hv h2
        have e2 : putD f d ((((n, x) :: fs)).map (·.1)) (d1 :: ds) = (n :: (putD f d (fs.map (·.1)) ds).1, d1 :: (putD f d (fs.map (·.1)) ds).2) := by show (if n = f then _ else _) = _; rw [if_neg z]
        rw [e1, e2]
        exact ⟨by rw [List.map_cons, ← k1], .cons h1 k2⟩
end
/-- the classes in cs have no attribute f of their own -/
def FldOk (K : PySem.W.Frag) (Γ : Cls0) (f : Str) (cs : List Str) : Prop := ∀ c ∈ cs, ∀ C, Γ c = some C → Cls K C ∧ NoAttr K C f
def eFld (f : Str) (cs : List Str) (fo : SEnv → Out Rv) : SEnv → Out Rv := eB fo fun r env => match dr env r with
  | some (.obj c ns ds) => if c ∈ cs then (match fldD ns ds f with
    | some d => .ok (.v d) env
    | none => .bad) else .bad
  | _ => .bad
/-- e.append(d), e[i] = d, e.pop() .. of the list that slot i owns -/
def lstAt (env : SEnv) (i : Nat) : Option (Bool × List D) := match env[i]? with
  | some (.mu b (.lst ds)) => some (b, ds)
  | _ => none
def eApp1 (i : Nat) (d : D) (env : SEnv) : Out Rv := match lstAt env i with
  | some (b, ds) => if ds.length < sizeLine then .ok (.v .non) (env.set i (.mu b (.lst (ds ++ [d])))) else .bad
  | none => .bad
def eApp (i : Nat) (f : SEnv → Out Rv) : SEnv → Out Rv := fun env => if (lstAt env i).isSome = true then eB (eK f) (eApp1 i) env else .bad
def eL0 (g : List D → Option (Rv × List D)) (i : Nat) : SEnv → Out Rv := fun env => match lstAt env i with
  | some (b, ds) => (match g ds with
    | some (r, ds') => .ok r (env.set i (.mu b (.lst ds')))
    | none => .bad)
  | none => .bad
def gPop (ds : List D) : Option (Rv × List D) := (ds[ds.length - 1]?).map fun d => (.v d, ds.dropLast)
def gClear (ds : List D) : Option (Rv × List D) := some (.v .non, [])
def gReverse (ds : List D) : Option (Rv × List D) := some (.v .non, ds.reverse)
def sSub1 (i : Nat) (d : D) (r : Rv) (env : SEnv) : SO := match dr env r, lstAt env i with
  | some (.int k), some (b, ds) => (match ixN ds.length k with
    | some j => .nx (env.set i (.mu b (.lst (ds.set j d))))
    | none => .bad)
  | _, _ => .bad
def sSub (i : Nat) (fe fi : SEnv → Out Rv) : SEnv → SO := fun env => if (lstAt env i).isSome = true then sB (eK fe) (fun d => sB fi (sSub1 i d)) env else .bad
def sFldS (f : Str) (cs : List Str) (i : Nat) (fe : SEnv → Out Rv) : SEnv → SO := sB (eK fe) fun d env => match env[i]? with
  | some (.mu b (.obj c ns ds)) => if c ∈ cs ∧ ns.length < 1000 then .nx (env.set i (.mu b (.obj c (putD f d ns ds).1 (putD f d ns ds).2))) else .bad
  | _ => .bad
section
variable {X : Cx} {Γ : Cls0} {W : WX} {pos : Pos} {e o : Expr} {fo fe fi : SEnv → Out Rv} {f : Str} {cs : List Str} {i : Nat} {x : Str}
theorem sE_fld (hC : FldOk X.K Γ f cs) (he : PE X e (tE X.K Γ W fo)) (hb : attributeBase e f X.env (eval e X.env) = eval e X.env := by rfl) : PE X (.Attribute e f pos) (tE X.K Γ W (eFld f cs fo)) := peI (pe_fld he hb) fun σ H Q ⟨env, G, rel, a⟩ => by
  refine tX.bind a (Post.refl rel) fun r env1 v G1 H1 e1 p1 rr a1 => ?_
  try dsimp only at a1
  split at a1
  · rename_i c ns ds ed
    split at a1
    · rename_i hc
      split at a1
      · rename_i d hd
        obtain ⟨p, C, dx, fs, rfl, ep, eC, rfl, ra⟩ := RvR.obj rr p1.rel ed
        obtain ⟨v, hv, hr⟩ := fld_of ra hd
        obtain ⟨k1, k2⟩ := hC c hc C eC
        exact ⟨p, C, dx, fs, v, rfl, ep, k1, k2, hv, a1.run (.v d) v env1 G1 H1 rfl p1 hr⟩
      · exact absurd rfl a1.nb
    · exact absurd rfl a1.nb
  · exact absurd rfl a1.nb
theorem lstAt_inv {env : SEnv} {i : Nat} {b : Bool} {ds : List D} (h : lstAt env i = some (b, ds)) : env[i]? = some (.mu b (.lst ds)) := by
  unfold lstAt at h
  split at h
  · cases h; assumption
  · cases h
theorem own_lst {K : PySem.W.Frag} {env : SEnv} {σ : L2.St} {G H : Hp} {i : Nat} {b : Bool} {ds : List D} (rel : Rel K Γ env σ G H) (h : lstAt env i = some (b, ds)) : ∃ p xs, σ[i]? = some (some (.ref p)) ∧ G p = none ∧ H p = some (.lst xs) ∧ RpA K Γ G xs ds := by
  obtain ⟨p, e, o⟩ := rel.own (lstAt_inv h)
  cases o with
  | lst a b c => exact ⟨p, _, e, a, b, c⟩
theorem set_own {K : PySem.W.Frag} {env : SEnv} {σ : L2.St} {G H : Hp} {i : Nat} {b : Bool} {ds ds' : List D} {p : Addr} {xs : List V} (rel : Rel K Γ env σ G H) (h : lstAt env i = some (b, ds)) (ep : σ[i]? = some (some (.ref p))) (g : G p = none) (ra : RpA K Γ G xs ds') :
    Post K Γ env σ G H (env.set i (.mu b (.lst ds'))) G (upd H p (.lst xs)) := rel.chg (lstAt_inv h) ep (.lst g upd_same ra)
/-- x.append(e) -/
theorem sE_app {p apos cpos : Pos} (hm : ∀ {t : TA}, PA X [e] t → PE X (.Call (.Attribute (.Name x p) "append" apos) [e] [] cpos) (tBM X.K "list" rAppend (tVar i) t)) (he : PE X e (tE X.K Γ W fe)) (hs : starEach (e :: []) X.env = (false, eval e X.env) :: starEach [] X.env := by rfl) :
    PE X (.Call (.Attribute (.Name x p) "append" apos) [e] [] cpos) (tE X.K Γ W (eApp i fe)) := peI (hm (pa_cons (sK he) pa_nil hs)) fun σ H Q ⟨env, G, rel, a⟩ => by
  unfold eApp at a
  by_cases hi : (lstAt env i).isSome = true
  · simp only [hi, if_true] at a
    obtain ⟨⟨b, ds0⟩, e0⟩ := Option.isSome_iff_exists.mp hi
    obtain ⟨q, xs0, eq, gq, hq, rq⟩ := own_lst rel e0
    refine ⟨_, eq, .inl ⟨rfl, xs0, SqL.of hq⟩, tX.bind a (Post.refl rel) fun d env1 v G1 H1 e1 p1 rr a1 => ?_⟩
    unfold eApp1 at a1
    split at a1
    · rename_i b1 ds e2
      split at a1
      · rename_i hz
        obtain ⟨q1, xs, eq1, gq1, hq1, rq1⟩ := own_lst p1.rel e2
        rw [eq] at eq1
        cases eq1
        refine ⟨q, xs, v, rfl, rfl, hq1, by rw [rq1.len]; exact hz, ?_⟩
        have k := set_own p1.rel e2 eq gq1 (rq1.append (.cons rr .nil))
        exact a1.run (.v .non) .non _ _ _ rfl (p1.trans k) Rp.non
      · exact absurd rfl a1.nb
    · exact absurd rfl a1.nb
  · simp only [hi, if_false, Bool.false_eq_true] at a; exact absurd rfl a.nb
/-- x.pop(), x.clear(), x.reverse() -/
theorem sE_l0 {m : Str} {p apos cpos : Pos} {r : V → List V → Hp → VK → Prop} {g : List D → Option (Rv × List D)} (hm : PE X (.Call (.Attribute (.Name x p) m apos) [] [] cpos) (tBM0 X.K "list" r (tVar i)))
    (hr : ∀ (G H : Hp) (q : Addr) (xs : List V) (ds ds' : List D) (z : Rv) (Q : VK), H q = some (.lst xs) → RpA X.K Γ G xs ds → g ds = some (z, ds') → (∃ d, z = .v d ∧ ∀ v xs', RpA X.K Γ G xs' ds' → Rp X.K Γ G v d → Q v (upd H q (.lst xs'))) → r (.ref q) [] H Q)
    (hv : ∀ ds z ds', g ds = some (z, ds') → ∃ d, z = .v d) :
    PE X (.Call (.Attribute (.Name x p) m apos) [] [] cpos) (tE X.K Γ W (eL0 g i)) := peI hm fun σ H Q ⟨env, G, rel, a⟩ => by
  unfold eL0 at a
  split at a
  · rename_i b ds e0
    split at a
    · rename_i z ds' eg
      obtain ⟨q, xs0, eq, gq, hq, rq⟩ := own_lst rel e0
      obtain ⟨d, rfl⟩ := hv _ _ _ eg
      refine ⟨_, eq, .inl ⟨rfl, xs0, SqL.of hq⟩, hr G H q xs0 ds ds' _ Q hq rq eg ⟨d, rfl, fun v xs' rx rv => ?_⟩⟩
      exact a.run (.v d) v _ _ _ rfl (set_own rel e0 eq gq rx) rv
    · exact absurd rfl a.nb
  · exact absurd rfl a.nb
theorem l0_pop {K : PySem.W.Frag} (G H : Hp) (q : Addr) (xs : List V) (ds ds' : List D) (z : Rv) (Q : VK) (h : H q = some (.lst xs)) (r : RpA K Γ G xs ds) (e : gPop ds = some (z, ds')) (k : ∃ d, z = .v d ∧ ∀ v xs', RpA K Γ G xs' ds' → Rp K Γ G v d → Q v (upd H q (.lst xs'))) : rPop (.ref q) [] H Q := by
  obtain ⟨d, hd, e2⟩ := Option.map_eq_some_iff.mp e
  cases e2
  obtain ⟨d', e3, k⟩ := k
  cases e3
  obtain ⟨y, ey, hy⟩ := r.to hd
  exact ⟨q, xs, y, rfl, rfl, h, by rw [r.len]; exact ey, k y _ r.dropLast hy⟩
theorem l0_clear {K : PySem.W.Frag} (G H : Hp) (q : Addr) (xs : List V) (ds ds' : List D) (z : Rv) (Q : VK) (h : H q = some (.lst xs)) (r : RpA K Γ G xs ds) (e : gClear ds = some (z, ds')) (k : ∃ d, z = .v d ∧ ∀ v xs', RpA K Γ G xs' ds' → Rp K Γ G v d → Q v (upd H q (.lst xs'))) : rClear (.ref q) [] H Q := by
  cases e
  obtain ⟨d', e3, k⟩ := k
  cases e3
  exact ⟨q, xs, rfl, rfl, h, k .non [] .nil .non⟩
theorem l0_reverse {K : PySem.W.Frag} (G H : Hp) (q : Addr) (xs : List V) (ds ds' : List D) (z : Rv) (Q : VK) (h : H q = some (.lst xs)) (r : RpA K Γ G xs ds) (e : gReverse ds = some (z, ds')) (k : ∃ d, z = .v d ∧ ∀ v xs', RpA K Γ G xs' ds' → Rp K Γ G v d → Q v (upd H q (.lst xs'))) : rReverse (.ref q) [] H Q := by
  cases e
  obtain ⟨d', e3, k⟩ := k
  cases e3
  exact ⟨q, xs, rfl, rfl, h, k .non _ r.reverse .non⟩
theorem v_pop (ds : List D) (z : Rv) (ds' : List D) (e : gPop ds = some (z, ds')) : ∃ d, z = .v d := by
  obtain ⟨d, hd, e2⟩ := Option.map_eq_some_iff.mp e
  cases e2
  exact ⟨d, rfl⟩
theorem v_clear (ds : List D) (z : Rv) (ds' : List D) (e : gClear ds = some (z, ds')) : ∃ d, z = .v d := by cases e; exact ⟨_, rfl⟩
theorem v_reverse (ds : List D) (z : Rv) (ds' : List D) (e : gReverse ds = some (z, ds')) : ∃ d, z = .v d := by cases e; exact ⟨_, rfl⟩
/-- x[i] = e -/
theorem sS_sub {y : Expr} {p p2 : Pos} (hx : PE X (.Name x p) (tVar i)) (hi : PE X y (tE X.K Γ W fi)) (he : PE X e (tE X.K Γ W fe))
    (hm : ∀ {to ti te : TE}, PE X (.Name x p) to → PE X y ti → PE X e te → PS X (.Assign [.Subscript (.Name x p) y p2] e pos) (tAsg te (gSub to ti rSetL))) :
    PS X (.Assign [.Subscript (.Name x p) y p2] e pos) (tS X.K Γ W (sSub i fe fi)) := psI (hm hx hi (sK he)) fun E σ H ⟨env, G, rel, a⟩ => by
  unfold sSub at a
  by_cases hi : (lstAt env i).isSome = true
  · simp only [hi, if_true] at a
    obtain ⟨⟨b, ds0⟩, e0⟩ := Option.isSome_iff_exists.mp hi
    obtain ⟨q, xs0, eq, gq, hq, rq⟩ := own_lst rel e0
    refine tX.bindS a (PostS.refl rel) fun d env1 v G1 H1 e1 p1 rr a1 => ⟨_, eq, tX.bindS a1 p1.s fun r env2 v2 G2 H2 e2 p2 rr2 a2 => ?_⟩
    unfold sSub1 at a2
    split at a2
    · rename_i k b ds ek el
      split at a2
      · rename_i j ej
        obtain ⟨q2, xs, eq2, gq2, hq2, rq2⟩ := own_lst p2.rel el
        rw [eq] at eq2
        cases eq2
        refine ⟨q, xs, k, j, rfl, rp_int (RvR.rd rr2 p2.rel ek), hq2, by rw [rq2.len]; exact ej, ?_⟩
        have kk := set_own p2.rel el eq gq2 (RpA.set (rr.on p2.fr.g) j rq2)
        exact a2.nx _ _ _ _ rfl (((p1.trans p2).trans kk).s)
      · exact absurd rfl a2.nb
    · exact absurd rfl a2.nb
  · simp only [hi, if_false, Bool.false_eq_true] at a; exact absurd rfl a.nb
/-- x.f = e, x what slot i owns -/
theorem sS_fld {y : Expr} {p2 : Pos} (hC : FldOk X.K Γ f cs) (hx : PE X y (tVar i)) (he : PE X e (tE X.K Γ W fe)) (hs : swapsWith e (some (.Attribute y f p2)) pos.line X.env = pure false := by rfl) :
    PS X (.Assign [.Attribute y f p2] e pos) (tS X.K Γ W (sFldS f cs i fe)) := psI (ps_fld hx (sK he) hs) fun E σ H ⟨env, G, rel, a⟩ => by
  refine tX.bindS a (PostS.refl rel) fun d env1 v G1 H1 e1 p1 rr a1 => ?_
  try dsimp only at a1
  split at a1
  · rename_i b c ns ds e2
    split at a1
    · rename_i hc
      obtain ⟨q, eq, o⟩ := p1.rel.own e2
      cases o with
      | @obj C dx fs _ _ gq hq eC ra =>
        obtain ⟨k1, k2⟩ := hC c hc.1 C eC
        obtain ⟨z1, z2⟩ := put_of (f := f) rr ra
        refine ⟨_, eq, q, C, dx, fs, rfl, hq, k1, k2, by simpa using hc.2, ?_⟩
        have kk : Post X.K Γ env1 σ G1 H1 (env1.set i (.mu b (.obj c (putD f d (fs.map (·.1)) ds).1 (putD f d (fs.map (·.1)) ds).2))) G1 (upd H1 q (.ins C dx (putF f v fs))) := by
          refine p1.rel.chg e2 eq ?_
          rw [z1]
          exact .obj gq upd_same eC z2
        exact a1.nx _ _ _ _ rfl ((p1.trans kk).s)
    · exact absurd rfl a1.nb
  · exact absurd rfl a1.nb
end
end EV
set_option Elab.async false
set_option linter.all false
set_option maxRecDepth 100000
set_option maxHeartbeats 4000000
/-! Objects made, methods, properties, own operators. -/
namespace EV
open PySem PySem.Spec PyProof.Rows L2 PySem.NearX
/-! ### rules that say what is let out at the slots -/
section
variable {X : Cx} {CX : CXT} {k : Nat} {C f : Addr} {fd : FuncData} {ps : List Str} {sp : Sp} {E : L2.St → XK} {m : Str} {pos apos : Pos} {e o a b : Expr} {es : List Expr} {ta tb : TE} {t : TA}
theorem run_atS {pins : List (Addr × Obj)} {σ : L2.St} {H : Hp} {s : Shared} {Q : VK} {us : List Value} {vs : List V} {A : Around} (F : FnOk X.prog X.w X.K X.mg X.base CX k f fd ps sp) (hr : Room k A) (hfr : A.frames = X.A.frames) (hb : Binds X.K fd ps []) (hx : PassesAt CX X σ (E σ))
    (I : Inv X pins σ H s) (r : Vals vs us) (h : sp vs H Q (E σ)) : wpAny (model X.prog X.w) A (call (.ref f) us) (EP X pins σ Q) X.xe s := by
  have e0 : Env0 X.prog X.w X.K X.mg X.base A X.stack s H := by
    have e := I.env0
    exact ⟨by rw [hfr]; exact e.frames, e.mod, e.bs, e.bsz, e.funs, e.frf, e.hok, e.bare⟩
  have hl : (us ++ []).length = ps.length := by rw [List.append_nil, ← r.length]; exact F.len _ _ _ _ h
  refine wpAny_call (codeAny_mono (F.run A X.stack s H ⟨us, []⟩ us vs Q (E σ) hr e0 (by
    have := hb s us I.kIn hl
    rwa [List.append_nil] at this) r h) fun q s' hq => ?_)
  cases q with
  | error e => exact hx pins H s e s' I hq
  | ok fl =>
    cases fl with
    | ret u => exact I.after hq
    | next => exact False.elim hq
    | brk => exact False.elim hq
    | cont => exact False.elim hq
def tMethS (C : Addr) (m : Str) (sp : Sp) (E : L2.St → XK) (ta : TE) (t : TA) : TE := fun σ H Q => ta σ H fun x H1 => ∃ a dx fs, x = .ref a ∧ H1 a = some (.ins C dx fs) ∧ fs.lookup m = none ∧ t σ H1 fun vs H2 => sp (x :: vs) H2 Q (E σ)
theorem pe_methS {pl : Sem Bool} (he : PE X o ta) (c : Cls X.K C) (hm : Meth X.K C m f) (F : FnOk X.prog X.w X.K X.mg X.base CX k f fd ps sp) (hr : Room k X.A) (hb : Binds X.K fd ps []) (hx : ∀ σ, PassesAt CX X σ (E σ)) (ha : PA X (e :: es) t)
    (hst : starEach (e :: es) X.env = (false, eval e X.env) :: starEach es X.env := by rfl) (hpl : (backTo pos (starEach es X.env)).any (·.1) = false := by rfl)
    (ht : eval (.Call (.Attribute o m apos) (e :: es) [] pos) X.env = (do
      let ov ← eval o X.env
      standAt apos.atName
      let (f, first) ← holding [ov] (getMethod ov m pl)
      callWith pos f first (backTo pos (starEach (e :: es) X.env)) (backToKw pos (keywordEach [] X.env))) := by rfl) :
    PE X (.Call (.Attribute o m apos) (e :: es) [] pos) (tMethS C m sp E ta t) := by
  refine ⟨fun pins s σ H Q I h => ?_⟩
  refine PySem.W.methodCall_KW (pl := pl) (thn (he.run pins s σ H _ I h) fun u s1 ⟨x, H1, I1, rx, a, dx, fs, ex, ea, l, q⟩ => ?_) ht
  subst ex
  obtain rfl : u = Value.ref a := rx
  refine getmeth_ok I1 ea c hm l ?_
  refine PySem.W.callWith_K (first := [.ref a]) (h₀ := X.base) I.ok.mod.kin hm.kp (thn (ha.run pos pins s1 σ H1 _ I1 q) fun us s2 ⟨vs, H2, I2, r, q2⟩ => ⟨I2.kIn, ?_⟩) hst hpl
  exact run_atS (us := .ref a :: us) (vs := .ref a :: vs) F hr rfl hb (hx σ) I2 (.cons rfl r) q2
theorem pe_methS0 {pl : Sem Bool} (he : PE X o ta) (c : Cls X.K C) (hm : Meth X.K C m f) (F : FnOk X.prog X.w X.K X.mg X.base CX k f fd ps sp) (hr : Room k X.A) (hb : Binds X.K fd ps []) (hx : ∀ σ, PassesAt CX X σ (E σ))
    (ht : eval (.Call (.Attribute o m apos) [] [] pos) X.env = (do
      let ov ← eval o X.env
      standAt apos.atName
      let (f, first) ← holding [ov] (getMethod ov m pl)
      callWith pos f first (backTo pos (starEach [] X.env)) (backToKw pos (keywordEach [] X.env))) := by rfl) :
    PE X (.Call (.Attribute o m apos) [] [] pos) (tMethS C m sp E ta tNil) := by
  refine ⟨fun pins s σ H Q I h => ?_⟩
  refine PySem.W.methodCall_KW (pl := pl) (thn (he.run pins s σ H _ I h) fun u s1 ⟨x, H1, I1, rx, a, dx, fs, ex, ea, l, q⟩ => ?_) ht
  subst ex
  obtain rfl : u = Value.ref a := rx
  refine getmeth_ok I1 ea c hm l ?_
  exact PySem.W.callWith_K0 (first := [.ref a]) I1.kIn hm.kp (run_atS (us := [.ref a]) (vs := [.ref a]) F hr rfl hb (hx σ) I1 (.cons rfl .nil) q)
/-- t op y by t's own def -/
def tBinS (K : PySem.W.Frag) (C : Addr) (nm : String) (sp : Sp) (E : L2.St → XK) (ta tb : TE) : TE := fun σ H Q => ta σ H fun x H1 => tb σ H1 fun y H2 => ∃ (a dx : Addr) (fs : List (Str × V)), x = .ref a ∧ H2 a = some (.ins C dx fs) ∧ (TyX K H2 y (.ref C) ∨ ∃ T, TyX K H2 y (.type T) ∧ RightT K C nm T) ∧ sp [.ref a, y] H2 Q (E σ)
theorem pe_binS {op : Operator} (F : FnOk X.prog X.w X.K X.mg X.base CX k f fd ps sp) (hr : Room k X.A) (h : Has X.K C (PySem.dunder op.info.2) f fd ps) (hl : LeftO X.K C op.info.2) (hx : ∀ σ, PassesAt CX X σ (E σ)) (ha : PE X a ta) (hb : PE X b tb) :
    PE X (.BinOp a op b pos) (tBinS X.K C op.info.2 sp E ta tb) := by
  refine ⟨fun pins s σ H Q I hh => wpAny_BinOp (binT ha hb I hh fun v u s x y H I rx ry q => ?_)⟩
  obtain ⟨a, dx, fs, rfl, ea, hty, q⟩ := q
  obtain rfl : v = Value.ref a := rx
  obtain ⟨mA, O, _⟩ := ins_get I.hok ea
  obtain ⟨od, J, _⟩ := O.look
  have go : wpAny (model X.prog X.w) X.A (call (.ref f) [.ref a, u]) (PySem.W.CmpBack (EP X pins σ Q)) X.xe s := by
    refine wpAny_mono (run_atS F hr rfl h.b (hx σ) I (.cons (relRef a) (.cons ry .nil)) q) (fun v s' hv => ?_) fun _ _ z => z
    obtain ⟨z, H', I', rz, qz⟩ := hv
    cases v with
    | notImplemented => cases z <;> first | exact rz.elim | cases rz; done | (obtain ⟨_, e⟩ := rz; exact nomatch e)
    | _ => exact ⟨z, H', I', rz, qz⟩
  rcases hty with hty | ⟨T, hty, hT⟩
  · obtain ⟨P, kx, hP, _⟩ := kit_of I ry hty
    obtain ⟨m, hF⟩ := I.fr
    exact PySem.W.binop_K hF I.ok.mod.kin J (kx.ty _ _ I.kIn hP) hl.first h.at_ h.fn go
  · obtain ⟨P, kx, hP, _⟩ := kit_of I ry hty
    exact own_bin I.kIn J (kx.ty _ _ I.kIn hP) hl hT h.at_ h.fn go
end
/-! ### what kind of thing a value is -/
/-- the name of a datum's type; of an object its class -/
inductive Ty where
  | b (n : String) | o (c : Str)
def tyD : D → Ty
  | .non => .b "NoneType"
  | .bl _ => .b "bool"
  | .int _ => .b "int"
  | .str _ => .b "str"
  | .lst _ => .b "list"
  | .scr _ => .b "list"
  | .tup _ => .b "tuple"
  | .dic _ _ => .b "dict"
  | .obj c _ _ => .o c
/-- what isinstance and the operators ask of the class at C -/
structure ClsI (K : PySem.W.Frag) (C : Addr) : Prop where
  cls : Cls K C
  ha : PySem.W.findIn K (.ref C) "__class__" = some (some (.builtin "object.__class__"))
  hn : PySem.W.specialIn K (.builtin "object.__class__") "__get__" = some (some (.builtin "getset_descriptor.__get__"))
  ht : PySem.W.takesIn K (.builtin "object.__class__") = some true
  ob : PySem.W.mroIn K C (.type "object") = some true
def tyV' (Γ : Cls0) : Ty → Option Value
  | .b n => some (.type n)
  | .o c => (Γ c).map .ref
theorem Rp.ty {K : PySem.W.Frag} {Γ : Cls0} {H : Hp} (hI : ∀ c C, Γ c = some C → ∀ a dx fs, H a = some (.ins C dx fs) → ClsI K C) {v : V} {d : D} (h : Rp K Γ H v d) : ∃ t, tyV' Γ (tyD d) = some t ∧ TyX K H v t := by
  have lst : ∀ {a : Addr} {xs : List V}, SqL K H a xs → TyX K H (.ref a) (.type "list") := fun h1 => by
    rcases h1 with (h1 | ⟨o, h1⟩) | ⟨o, its, n, e, c, _⟩
    · exact .base (.lst h1)
    · exact .base (.frz h1)
    · exact .kList e c
  cases h with
  | non => exact ⟨_, rfl, .base .non⟩
  | bl b => exact ⟨_, rfl, .base (.bl b)⟩
  | int i => exact ⟨_, rfl, .base (.int i)⟩
  | str x => exact ⟨_, rfl, .base (.str x)⟩
  | lst h1 h2 => exact ⟨_, rfl, .base (.lst h1)⟩
  | scr h1 => exact ⟨_, rfl, lst h1⟩
  | tup h1 h2 =>
    rcases h1 with (h1 | ⟨o, h1⟩) | ⟨o, its, n, e, c, _⟩
    · exact ⟨_, rfl, .base (.tup h1)⟩
    · exact ⟨_, rfl, .fTuple h1⟩
    · exact ⟨_, rfl, .kTuple e c⟩
  | dic h1 h2 => exact ⟨_, rfl, .base (.dK h1)⟩
  | @obj a C dx fs c ds h1 h2 h3 =>
    have I := hI c C h2 a dx fs h1
    exact ⟨.ref C, by show (Γ c).map Value.ref = _; rw [h2]; rfl, .base (.ins h1 I.cls I.ha I.hn I.ht I.ob)⟩
/-- every class of the text is so -/
def Clss (K : PySem.W.Frag) (Γ : Cls0) : Prop := ∀ c C, Γ c = some C → (∃ dx fs a, ∃ H : Hp, H a = some (HO.ins C dx fs)) → ClsI K C
/-- isinstance(x, T): ans says of each kind of thing whether it is one -/
def IsOk (K : PySem.W.Frag) (Γ : Cls0) (cv : Value) (ans : Ty → Option Bool) : Prop := ∀ t b, ans t = some b → ∀ u, tyV' Γ t = some u → PySem.W.kitOne K u cv = some b ∧ ∀ c, t = .o c → ∀ C, Γ c = some C → ClsI K C
theorem tyV_of {K : PySem.W.Frag} {Γ : Cls0} {H : Hp} {v : V} {d : D} (h : Rp K Γ H v d) : ∃ u, tyV' Γ (tyD d) = some u := by
  cases h with
  | obj h1 h2 h3 => exact ⟨_, by show (Γ _).map Value.ref = _; rw [h2]; rfl⟩
  | _ => exact ⟨_, rfl⟩
def hIs (ans : Ty → Option Bool) : SEnv → Rv → Option Rv := h1 fun d => (ans (tyD d)).map .bl
theorem r1_is {K : PySem.W.Frag} {Γ : Cls0} {c : V} {cv : Value} {ans : Ty → Option Bool} (hc : ClsV c cv) (h : IsOk K Γ cv ans) : R1ok K Γ (fun x H Q => rIsi K [x, c] H Q) (hIs ans) := R1ok.pure fun H x a z Q ha e q => by
  obtain ⟨b, eb, rfl⟩ := Option.map_eq_some_iff.mp e
  obtain ⟨u, hu⟩ := tyV_of ha
  obtain ⟨hk, hcl⟩ := h _ _ eb u hu
  have tx : TyX K H x u := by
    cases ha with
    | @obj p C dx fs c' ds h1 h2 h3 =>
      have I := hcl c' rfl C h2
      have : u = .ref C := by
        have e : (Γ c').map Value.ref = some u := hu
        rw [h2] at e
        exact (Option.some.inj e).symm
      subst this
      exact .base (.ins h1 I.cls I.ha I.hn I.ht I.ob)
    | non => cases hu; exact .base .non
    | bl b => cases hu; exact .base (.bl b)
    | int i => cases hu; exact .base (.int i)
    | str y => cases hu; exact .base (.str y)
    | lst h1 h2 => cases hu; exact .base (.lst h1)
    | scr h1 =>
      cases hu
      rcases h1 with (h1 | ⟨o, h1⟩) | ⟨o, its, n, e, c, _⟩
      · exact .base (.lst h1)
      · exact .base (.frz h1)
      · exact .kList e c
    | tup h1 h2 =>
      cases hu
      rcases h1 with (h1 | ⟨o, h1⟩) | ⟨o, its, n, e, c, _⟩
      · exact .base (.tup h1)
      · exact .fTuple h1
      · exact .kTuple e c
    | dic h1 h2 => cases hu; exact .base (.dK h1)
  exact ⟨x, c, u, cv, b, rfl, hc, tx, hk, q _ fun G => .bl b⟩
section
variable {X : Cx} {Γ : Cls0} {W : WX} {pos p : Pos} {e e2 : Expr} {f : SEnv → Out Rv} {ans : Ty → Option Bool} {c : V} {cv : Value}
theorem sE_is (hg : Gl X "isinstance") (hm : X.mg "isinstance" = none) (hc : ClsV c cv) (h : IsOk X.K Γ cv ans) (he : PE X e (tE X.K Γ W f)) (h2 : PE X e2 (tC c)) (hs : starEach [e, e2] X.env = (false, eval e X.env) :: starEach [e2] X.env := by rfl)
    (hs2 : starEach (e2 :: []) X.env = (false, eval e2 X.env) :: starEach [] X.env := by rfl) (hpl : (backTo pos (starEach [e2] X.env)).any (·.1) = false := by rfl) : PE X (.Call (.Name "isinstance" p) [e, e2] [] pos) (tE X.K Γ W (eU (hIs ans) f)) :=
  peI (pe_callB call_isi hg hm (by decide +kernel) (pa_cons he (pa_cons h2 pa_nil hs2) hs) (by decide) (by decide) hs hpl) fun σ H Q z => eU_run (r1_is hc h) z
end
/-! ### C(e, ..) -/
def noIo (ms : List Bool) : Bool := ms.all (!·)
def makeF (c : Str) (g : List D → Out D) (ms : List Bool) (rs : List Rv) (env : SEnv) : Out Rv := match ctsOf env ms rs with
  | none => .bad
  | some ds => match g (.obj c [] [] :: ds) with
    | .ok .non (.mu _ (.obj c' ns vs) :: _) => .ok (.f (.obj c' ns vs)) env
    | .ex c d _ => .ex c d env
    | _ => .bad
def eMake (c : Str) (g : List D → Out D) (ms : List Bool) (fa : SEnv → Out (List Rv)) : SEnv → Out Rv := eB fa fun rs env => makeF c g ms rs env
section
variable {K : PySem.W.Frag} {Γ : Cls0} {env : SEnv} {σ : L2.St} {H0 G H : Hp} {vs : List V} {rs : List Rv} {ms : List Bool}
theorem no_ptrs : ∀ {ms : List Bool} {rs : List Rv} {ds : List D}, noIo ms = true → ctsOf env ms rs = some ds → ptrs rs = []
  | [], [], _, _, _ => rfl
  | false :: ms, .v d :: rs, ds, h, c => by
    rw [ctsOf] at c
    obtain ⟨es, e, rfl⟩ := Option.map_eq_some_iff.mp c
    exact no_ptrs (ms := ms) (rs := rs) (by simpa [noIo] using h) e
  | true :: _, _, _, h, _ => by simp [noIo] at h
  | [], _ :: _, _, _, c => by simp [ctsOf] at c
  | false :: _, [], _, _, c => by simp [ctsOf] at c
  | false :: _, .p _ :: _, _, _, c => by simp [ctsOf] at c
  | false :: _, .f _ :: _, _, _, c => by simp [ctsOf] at c
theorem no_ow (h : noIo ms = true) {ds : List D} {τ : L2.St} {p : Addr} : ¬ Ow (mkE ms ds) τ p := fun ⟨i, ⟨b, d, e⟩, _⟩ => by
  obtain ⟨d', _, k | k⟩ := mkE_get e
  · have := List.all_eq_true.mp h true (List.mem_of_getElem? k.1)
    cases this
  · cases k.2
theorem make_sp {W : WX} {env0 : SEnv} {G0 H0' : Hp} {c : Str} {C : Addr} {g : List D → Out D} {Q : VK} (hC : Γ c = some C) (hms : noIo ms = true) (p : Post K Γ env0 σ G0 H0' env G H) (rv : RvA K Γ env σ H0 G H vs rs)
    (a : At K Γ W σ env0 G0 H0' (RE K Γ) (makeF c g ms rs env) Q) (x dx : Addr) (nx : H x = none) (nd : H dx = none) (ne : dx ≠ x) :
    spF K Γ (true :: ms) g (.ref x :: vs) (upd (upd H dx (.own x)) x (.ins C dx [])) (fun v H2 => v = .non ∧ Q (.ref x) H2) (WE W σ) := by
  unfold makeF at a
  cases hc : ctsOf env ms rs with
  | none => simp only [hc] at a; exact absurd rfl a.nb
  | some ds =>
    simp only [hc] at a
    obtain ⟨l1, l2⟩ := cts_len hc
    have gx : ∀ {b : Addr}, H b = none → G b = none := fun {b} h => by
      cases z : G b with
      | none => rfl
      | some u => rw [p.rel.sub _ _ z] at h; cases h
    have s1 : Same H (upd (upd H dx (.own x)) x (.ins C dx [])) := by
      refine (snew (Same.refl H) nd).trans (snew (Same.refl _) ?_)
      rw [upd_ne (Ne.symm ne)]; exact nx
    have k1 : Post K Γ env σ G H env G (upd (upd H dx (.own x)) x (.ins C dx [])) := p.rel.grow s1 (Same.refl _) (p.rel.sub.trans s1) fun b z => .inl z
    have hp := no_ptrs hms hc
    have ra := args_rel k1.rel (paired_imp (fun _ _ h => RvR.step h k1) rv) hc (by rw [hp]; exact .nil)
    have own0 : Own K Γ G (upd (upd H dx (.own x)) x (.ins C dx [])) x (.obj c [] []) := .obj (gx nx) upd_same hC .nil
    have rel0 : Rel K Γ (mkE (true :: ms) (.obj c [] [] :: ds)) ((V.ref x :: vs).map some) G (upd (upd H dx (.own x)) x (.ins C dx [])) := by
      refine ⟨by simp [mkE, ra.len], ra.sub, fun i s o e1 e2 => ?_, fun i j q h1 h2 => ?_⟩
      · cases i with
        | zero =>
          simp [mkE] at e1 e2
          subst e1 e2
          exact ⟨x, rfl, own0⟩
        | succ i => exact ra.sl i s o (by simpa [mkE] using e1) (by simpa using e2)
      · have no : ∀ {i : Nat}, ¬ OwAt (mkE (true :: ms) (.obj c [] [] :: ds)) ((V.ref x :: vs).map some) (i + 1) q := fun {i} ⟨⟨b, d, z1⟩, z2⟩ => no_ow hms ⟨i, ⟨b, d, by simpa [mkE] using z1⟩, z2⟩
        cases i with
        | zero =>
          cases j with
          | zero => rfl
          | succ j => exact absurd h2 no
        | succ i => exact absurd h1 no
    have owx : ∀ q, Ow (mkE (true :: ms) (.obj c [] [] :: ds)) ((V.ref x :: vs).map some) q → q = x := fun q ⟨i, ⟨b, d, z1⟩, z2⟩ => by
      cases i with
      | zero => simp at z2; exact z2.symm
      | succ i => exact absurd ⟨i, ⟨b, d, by simpa [mkE] using z1⟩, z2⟩ (no_ow hms (ds := ds) (τ := vs.map some))
    have nox : ¬ Ow env σ x := fun z => (p.rel.ow z).2 nx
    have fin : ∀ {ea : SEnv} {G' H' : Hp}, Post K Γ (mkE (true :: ms) (.obj c [] [] :: ds)) ((V.ref x :: vs).map some) G (upd (upd H dx (.own x)) x (.ins C dx [])) ea G' H' → Post K Γ env σ G H env G' H' := fun {ea G' H'} q => by
      refine ⟨k1.rel.frame q.fr q.rel.sub fun b z => by rw [owx b z]; exact nox, Ks.refl _, k1.fr.trans q.fr fun b z => ?_⟩
      rw [owx b z]
      exact .inr nx
    refine ⟨.obj c [] [] :: ds, G, by simp [l1], by simp [Paired.length rv, l2], rel0, fun z => ?_, fun r ea v G' H' e q hd => ?_, fun c' d ea cls dx' G' H' e q x' => ?_⟩
    · rw [z] at a; exact a.nb rfl
    · rw [e] at a
      split at a
      · rename_i c' ns vs' _ ez
        cases ez
        cases hd
        refine ⟨rfl, a.run (.f (.obj c' ns vs')) (.ref x) env G' H' rfl (p.trans (fin q)) ⟨x, rfl, ?_, nox, p.dom nx⟩⟩
        obtain ⟨a', e1, o⟩ := q.rel.own (i := 0) rfl
        cases e1
        exact o
      · rename_i ez; cases ez
      · exact absurd rfl a.nb
    · rw [e] at a
      exact a.ex c' d env cls dx' G' H' rfl (p.trans (fin q)) x'
end
section
variable {X : Cx} {Γ : Cls0} {W : WX} {pos p apos : Pos} {e o : Expr} {es : List Expr} {fo : SEnv → Out Rv} {g : SEnv → Out (List Rv)} {gd : List D → Out D} {ms : List Bool} {k : Nat} {fa C : Addr} {fd : FuncData} {ps : List Str} {x m : Str} {c : Str}
theorem sE_make (hC : Γ c = some C) (hms : noIo ms = true) (M : Mk X.K C fa) (F : FnOk X.prog X.w X.K X.mg X.base (L2.CX X.prog X.w) k fa fd ps (spF X.K Γ (true :: ms) gd)) (hr : Room (k + 1) X.A) (hg : Gl X x) (hm : X.mg x = some (.ref C)) (hb : Binds X.K fd ps []) (hx : ∀ σ, PassesAt (L2.CX X.prog X.w) X σ (WE W σ))
    (ha : PA X (e :: es) (tAr X.K Γ W g)) (hdb : (x == ("__debug__" : Str)) = false := by decide) (he : starEach (e :: es) X.env = (false, eval e X.env) :: starEach es X.env := by rfl) (hpl : (backTo pos (starEach es X.env)).any (·.1) = false := by rfl) :
    PE X (.Call (.Name x p) (e :: es) [] pos) (tE X.K Γ W (eMake c gd ms g)) :=
  peI (pe_makeS M F hr hg hm hb hx ha hdb he hpl) fun σ H Q ⟨env, G, rel, a⟩ => tX.bind a (Post.refl rel) fun rs env1 vs G1 H1 e1 p1 rr a1 => fun y dx ny nd ne => make_sp hC hms p1 rr a1 y dx ny nd ne
/-- o.m(e, ..), o an object of the class c -/
def eMeth (c : Str) (m : Str) (gd : List D → Out D) (ms : List Bool) (fo : SEnv → Out Rv) (fa : SEnv → Out (List Rv)) : SEnv → Out Rv := eB (eK fo) fun d env => match d with
  | .obj c' ns _ => if c' = c ∧ m ∉ ns then eB fa (fun rs env => callF gd (false :: ms) (.v d :: rs) env) env else .bad
  | _ => .bad
theorem not_in : ∀ {fs : List (Str × V)} {m : Str}, m ∉ fs.map (·.1) → fs.lookup m = none
  | [], _, _ => rfl
  | (n, v) :: fs, m, h => by
    have h1 : m ≠ n := fun z => h (by rw [z]; exact List.mem_cons_self ..)
    have h2 : m ∉ fs.map (·.1) := fun z => h (List.mem_cons_of_mem _ z)
    have : (m == n) = false := by rw [beq_eq_false_iff_ne]; exact h1
    simp [List.lookup, this, not_in h2]
theorem meth_run {K : PySem.W.Frag} {σ : L2.St} {H : Hp} {Q : VK} (hC : Γ c = some C) (z : tE K Γ W (eMeth c m gd ms fo g) σ H Q) : tMethS C m (spF K Γ (false :: ms) gd) (WE W) (tK K Γ W (eK fo)) (tAr K Γ W g) σ H Q := by
  obtain ⟨env, G, rel, a⟩ := z
  refine tX.bind a (Post.refl rel) fun d env1 v G1 H1 e1 p1 rr a1 => ?_
  try dsimp only at a1
  split at a1
  · rename_i c' ns ds
    split at a1
    · rename_i hc
      have rr0 := rr
      cases rr with
      | @obj q C' dx fs _ _ h1 h2 h3 =>
        have eC : C' = C := by rw [hc.1] at h2; rw [hC] at h2; exact (Option.some.inj h2).symm
        subst eC
        refine ⟨q, dx, fs, rfl, p1.rel.sub _ _ h1, not_in hc.2, tX.bind a1 p1 fun rs env2 vs G2 H2 e2 p2 rr2 a2 => ?_⟩
        exact call_sp (H0 := H1) (p1.trans p2) (Paired.cons (b := Rv.v _) (show RvR K Γ env2 σ H1 G2 H2 _ (.v _) from Rp.on p2.fr.g rr0) rr2) a2
    · exact absurd rfl a1.nb
  · exact absurd rfl a1.nb
theorem sE_meth {pl : Sem Bool} (hC : Γ c = some C) (he : PE X o (tE X.K Γ W fo)) (cl : Cls X.K C) (hm : Meth X.K C m fa) (F : FnOk X.prog X.w X.K X.mg X.base (L2.CX X.prog X.w) k fa fd ps (spF X.K Γ (false :: ms) gd)) (hr : Room k X.A) (hb : Binds X.K fd ps []) (hx : ∀ σ, PassesAt (L2.CX X.prog X.w) X σ (WE W σ)) (ha : PA X (e :: es) (tAr X.K Γ W g))
    (hst : starEach (e :: es) X.env = (false, eval e X.env) :: starEach es X.env := by rfl) (hpl : (backTo pos (starEach es X.env)).any (·.1) = false := by rfl)
    (ht : eval (.Call (.Attribute o m apos) (e :: es) [] pos) X.env = (do
      let ov ← eval o X.env
      standAt apos.atName
      let (f, first) ← holding [ov] (getMethod ov m pl)
      callWith pos f first (backTo pos (starEach (e :: es) X.env)) (backToKw pos (keywordEach [] X.env))) := by rfl) :
    PE X (.Call (.Attribute o m apos) (e :: es) [] pos) (tE X.K Γ W (eMeth c m gd ms fo g)) := peI (pe_methS (sK he) cl hm F hr hb hx ha hst hpl ht) fun σ H Q z => meth_run hC z
theorem sE_meth0 {pl : Sem Bool} (hC : Γ c = some C) (he : PE X o (tE X.K Γ W fo)) (cl : Cls X.K C) (hm : Meth X.K C m fa) (F : FnOk X.prog X.w X.K X.mg X.base (L2.CX X.prog X.w) k fa fd ps (spF X.K Γ (false :: []) gd)) (hr : Room k X.A) (hb : Binds X.K fd ps []) (hx : ∀ σ, PassesAt (L2.CX X.prog X.w) X σ (WE W σ))
    (ht : eval (.Call (.Attribute o m apos) [] [] pos) X.env = (do
      let ov ← eval o X.env
      standAt apos.atName
      let (f, first) ← holding [ov] (getMethod ov m pl)
      callWith pos f first (backTo pos (starEach [] X.env)) (backToKw pos (keywordEach [] X.env))) := by rfl) :
    PE X (.Call (.Attribute o m apos) [] [] pos) (tE X.K Γ W (eMeth c m gd [] fo eANil)) := peI (pe_methS0 (sK he) cl hm F hr hb hx ht) fun σ H Q z => by
  have k := meth_run hC z
  obtain ⟨env, G, rel, a⟩ := k
  refine ⟨env, G, rel, a.imp fun v H1 ⟨q, dx, fs, e1, e2, e3, k2⟩ => ⟨q, dx, fs, e1, e2, e3, ?_⟩⟩
  obtain ⟨env2, G2, rel2, a2⟩ := k2
  exact a2.run [] [] env2 G2 H1 rfl (Post.refl rel2) .nil
end
end EV
set_option Elab.async false
set_option linter.all false
set_option maxRecDepth 100000
set_option maxHeartbeats 4000000
/-! Properties, own operators, raise, try. -/
namespace EV
open PySem PySem.Spec PyProof.Rows L2 PySem.NearX
section
variable {K : PySem.W.Frag} {Γ : Cls0} {env : SEnv} {σ : L2.St} {H0 G H : Hp} {vs : List V} {ds : List D} {ms : List Bool}
theorem rpa_get : ∀ {vs : List V} {ds : List D} {i : Nat} {d : D}, RpA K Γ H vs ds → ds[i]? = some d → ∃ v, vs[i]? = some v ∧ Rp K Γ H v d := fun h e => RpA.to h e
theorem rel_pure (hms : noIo ms = true) (hl : ds.length = ms.length) (h : RpA K Γ H vs ds) : Rel K Γ (mkE ms ds) (vs.map some) H H := by
  refine ⟨by rw [mkE_len hl, List.length_map, h.len, hl], Same.refl H, fun i s o e1 e2 => ?_, fun i j p h1 _ => absurd ⟨i, h1⟩ (no_ow hms)⟩
  obtain ⟨d, ed, k | k⟩ := mkE_get e1
  · have := List.all_eq_true.mp hms true (List.mem_of_getElem? k.1)
    cases this
  · obtain ⟨v, ev, hv⟩ := rpa_get h ed
    rw [List.getElem?_map, ev] at e2
    cases e2
    rw [k.2]
    exact hv
theorem pure_sp {g : List D → Out D} {r : D} {ea : SEnv} {Q : VK} {E : XK} (hms : noIo ms = true) (hl : ds.length = ms.length) (h : RpA K Γ H vs ds) (hg : g ds = .ok r ea) (q : ∀ v H', Same H H' → Rp K Γ H' v r → Q v H') : spF K Γ ms g vs H Q E := by
  refine ⟨ds, H, hl, by rw [h.len]; exact hl, rel_pure hms hl h, by rw [hg]; exact (fun z => nomatch z), fun r' env' v G' H' e p hd => ?_, fun c d env' cls dx G' H' e p x => by rw [hg] at e; cases e⟩
  rw [hg] at e
  cases e
  exact q v H' (fun b o e => p.fr.h b o (no_ow hms) e) (hd.on p.rel.sub)
/-- the heap grows beside everything -/
theorem Rel.more (r : Rel K Γ env σ G H) {H' : Hp} (s : Same H H') : Post K Γ env σ G H env G H' := r.grow s (Same.refl _) (r.sub.trans s) fun _ z => .inl z
end
def okD : Out D → Option D
  | .ok r _ => some r
  | _ => none
theorem okD_inv {o : Out D} {r : D} (h : okD o = some r) : ∃ e, o = .ok r e := by
  cases o with
  | ok a e => cases h; exact ⟨e, rfl⟩
  | _ => cases h
/-! ### properties -/
def eProp (c : Str) (gd : List D → Out D) (fo : SEnv → Out Rv) : SEnv → Out Rv := eB (eK fo) fun d env => match d with
  | .obj c' _ _ => if c' = c then (match callF gd [false] [.v d] env with
    | .ok r e => .ok r e
    | _ => .bad) else .bad
  | _ => .bad
section
variable {X : Cx} {Γ : Cls0} {W : WX} {pos p0 : Pos} {e a b : Expr} {fo fa fb : SEnv → Out Rv} {gd : List D → Out D} {k : Nat} {ga C pr : Addr} {fd : FuncData} {ps : List Str} {c : Str} {f : Str}
theorem passF {X : Cx} {P : Program} {w : World} : Passes (L2.CX P w) X (fun _ _ _ => False) := fun _ _ _ _ _ _ _ ⟨_, _, _, _, _, _, _, _, _, _, _, _, z⟩ => z.elim
theorem sE_prop (hC : Γ c = some C) (he : PE X e (tE X.K Γ W fo)) (cl : Cls X.K C) (hp : PropOf X.K C f pr ga) (F : FnOk X.prog X.w X.K X.mg X.base (L2.CX X.prog X.w) k ga fd ps (spF X.K Γ [false] gd)) (hr : Room (k + 1) X.A) (hb : Binds X.K fd ps [])
    (hab : attributeBase e f X.env (eval e X.env) = eval e X.env := by rfl) : PE X (.Attribute e f pos) (tE X.K Γ W (eProp c gd fo)) :=
  peI (pe_prop (E := fun _ _ _ => False) (sK he) cl hp F hr hb .nil passF hab) fun σ H Q ⟨env, G, rel, at_⟩ => by
  refine tX.bind at_ (Post.refl rel) fun d env1 v G1 H1 e1 p1 rr a1 => ?_
  try dsimp only at a1
  split at a1
  · rename_i c' ns ds
    split at a1
    · rename_i hc
      have rr0 := rr
      cases rr with
      | @obj q C' dx fs _ _ h1 h2 h3 =>
        have eC : C' = C := by rw [hc] at h2; rw [hC] at h2; exact (Option.some.inj h2).symm
        subst eC
        refine ⟨q, dx, fs, rfl, p1.rel.sub _ _ h1, ?_⟩
        have a2 : At X.K Γ WF σ env G H (RE X.K Γ) (callF gd [false] [.v (.obj c' (fs.map (·.1)) ds)] env1) Q := by
          cases z : callF gd [false] [.v (.obj c' (fs.map (·.1)) ds)] env1 with
          | bad => simp only [z] at a1; exact absurd rfl a1.nb
          | ex _ _ _ => simp only [z] at a1; exact absurd rfl a1.nb
          | ok r env2 =>
            simp only [z] at a1
            exact ⟨(fun z => nomatch z), a1.ok, fun _ _ _ _ _ _ _ z => nomatch z⟩
        exact call_sp (W := WF) (H0 := H) p1 (Paired.cons (b := Rv.v _) (show RvR X.K Γ env1 σ H G1 H1 _ (.v _) from rr0) .nil) a2
    · exact absurd rfl a1.nb
  · exact absurd rfl a1.nb
/-! ### len, in, ==, != by own defs -/
def hLenO (c : Str) (gd : List D → Out D) : SEnv → Rv → Option Rv := fun env r => match dr env r with
  | some (.obj c' ns ds) => if c' = c then (match okD (gd [.obj c' ns ds]) with
    | some (.int n) => if 0 ≤ n ∧ n.toNat ≤ sizeLine then some (.v (.int n)) else none
    | _ => none) else none
  | _ => none
theorem r1_lenO {K : PySem.W.Frag} (hC : Γ c = some C) : R1ok K Γ (fun x H Q => rLenO C (spF K Γ [false] gd) (fun _ _ _ => False) [x] H Q) (hLenO c gd) := by
  intro σ env G H HA x r1 r Q rel hx e q
  unfold hLenO at e
  split at e
  · rename_i c' ns ds ed
    split at e
    · rename_i hc
      split at e
      · rename_i n hn
        split at e
        · rename_i hz
          cases e
          obtain ⟨ea, he⟩ := okD_inv hn
          have hr := hx.rd rel ed
          have hr0 := hr
          cases hr with
          | @obj q' C' dx fs _ _ h1 h2 h3 =>
            have eC : C' = C := by rw [hc] at h2; rw [hC] at h2; exact (Option.some.inj h2).symm
            subst eC
            refine ⟨q', dx, fs, rfl, h1, pure_sp (ms := [false]) rfl rfl (.cons hr0 .nil) he fun v H' s hv => ?_⟩
            cases hv
            refine ⟨n.toNat, by rw [Int.toNat_of_nonneg hz.1], hz.2, ?_⟩
            rw [Int.toNat_of_nonneg hz.1]
            exact q _ G H' (rel.more s) (Rp.int n)
        · cases e
      · cases e
    · cases e
  · cases e
def hInO (neg : Bool) (c : Str) (gd : List D → Out D) : SEnv → Rv → Rv → Option Rv := fun env r1 r2 => match dr env r1, dr env r2 with
  | some d, some (.obj c' ns ds) => if c' = c then (match okD (gd [.obj c' ns ds, d]) with
    | some (.bl b) => some (.v (.bl (if neg = true then !b else b)))
    | _ => none) else none
  | _, _ => none
theorem r2_inO {K : PySem.W.Frag} {neg : Bool} (hC : Γ c = some C) : R2ok K Γ (rInO C (spF K Γ [false, false] gd) (fun _ _ _ => False) (fun b => if neg = true then !b else b)) (hInO neg c gd) := by
  intro σ env G H HA HB x y r1 r2 r Q rel hx hy e q
  unfold hInO at e
  split at e
  · rename_i d c' ns ds ed1 ed2
    split at e
    · rename_i hc
      split at e
      · rename_i b hn
        cases e
        obtain ⟨ea, he⟩ := okD_inv hn
        have hr := hy.rd rel ed2
        have hr0 := hr
        cases hr with
        | @obj q' C' dx fs _ _ h1 h2 h3 =>
          have eC : C' = C := by rw [hc] at h2; rw [hC] at h2; exact (Option.some.inj h2).symm
          subst eC
          refine ⟨q', dx, fs, rfl, h1, pure_sp (ms := [false, false]) rfl rfl (.cons hr0 (.cons (hx.rd rel ed1) .nil)) he fun v H' s hv => ?_⟩
          cases hv
          exact ⟨b, rfl, q _ G H' (rel.more s) (Rp.bl _)⟩
      · cases e
    · cases e
  · cases e
/-- what a right side may be, for an own == -/
def NfOk (K : PySem.W.Frag) (Γ : Cls0) (C : Addr) (okt : Ty → Bool) : Prop := ∀ t, okt t = true → ∀ u, tyV' Γ t = some u → PySem.W.notFirst K C u = true ∧ ∀ c, t = .o c → ∀ C, Γ c = some C → ClsI K C
theorem rp_tyx {K : PySem.W.Frag} {H : Hp} {v : V} {d : D} {u : Value} (h : Rp K Γ H v d) (hu : tyV' Γ (tyD d) = some u) (hcl : ∀ c, tyD d = .o c → ∀ C, Γ c = some C → ClsI K C) : TyX K H v u := by
  cases h with
  | @obj p C dx fs c' ds h1 h2 h3 =>
    have I := hcl c' rfl C h2
    have : u = .ref C := by
      have e : (Γ c').map Value.ref = some u := hu
      rw [h2] at e
      exact (Option.some.inj e).symm
    subst this
    exact .base (.ins h1 I.cls I.ha I.hn I.ht I.ob)
  | non => cases hu; exact .base .non
  | bl b => cases hu; exact .base (.bl b)
  | int i => cases hu; exact .base (.int i)
  | str y => cases hu; exact .base (.str y)
  | lst h1 h2 => cases hu; exact .base (.lst h1)
  | scr h1 =>
    cases hu
    rcases h1 with (h1 | ⟨o, h1⟩) | ⟨o, its, n, e, c, _⟩
    · exact .base (.lst h1)
    · exact .base (.frz h1)
    · exact .kList e c
  | tup h1 h2 =>
    cases hu
    rcases h1 with (h1 | ⟨o, h1⟩) | ⟨o, its, n, e, c, _⟩
    · exact .base (.tup h1)
    · exact .fTuple h1
    · exact .kTuple e c
  | dic h1 h2 => cases hu; exact .base (.dK h1)
def hEqO (neg : Bool) (c : Str) (okt : Ty → Bool) (gd : List D → Out D) : SEnv → Rv → Rv → Option Rv := fun env r1 r2 => match dr env r1, dr env r2 with
  | some (.obj c' ns ds), some d => if c' = c ∧ okt (tyD d) = true then (match okD (gd [.obj c' ns ds, d]) with
    | some (.bl b) => some (.v (.bl (if neg = true then !b else b)))
    | _ => none) else none
  | _, _ => none
theorem r2_eqO {K : PySem.W.Frag} {neg : Bool} {okt : Ty → Bool} (hC : Γ c = some C) (hN : NfOk K Γ C okt) : R2ok K Γ (rEqO K C (spF K Γ [false, false] gd) (fun _ _ _ => False) (fun b => if neg = true then !b else b)) (hEqO neg c okt gd) := by
  intro σ env G H HA HB x y r1 r2 r Q rel hx hy e q
  unfold hEqO at e
  split at e
  · rename_i c' ns ds d ed1 ed2
    split at e
    · rename_i hc
      split at e
      · rename_i b hn
        cases e
        obtain ⟨ea, he⟩ := okD_inv hn
        have hr := hx.rd rel ed1
        have hr0 := hr
        have hy' := hy.rd rel ed2
        obtain ⟨u, hu⟩ := tyV_of hy'
        obtain ⟨hnf, hcl⟩ := hN _ hc.2 u hu
        cases hr with
        | @obj q' C' dx fs _ _ h1 h2 h3 =>
          have eC : C' = C := by rw [hc.1] at h2; rw [hC] at h2; exact (Option.some.inj h2).symm
          subst eC
          refine ⟨q', dx, fs, u, rfl, h1, rp_tyx hy' hu hcl, hnf, pure_sp (ms := [false, false]) rfl rfl (.cons hr0 (.cons hy' .nil)) he fun v H' s hv => ?_⟩
          cases hv
          exact ⟨b, rfl, q _ G H' (rel.more s) (Rp.bl _)⟩
      · cases e
    · cases e
  · cases e
/-- rules side by side -/
def hOr2 (h h' : SEnv → Rv → Rv → Option Rv) : SEnv → Rv → Rv → Option Rv := fun env r1 r2 => match h env r1 r2 with
  | some r => some r
  | none => h' env r1 r2
theorem r2_alt {K : PySem.W.Frag} {rr rr' : R2} {h h' : SEnv → Rv → Rv → Option Rv} (a : R2ok K Γ rr h) (b : R2ok K Γ rr' h') : R2ok K Γ (fun x y H Q => rr x y H Q ∨ rr' x y H Q) (hOr2 h h') := by
  intro σ env G H HA HB x y r1 r2 r Q rel h1 h2 e q
  unfold hOr2 at e
  split at e
  · rename_i z; cases e; exact .inl (a σ env G H HA HB x y r1 r2 _ Q rel h1 h2 z q)
  · exact .inr (b σ env G H HA HB x y r1 r2 _ Q rel h1 h2 e q)
def hOr1 (h h' : SEnv → Rv → Option Rv) : SEnv → Rv → Option Rv := fun env r => match h env r with
  | some r => some r
  | none => h' env r
theorem r1_alt {K : PySem.W.Frag} {rr rr' : V → Hp → VK → Prop} {h h' : SEnv → Rv → Option Rv} (a : R1ok K Γ rr h) (b : R1ok K Γ rr' h') : R1ok K Γ (fun x H Q => rr x H Q ∨ rr' x H Q) (hOr1 h h') := by
  intro σ env G H HA x r1 r Q rel h1 e q
  unfold hOr1 at e
  split at e
  · rename_i z; cases e; exact .inl (a σ env G H HA x r1 _ Q rel h1 z q)
  · exact .inr (b σ env G H HA x r1 _ Q rel h1 e q)
/-! ### t & y, t * y by own defs -/
def RtOk (K : PySem.W.Frag) (Γ : Cls0) (C : Addr) (nm : String) (okt : Ty → Bool) : Prop := ∀ t, okt t = true → ∀ u, tyV' Γ t = some u → (u = .ref C ∨ ∃ T, u = .type T ∧ RightT K C nm T) ∧ ∀ c, t = .o c → ∀ C, Γ c = some C → ClsI K C
def eBinO (c : Str) (okt : Ty → Bool) (gd : List D → Out D) (fa fb : SEnv → Out Rv) : SEnv → Out Rv := eB (eK fa) fun d => eB (eK fb) fun d2 env => match d with
  | .obj c' _ _ => if c' = c ∧ okt (tyD d2) = true then callF gd [false, false] [.v d, .v d2] env else .bad
  | _ => .bad
theorem sE_binO {op : Operator} {okt : Ty → Bool} (hC : Γ c = some C) (hR : RtOk X.K Γ C op.info.2 okt) (F : FnOk X.prog X.w X.K X.mg X.base (L2.CX X.prog X.w) k ga fd ps (spF X.K Γ [false, false] gd)) (hr : Room k X.A) (h : Has X.K C (PySem.dunder op.info.2) ga fd ps) (hl : LeftO X.K C op.info.2)
    (hx : ∀ σ, PassesAt (L2.CX X.prog X.w) X σ (WE W σ)) (ha : PE X a (tE X.K Γ W fa)) (hb : PE X b (tE X.K Γ W fb)) : PE X (.BinOp a op b pos) (tE X.K Γ W (eBinO c okt gd fa fb)) :=
  peI (pe_binS F hr h hl hx (sK ha) (sK hb)) fun σ H Q ⟨env, G, rel, at_⟩ => by
  refine tX.bind at_ (Post.refl rel) fun d env1 x G1 H1 e1 p1 rr a1 => tX.bind a1 p1 fun d2 env2 y G2 H2 e2 p2 rr2 a2 => ?_
  try dsimp only at a2
  have rr' := Rp.on p2.fr.g rr
  split at a2
  · rename_i c' ns ds
    split at a2
    · rename_i hc
      have rr0 := rr'
      cases rr' with
      | @obj q C' dx fs _ _ h1 h2 h3 =>
        have eC : C' = C := by rw [hc.1] at h2; rw [hC] at h2; exact (Option.some.inj h2).symm
        subst eC
        obtain ⟨u, hu⟩ := tyV_of rr2
        obtain ⟨ht, hcl⟩ := hR _ hc.2 u hu
        have tx := rp_tyx (Rp.on p2.rel.sub rr2) hu hcl
        refine ⟨q, dx, fs, rfl, p2.rel.sub _ _ h1, ?_, call_sp (H0 := H) (p1.trans p2) (Paired.cons (b := Rv.v _) (show RvR X.K Γ env2 σ H G2 H2 _ (.v _) from rr0) (Paired.cons (b := Rv.v _) (show RvR X.K Γ env2 σ H G2 H2 _ (.v _) from rr2) .nil)) a2⟩
        rcases ht with rfl | ⟨T, rfl, hT⟩
        · exact .inl tx
        · exact .inr ⟨T, tx, hT⟩
    · exact absurd rfl a2.nb
  · exact absurd rfl a2.nb
end
/-! ### raise -/
def textB (d : D) : Bool := match toP d with
  | some p => p.showable && !p.hasDict && decide (p.shown.length ≤ 4000) && decide (p.depth ≤ 30) && (match p with
    | .str x => decide (x.length ≤ 4000)
    | _ => true)
  | none => false
def sRaise0 (c : Str) : SEnv → SO := fun env => .ex c none env
def sRaise1 (c nm : Str) (f : SEnv → Out Rv) : SEnv → SO := sB (eK f) fun d env => if textB d = true then .ex c (some (nm, d)) env else .bad
section
variable {X : Cx} {Γ : Cls0} {W : WX} {pos : Pos} {e : Expr} {f : SEnv → Out Rv} {C : Addr} {c nm : Str}
theorem sS_raise0 (hc : X.calm = true) (tk : Takes X W) (hC : Γ c = some C) (he : PMk X e (fun _ H Q => Q (.ref C) none H)) : PS X (.Raise (some e) none pos) (tS X.K Γ W (sRaise0 c)) := psI (ps_raise hc tk he) fun E σ H ⟨env, G, rel, a⟩ =>
  a.ex c none env (.ref C) none σ G H rfl (PostS.refl rel) ⟨C, hC, rfl, rfl⟩
theorem text_fv {K : PySem.W.Frag} {H : Hp} {v : V} {d : D} (h : Rp K Γ H v d) (t : textB d = true) : FVd K v H := by
  unfold textB at t
  split at t
  · rename_i p ep
    simp only [Bool.and_eq_true, Bool.not_eq_true', decide_eq_true_eq] at t
    refine ⟨p, h.dp ep, t.1.1.1.1, t.1.1.1.2, t.1.1.2, t.1.2, fun x ex => ?_⟩
    subst ex
    exact of_decide_eq_true t.2
  · cases t
theorem sS_raise1 {a : Expr} (hc : X.calm = true) (tk : Takes X W) (hC : Γ c = some C) (he : ∀ {ta : TA}, PA X [a] ta → PMk X e (tMkNear C nm (FVd X.K) ta)) (ha : PE X a (tE X.K Γ W f)) (hs : starEach (a :: []) X.env = (false, eval a X.env) :: starEach [] X.env := by rfl) :
    PS X (.Raise (some e) none pos) (tS X.K Γ W (sRaise1 c nm f)) := psI (ps_raise hc tk (he (pa_cons (sK ha) pa_nil hs))) fun E σ H ⟨env, G, rel, a⟩ => by
  refine tX.bindS a (PostS.refl rel) fun d env1 v G1 H1 e1 p1 rr a1 => ?_
  split at a1
  · rename_i ht
    refine ⟨v, rfl, text_fv (Rp.on p1.rel.sub rr) ht, fun dd nd => ?_⟩
    obtain ⟨k, gp, no⟩ := p1.rel.newF (o := .xd [(nm, v)]) nd
    exact a1.ex c (some (nm, d)) env1 (.ref C) (some dd) σ G1 _ rfl (p1.trans k).s ⟨C, hC, rfl, dd, v, rfl, upd_same, rr⟩
  · exact absurd rfl a1.nb
end
/-! ### try -/
/-- a clause: a suite; or, named e at slot i, what is made of e's field -/
inductive Hd where
  | s (f : SEnv → SO) | r (i : Nat) (nm : Str) (g : D → Option D)
def hdF (errs : List Str) : List (Str × Hd) → Str → Option (Str × D) → SEnv → SO
  | [], c, d, e => .ex c d e
  | (h, k) :: hs, c, d, e => if c ∈ errs ∧ h ∈ errs then (if c = h then (match k with
      | .s f => (match f e with
        | .ex _ _ _ => .bad
        | o => o)
      | .r i nm g => match d with
        | some (nm', z) => if nm' = nm ∧ free e i = true then (match g z with
          | some r => .rt r (e.set i .no)
          | none => .bad) else .bad
        | none => .bad) else hdF errs hs c d e) else .bad
def sTry (errs : List Str) (fb : SEnv → SO) (hs : List (Str × Hd)) : SEnv → SO := fun env => match fb env with
  | .ex c d e => hdF errs hs c d e
  | o => o
def ExT (K : PySem.W.Frag) (Γ : Cls0) (errs : List Str) : Prop := ∀ c ∈ errs, ∀ h ∈ errs, ∀ C Ch, Γ c = some C → Γ h = some Ch → PySem.W.exmOne K (.ref C) (.ref Ch) = some (decide (c = h))
/-- what is made of the field z, read off the error at a -/
def Made (K : PySem.W.Frag) (Γ : Cls0) (i : Nat) (nm : Str) (Ch : Addr) (g : D → Option D) (tk : Addr → Value → Option Addr → TE) : Prop := ∀ (σ : L2.St) (env : SEnv) (G H : Hp) (a dd : Addr) (u : V) (z r : D) (Q : VK), Rel K Γ env σ G H → σ[i]? = some (some (.ref a)) → H dd = some (.xd [(nm, u)]) → Rp K Γ G u z → g z = some r →
  (∀ v G' H', Post K Γ env σ G H env G' H' → Rp K Γ G' v r → Q v H') → tk a (.ref Ch) (some dd) σ H Q
inductive HdOk (K : PySem.W.Frag) (Γ : Cls0) : List (Str × Hd) → List (Value × Option Nat × Suite) → Prop
  | nil : HdOk K Γ [] []
  | s {h : Str} {Ch : Addr} {f : SEnv → SO} {hs : List (Str × Hd)} {l : List (Value × Option Nat × Suite)} (hC : Γ h = some Ch) (r : HdOk K Γ hs l) : HdOk K Γ ((h, .s f) :: hs) ((.ref Ch, none, fun _ _ _ => tS K Γ WF f) :: l)
  | r {h nm : Str} {Ch : Addr} {i : Nat} {g : D → Option D} {tk : Addr → Value → Option Addr → TE} {hs : List (Str × Hd)} {l : List (Value × Option Nat × Suite)} (hC : Γ h = some Ch) (m : Made K Γ i nm Ch g tk) (r : HdOk K Γ hs l) : HdOk K Γ ((h, .r i nm g) :: hs) ((.ref Ch, some i, fun a cls d => tRet (tk a cls d)) :: l)
section
variable {X : Cx} {Γ : Cls0} {W : WX} {pos : Pos} {fb : SEnv → SO} {hs : List (Str × Hd)} {errs : List Str}
/-- slot i has no value that counts -/
theorem Rel.setNo {K : PySem.W.Frag} {env : SEnv} {σ : L2.St} {G H : Hp} (r : Rel K Γ env σ G H) {i : Nat} {v : Option V} (f : free env i = true) : PostS K Γ env σ G H (env.set i .no) (σ.set i v) G H := by
  have hi := free_lt f
  have bk : ∀ {j : Nat} {p : Addr}, OwAt (env.set i .no) (σ.set i v) j p → OwAt env σ j p := fun {j p} z => by
    obtain ⟨⟨c', d', z1⟩, z2⟩ := z
    by_cases hj : j = i
    · subst hj
      rw [List.getElem?_set_self hi] at z1
      cases z1
    · rw [List.getElem?_set_ne (Ne.symm hj)] at z1 z2
      exact ⟨⟨c', d', z1⟩, z2⟩
  refine ⟨⟨by rw [List.length_set, List.length_set]; exact r.len, r.sub, fun j s o e1 e2 => ?_, fun j k p h1 h2 => r.dj j k p (bk h1) (bk h2)⟩, Fr.refl, fun p ⟨j, z⟩ => .inl ⟨j, bk z⟩, fun j d' e => ?_, List.length_set⟩
  · by_cases hj : j = i
    · subst hj
      rw [List.getElem?_set_self hi] at e1
      cases e1
      trivial
    · rw [List.getElem?_set_ne (Ne.symm hj)] at e1 e2
      exact r.sl j s o e1 e2
  · have hj : j ≠ i := fun z => by subst z; exact free_io f e
    rw [List.getElem?_set_ne (Ne.symm hj), List.getElem?_set_ne (Ne.symm hj)]
    exact ⟨rfl, d', e⟩
theorem try_run {K : PySem.W.Frag} (hT : ExT K Γ errs) {E : Ends} {env0 : SEnv} {σ0 : L2.St} {G0 H0 : Hp} {c : Str} {d : Option (Str × D)} {env' : SEnv} {cls : Value} {dx : Option Addr} {σ' : L2.St} {G' H' : Hp}
    (p : PostS K Γ env0 σ0 G0 H0 env' σ' G' H') (x : ExR K Γ G' H' cls dx c d) : ∀ {hs : List (Str × Hd)} {l : List (Value × Option Nat × Suite)}, HdOk K Γ hs l → AtS K Γ W env0 σ0 G0 H0 (hdF errs hs c d env') E → wMix K W E l cls dx σ' H'
  | _, _, .nil, a => a.ex c d env' cls dx σ' G' H' rfl p x
  | _, _, .s (h := h) (Ch := Ch) (f := f) hC r, a => by
    obtain ⟨C, eC, rfl, xd⟩ := id x
    unfold hdF at a
    split at a
    · rename_i hm
      refine ⟨decide (c = h), hT c hm.1 h hm.2 C Ch eC hC, fun e a0 na => ?_, fun e => ?_⟩
      · have e := of_decide_eq_true e
        rw [if_pos e] at a
        refine ⟨env', G', p.rel, ?_⟩
        cases z : f env' with
        | ex _ _ _ => simp only [z] at a; exact absurd rfl a.nb
        | bad => simp only [z] at a; exact absurd rfl a.nb
        | nx e1 => simp only [z] at a; exact ⟨(fun z => nomatch z), (a.go p).nx, (a.go p).rt, (a.go p).bk, (a.go p).ct, fun _ _ _ _ _ _ _ _ z => nomatch z⟩
        | rt d1 e1 => simp only [z] at a; exact ⟨(fun z => nomatch z), (a.go p).nx, (a.go p).rt, (a.go p).bk, (a.go p).ct, fun _ _ _ _ _ _ _ _ z => nomatch z⟩
        | bk e1 => simp only [z] at a; exact ⟨(fun z => nomatch z), (a.go p).nx, (a.go p).rt, (a.go p).bk, (a.go p).ct, fun _ _ _ _ _ _ _ _ z => nomatch z⟩
        | ct e1 => simp only [z] at a; exact ⟨(fun z => nomatch z), (a.go p).nx, (a.go p).rt, (a.go p).bk, (a.go p).ct, fun _ _ _ _ _ _ _ _ z => nomatch z⟩
      · have e := of_decide_eq_false e
        rw [if_neg e] at a
        exact try_run hT p x r a
    · exact absurd rfl a.nb
  | _, _, .r (h := h) (Ch := Ch) (i := i) (nm := nm) (g := g) (tk := tk) hC m r, a => by
    obtain ⟨C, eC, rfl, xd⟩ := id x
    unfold hdF at a
    split at a
    · rename_i hm
      refine ⟨decide (c = h), hT c hm.1 h hm.2 C Ch eC hC, fun e a0 na => ?_, fun e => ?_⟩
      · have e := of_decide_eq_true e
        rw [if_pos e] at a
        have eCC : C = Ch := by rw [e, hC] at eC; exact (Option.some.inj eC).symm
        subst eCC
        try dsimp only at a
        cases d with
        | none => exact absurd rfl a.nb
        | some q =>
          obtain ⟨nm', z⟩ := q
          try dsimp only at a
          split at a
          · rename_i hf
            obtain ⟨rfl, hf⟩ := hf
            split at a
            · rename_i rz ez
              obtain ⟨dd, u, rfl, hd, hu⟩ := xd
              have k := p.rel.setNo (v := some (.ref a0)) hf
              have hi : i < σ'.length := by rw [← p.rel.len]; exact free_lt hf
              refine m (σ'.set i (some (.ref a0))) _ G' H' a0 dd u z rz _ k.rel (List.getElem?_set_self hi) hd hu ez fun v G2 H2 p2 hv => ?_
              exact a.rt rz _ v _ G2 H2 rfl ((p.trans k).trans p2.s) hv
            · exact absurd rfl a.nb
          · exact absurd rfl a.nb
      · have e := of_decide_eq_false e
        rw [if_neg e] at a
        exact try_run hT p x r a
    · exact absurd rfl a.nb
theorem sS_try {body : List Stmt} {h₀ : ExceptHandler} {hds : List ExceptHandler} {l : List (Value × Option Nat × Suite)} (hT : ExT X.K Γ errs) (hs0 : X.stack = X.env :: X.outer) (hf : X.env.frame = some X.env.locals) (hN : X.N.Nodup) (tk : Takes X W)
    (hb : ∀ (W' : WX) (pn : List (Addr × Obj)) (xe : Value → Shared → Prop), Takes (X.tr pn xe) W' → PassesOwn (model X.prog X.w) X.A X.env xe → PSs (X.tr pn xe) body (tS X.K Γ W' fb))
    (hh : Clauses X (h₀ :: hds) l) (hk : HdOk X.K Γ hs l) : PS X (.Try body (h₀ :: hds) [] [] pos) (tS X.K Γ W (sTry errs fb hs)) := psI (ps_try_mix (tb := fun W' => tS X.K Γ W' fb) hs0 hf hN tk hb hh) fun E σ H ⟨env, G, rel, a⟩ => by
  unfold sTry at a
  refine ⟨env, G, rel, fun z => ?_, fun env' σ' G' H' z p => ?_, fun d env' v σ' G' H' z p hd => ?_, fun env' σ' G' H' z p => ?_, fun env' σ' G' H' z p => ?_, fun c d env' cls dx σ' G' H' z p x => ?_⟩
  · simp only [z] at a; exact a.nb rfl
  · simp only [z] at a; exact a.nx _ _ _ _ rfl p
  · simp only [z] at a; exact a.rt _ _ _ _ _ _ rfl p hd
  · simp only [z] at a; exact a.bk _ _ _ _ rfl p
  · simp only [z] at a; exact a.ct _ _ _ _ rfl p
  · simp only [z] at a
    exact try_run hT p x hk a
end
end EV
set_option Elab.async false
set_option linter.all false
set_option maxRecDepth 100000
set_option maxHeartbeats 4000000
/-! Built-in defs on data. -/
namespace EV
open PySem PySem.Spec PyProof.Rows L2 PySem.NearX
section
variable {K : PySem.W.Frag} {Γ : Cls0} {X : Cx}
theorem boot_isi : bootBuiltins "isinstance" = some (.builtin "isinstance") := by decide +kernel
theorem boot_int : bootBuiltins "int" = some (.type "int") := by decide +kernel
theorem boot_tuple : bootBuiltins "tuple" = some (.type "tuple") := by decide +kernel
theorem boot_list : bootBuiltins "list" = some (.type "list") := by decide +kernel
theorem boot_all : bootBuiltins "all" = some (.builtin "all") := by decide +kernel
theorem boot_any : bootBuiltins "any" = some (.builtin "any") := by decide +kernel
theorem boot_repr : bootBuiltins "repr" = some (.builtin "repr") := by decide +kernel
theorem boot_sum : bootBuiltins "sum" = some (.builtin "sum") := by decide +kernel
theorem boot_max : bootBuiltins "max" = some (.builtin "max") := by decide +kernel
theorem boot_min : bootBuiltins "min" = some (.builtin "min") := by decide +kernel
theorem boot_abs : bootBuiltins "abs" = some (.builtin "abs") := by decide +kernel
/-! ### len, list, tuple -/
def gLen : D → Option D
  | .lst ds => some (.int ds.length)
  | .tup ds => some (.int ds.length)
  | .scr ns => some (.int ns.length)
  | .str z => if z.length ≤ sizeLine then some (.int z.length) else none
  | _ => none
abbrev rLenX (K : PySem.W.Frag) : List V → Hp → VK → Prop := fun xs H Q => (∃ p ys, xs = [.ref p] ∧ (SqL K H p ys ∨ SqT K H p ys) ∧ Q (.int ys.length) H) ∨ ∃ z, xs = [.str z] ∧ z.length ≤ sizeLine ∧ Q (.int z.length) H
theorem call_lenX : CallR X (.builtin "len") (rLenX X.K) := CallR.or call_len_seq call_len_str
theorem r1_len : R1ok K Γ (fun x H Q => rLenX K [x] H Q) (h1 gLen) := R1ok.pure fun H x a c Q ha e q => by
  cases ha with
  | lst h1 h2 => cases e; exact .inl ⟨_, _, rfl, .inl (SqL.of h1), by rw [h2.len]; exact q _ fun G => .int _⟩
  | tup h1 h2 => cases e; exact .inl ⟨_, _, rfl, .inr h1, by rw [h2.len]; exact q _ fun G => .int _⟩
  | scr h1 => cases e; exact .inl ⟨_, _, rfl, .inl h1, by rw [List.length_map]; exact q _ fun G => .int _⟩
  | str z =>
    by_cases hz : z.length ≤ sizeLine
    · rw [gLen, if_pos hz] at e
      cases e
      exact .inr ⟨z, rfl, hz, q _ fun G => .int _⟩
    · rw [gLen, if_neg hz] at e; cases e
  | _ => cases e
def hList (env : SEnv) (r : Rv) : Option Rv := match dr env r with
  | some (.lst ds) => some (.f (.lst ds))
  | some (.tup ds) => some (.f (.lst ds))
  | some (.scr ns) => some (.f (.lst (ns.map .int)))
  | _ => none
theorem rpa_ints {G : Hp} : ∀ ns : List Int, RpA K Γ G (ns.map V.int) (ns.map D.int)
  | [] => .nil
  | n :: ns => .cons (.int n) (rpa_ints ns)
theorem r1_list : R1ok K Γ (fun x H Q => ∃ p ys, [x] = [V.ref p] ∧ (SqL K H p ys ∨ SqT K H p ys) ∧ ∀ l, H l = none → Q (.ref l) (upd H l (.lst ys))) hList := by
  intro σ env G H HA x r1 r Q rel hx e q
  unfold hList at e
  split at e
  · rename_i ds ed
    cases e
    obtain ⟨a, xs, rfl, ea, ra⟩ := hx.lst rel ed
    refine ⟨a, xs, rfl, .inl (SqL.of ea), fun l nl => ?_⟩
    obtain ⟨k, gp, no⟩ := rel.newF (o := .lst xs) nl
    exact q _ _ _ k ⟨l, rfl, Own.lst gp upd_same ra, no, nl⟩
  · rename_i ds ed
    cases e
    obtain ⟨a, xs, rfl, ea, ra⟩ := hx.tup rel ed
    refine ⟨a, xs, rfl, .inr (ea.on rel.sub), fun l nl => ?_⟩
    obtain ⟨k, gp, no⟩ := rel.newF (o := .lst xs) nl
    exact q _ _ _ k ⟨l, rfl, Own.lst gp upd_same ra, no, nl⟩
  · rename_i ns ed
    cases e
    have h := hx.rd rel ed
    cases h with
    | scr hs =>
      refine ⟨_, _, rfl, .inl hs, fun l nl => ?_⟩
      obtain ⟨k, gp, no⟩ := rel.newF (o := .lst (ns.map V.int)) nl
      exact q _ _ _ k ⟨l, rfl, Own.lst gp upd_same (rpa_ints ns), no, nl⟩
  · cases e
def hTuple (env : SEnv) (r : Rv) : Option Rv := match dr env r with
  | some (.lst ds) => some (.v (.tup ds))
  | some (.tup ds) => some (.v (.tup ds))
  | _ => none
theorem r1_tuple : R1ok K Γ (fun x H Q => ∃ p ys, [x] = [V.ref p] ∧ ((SqL K H p ys ∧ ∀ l, H l = none → Q (.ref l) (upd H l (.tup ys))) ∨ (SqT K H p ys ∧ Q (.ref p) H))) hTuple := by
  intro σ env G H HA x r1 r Q rel hx e q
  unfold hTuple at e
  split at e
  · rename_i ds ed
    cases e
    obtain ⟨a, xs, rfl, ea, ra⟩ := hx.lst rel ed
    refine ⟨a, xs, rfl, .inl ⟨SqL.of ea, fun l nl => ?_⟩⟩
    have k := rel.new (o := .tup xs) nl
    exact q _ _ _ k (Rp.tup (.inl (.inl upd_same)) (ra.on k.fr.g))
  · rename_i ds ed
    cases e
    obtain ⟨a, xs, rfl, ea, ra⟩ := hx.tup rel ed
    exact ⟨a, xs, rfl, .inr ⟨ea.on rel.sub, q _ G H (Post.refl rel) (Rp.tup ea ra)⟩⟩
  · cases e
/-! ### repr, int, abs -/
def reprB (p : PyData) : Bool := p.showable && !p.hasDict && decide (p.shown.length ≤ sizeLine) && decide (p.depth ≤ 60)
def gRepr (d : D) : Option D := match toP d with
  | some p => if reprB p = true then some (.str p.shown) else none
  | none => none
theorem r1_repr : R1ok K Γ (fun x H Q => rRepr K [x] H Q) (h1 gRepr) := R1ok.pure fun H x a c Q ha e q => by
  unfold gRepr at e
  split at e
  · rename_i p ep
    split at e
    · rename_i hb
      cases e
      unfold reprB at hb
      simp only [Bool.and_eq_true, Bool.not_eq_true', decide_eq_true_eq] at hb
      exact ⟨x, p, rfl, ha.dp ep, hb.1.1.1, hb.1.1.2, hb.1.2, hb.2, q _ fun G => .str _⟩
    · cases e
  · cases e
def gInt : D → Option D
  | .int i => some (.int i)
  | .bl b => some (.int (if b then 1 else 0))
  | _ => none
theorem r1_int : R1ok K Γ (fun x H Q => (∃ i, [x] = [V.int i] ∧ Q (.int i) H) ∨ ∃ k, [x] = [V.bl k] ∧ Q (.int (if k then 1 else 0)) H) (h1 gInt) := R1ok.pure fun H x a c Q ha e q => by
  cases ha with
  | int i => cases e; exact .inl ⟨i, rfl, q _ fun G => .int _⟩
  | bl b => cases e; exact .inr ⟨b, rfl, q _ fun G => .int _⟩
  | _ => cases e
def gAbs : D → Option D
  | .int i => some (.int (if i < 0 then -i else i))
  | _ => none
theorem r1_abs : R1ok K Γ (fun x H Q => ∃ i, [x] = [V.int i] ∧ Q (.int (if i < 0 then -i else i)) H) (h1 gAbs) := R1ok.pure fun H x a c Q ha e q => by
  cases ha with
  | int i => cases e; exact ⟨i, rfl, q _ fun G => .int _⟩
  | _ => cases e
def gNeg : D → Option D
  | .int i => some (.int (-i))
  | _ => none
theorem r1_neg : R1ok K Γ (rU fun i => .int (-i)) (h1 gNeg) := R1ok.pure fun H x a c Q ha e q => by
  cases ha with
  | int i => cases e; exact ⟨i, rfl, q _ fun G => .int _⟩
  | _ => cases e
/-! ### all, any -/
def blsOf : List D → Option (List Bool)
  | [] => some []
  | .bl b :: ds => (blsOf ds).map (b :: ·)
  | _ => none
theorem bls_rpa {G : Hp} : ∀ {xs : List V} {ds : List D} {bs : List Bool}, RpA K Γ G xs ds → blsOf ds = some bs → xs = bs.map V.bl
  | _, _, _, .nil, e => by cases e; rfl
  | _, _, _, .cons (d := d) (ds := ds) h t, e => by
    cases h with
    | bl b =>
      rw [blsOf] at e
      obtain ⟨bs', e1, rfl⟩ := Option.map_eq_some_iff.mp e
      rw [bls_rpa t e1]
      rfl
    | _ => simp [blsOf] at e
def gAll : D → Option D
  | .lst ds => (blsOf ds).map fun bs => .bl (bs.all id)
  | _ => none
def gAny : D → Option D
  | .lst ds => (blsOf ds).map fun bs => .bl (bs.any id)
  | _ => none
theorem r1_all : R1ok K Γ (fun x H Q => rAll K [x] H Q) (h1 gAll) := R1ok.pure fun H x a c Q ha e q => by
  cases ha with
  | lst h1 h2 =>
    obtain ⟨bs, e1, rfl⟩ := Option.map_eq_some_iff.mp e
    have := bls_rpa h2 e1
    subst this
    exact ⟨_, bs, rfl, SqL.of h1, q _ fun G => .bl _⟩
  | _ => cases e
theorem r1_any : R1ok K Γ (fun x H Q => rAny K [x] H Q) (h1 gAny) := R1ok.pure fun H x a c Q ha e q => by
  cases ha with
  | lst h1 h2 =>
    obtain ⟨bs, e1, rfl⟩ := Option.map_eq_some_iff.mp e
    have := bls_rpa h2 e1
    subst this
    exact ⟨_, bs, rfl, SqL.of h1, q _ fun G => .bl _⟩
  | _ => cases e
/-! ### sum, max, min of whole numbers -/
def intsOf : List D → Option (List Int)
  | [] => some []
  | .int i :: ds => (intsOf ds).map (i :: ·)
  | _ => none
theorem ints_rpa {G : Hp} : ∀ {xs : List V} {ds : List D} {ns : List Int}, RpA K Γ G xs ds → intsOf ds = some ns → xs = ns.map V.int
  | _, _, _, .nil, e => by cases e; rfl
  | _, _, _, .cons (d := d) (ds := ds) h t, e => by
    cases h with
    | int b =>
      rw [intsOf] at e
      obtain ⟨bs', e1, rfl⟩ := Option.map_eq_some_iff.mp e
      rw [ints_rpa t e1]
      rfl
    | _ => simp [intsOf] at e
theorem intsOf_map : ∀ ns : List Int, intsOf (ns.map D.int) = some ns
  | [] => rfl
  | n :: ns => by simp [intsOf, intsOf_map ns]
def maxI : List Int → Int
  | [] => 0
  | [n] => n
  | n :: m :: ns => max n (maxI (m :: ns))
def minI : List Int → Int
  | [] => 0
  | [n] => n
  | n :: m :: ns => min n (minI (m :: ns))
theorem maxI_mem : ∀ ns : List Int, ns ≠ [] → maxI ns ∈ ns ∧ ∀ y ∈ ns, y ≤ maxI ns
  | [], h => absurd rfl h
  | [n], _ => by simp [maxI]
  | n :: m :: ns, _ => by
    obtain ⟨h1, h2⟩ := maxI_mem (m :: ns) (by simp)
    rw [maxI]
    refine ⟨?_, fun y hy => ?_⟩
    · rcases Int.le_total n (maxI (m :: ns)) with z | z
      · rw [Int.max_eq_right z]; exact List.mem_cons_of_mem _ h1
      · rw [Int.max_eq_left z]; exact List.mem_cons_self ..
    · rcases List.mem_cons.mp hy with rfl | hy
      · exact Int.le_max_left ..
      · exact Int.le_trans (h2 y hy) (Int.le_max_right ..)
theorem minI_mem : ∀ ns : List Int, ns ≠ [] → minI ns ∈ ns ∧ ∀ y ∈ ns, minI ns ≤ y
  | [], h => absurd rfl h
  | [n], _ => by simp [minI]
  | n :: m :: ns, _ => by
    obtain ⟨h1, h2⟩ := minI_mem (m :: ns) (by simp)
    rw [minI]
    refine ⟨?_, fun y hy => ?_⟩
    · rcases Int.le_total n (minI (m :: ns)) with z | z
      · rw [Int.min_eq_left z]; exact List.mem_cons_self ..
      · rw [Int.min_eq_right z]; exact List.mem_cons_of_mem _ h1
    · rcases List.mem_cons.mp hy with rfl | hy
      · exact Int.min_le_left ..
      · exact Int.le_trans (Int.min_le_right ..) (h2 y hy)
/-- a list or a tuple of whole numbers -/
def SqI (K : PySem.W.Frag) (H : Hp) (a : Addr) (ns : List Int) : Prop := SqL K H a (ns.map V.int) ∨ SqT K H a (ns.map V.int)
def seqI : D → Option (List Int)
  | .lst ds => intsOf ds
  | .tup ds => intsOf ds
  | .scr ns => some ns
  | _ => none
theorem rp_seqI {H : Hp} {x : V} {d : D} {ns : List Int} (h : Rp K Γ H x d) (e : seqI d = some ns) : ∃ a, x = .ref a ∧ SqI K H a ns := by
  cases h with
  | lst h1 h2 => have := ints_rpa h2 e; subst this; exact ⟨_, rfl, .inl (SqL.of h1)⟩
  | tup h1 h2 => have := ints_rpa h2 e; subst this; exact ⟨_, rfl, .inr h1⟩
  | scr h1 => cases e; exact ⟨_, rfl, .inl h1⟩
  | _ => cases e
def rSumX (K : PySem.W.Frag) : List V → Hp → VK → Prop := fun vs H Q => ∃ (a : Addr) (ns : List Int), vs = [V.ref a] ∧ SqI K H a ns ∧ Q (.int ns.sum) H
theorem cr_sumX (hc : X.calm = true) : CallR X (.builtin "sum") (rSumX X.K) := by
  intro pins s σ H xs us Q I r h
  obtain ⟨a, ns, rfl, hs, q⟩ := h
  rcases hs with hs | hs
  · exact cr_sum hc pins s σ H _ us Q I r ⟨a, ns, rfl, hs, q⟩
  · rw [Vals.ref1 r]
    obtain ⟨its, rv, p, hz⟩ := I.tuple hs
    have hi := rv.ints
    obtain ⟨xs, e⟩ := hi.allInts.items
    have hn : numsOf (intItems xs).toList = ns := by rw [← e]; exact hi.numsOf
    rw [nums_intItems] at hn
    have p' : s.heap.IsTuple a (intItems xs) := by rw [← e]; exact p
    refine PySem.W.ktm_sumG (I.ok.hd hc) p' fun h' tk t' hk => ?_
    rw [preSum_eq, List.take_of_length_le (by simp), hn]
    exact ⟨.int ns.sum, H, I.kept (t' := tk) hk, ⟨_, rfl⟩, q⟩
def gSum (d : D) : Option D := (seqI d).map fun ns => .int ns.sum
theorem r1_sum : R1ok K Γ (fun x H Q => rSumX K [x] H Q) (h1 gSum) := R1ok.pure fun H x a c Q ha e q => by
  obtain ⟨ns, e1, rfl⟩ := Option.map_eq_some_iff.mp e
  obtain ⟨p, rfl, hs⟩ := rp_seqI ha e1
  exact ⟨p, ns, rfl, hs, q _ fun G => .int _⟩
theorem reads_ints (s : Heap) : ∀ {us : List Value} {ns : List Int}, IntsAre us ns → ∃ as, ReadsAll s us (ns.map PyData.int) as
  | [], [], _ => ⟨_, .nil⟩
  | u :: us, [], h => by cases h
  | [], n :: ns, h => by cases h
  | u :: us, n :: ns, h => by
    cases h with
    | cons _ _ hh =>
      obtain ⟨as, r⟩ := reads_ints s hh
      exact ⟨_, .cons (.int n _) r⟩
theorem depth_ints : ∀ ns : List Int, PyData.depthAll (ns.map PyData.int) ≤ 1
  | [] => by simp [PyData.depthAll]
  | n :: ns => by
    have h := depth_ints ns
    simp only [List.map_cons, PyData.depthAll, PyData.depth]
    omega
theorem alike_ints (ns : List Int) : PySem.W.AlikeAll (ns.map PyData.int) := by
  refine ⟨fun x hx y hy => ?_, fun x hx => ?_⟩
  · obtain ⟨i, _, rfl⟩ := List.mem_map.mp hx
    obtain ⟨j, _, rfl⟩ := List.mem_map.mp hy
    rfl
  · obtain ⟨i, _, rfl⟩ := List.mem_map.mp hx
    exact fun z => nomatch z
theorem maxI_fold : ∀ (n : Int) (ns : List Int), maxI (n :: ns) = ns.foldl max n
  | n, [] => rfl
  | n, m :: ns => by
    rw [maxI, List.foldl_cons, maxI_fold]
    have key : ∀ (ks : List Int) (a b : Int), max a (ks.foldl max b) = ks.foldl max (max a b) := fun ks => by
      induction ks with
      | nil => intros; rfl
      | cons k ks ih => intro a b; rw [List.foldl_cons, List.foldl_cons, ih, Int.max_assoc]
    exact key ns n m
theorem minI_fold : ∀ (n : Int) (ns : List Int), minI (n :: ns) = ns.foldl min n
  | n, [] => rfl
  | n, m :: ns => by
    rw [minI, List.foldl_cons, minI_fold]
    have key : ∀ (ks : List Int) (a b : Int), min a (ks.foldl min b) = ks.foldl min (min a b) := fun ks => by
      induction ks with
      | nil => intros; rfl
      | cons k ks ih => intro a b; rw [List.foldl_cons, List.foldl_cons, ih, Int.min_assoc]
    exact key ns n m
def rMaxX (K : PySem.W.Frag) : List V → Hp → VK → Prop := fun vs H Q => ∃ (a : Addr) (ns : List Int), vs = [V.ref a] ∧ SqI K H a ns ∧ ns ≠ [] ∧ Q (.int (maxI ns)) H
def rMinX (K : PySem.W.Frag) : List V → Hp → VK → Prop := fun vs H Q => ∃ (a : Addr) (ns : List Int), vs = [V.ref a] ∧ SqI K H a ns ∧ ns ≠ [] ∧ Q (.int (minI ns)) H
theorem reads_int {h : Heap} {v : Value} {i : Int} {bs : List Addr} (r : Reads h v (.int i) bs) : ∃ t, v = .int i t := by
  cases r
  exact ⟨_, rfl⟩
theorem cr_maxX (hc : X.calm = true) (hu : X.A.units + 64 < cLine) : CallR X (.builtin "max") (rMaxX X.K) := by
  intro pins s σ H xs us Q I r h
  obtain ⟨a, ns, rfl, hs, hne, q⟩ := h
  rcases hs with hs | hs
  · refine cr_max hc pins s σ H _ us Q I r ⟨a, ns, rfl, hs, List.length_pos_iff.mpr hne, fun m hm hx => ?_⟩
    obtain ⟨k1, k2⟩ := maxI_mem ns hne
    rw [Int.le_antisymm (k2 m hm) (hx _ k1)]
    exact q
  · rw [Vals.ref1 r]
    obtain ⟨its, rv, p, hz⟩ := I.tuple hs
    cases ns with
    | nil => exact absurd rfl hne
    | cons n ns =>
    obtain ⟨as, rd⟩ := reads_ints s.heap rv.ints
    have hd := depth_ints (n :: ns)
    refine PySem.W.max_tuple_data (x := .int n) (xs := ns.map PyData.int) (I.ok.hd hc) (show s.heap.IsTuple a its.toArray from p) (by simpa using rd) (alike_ints (n :: ns)) (by rw [← List.map_cons]; omega) fun i v h' tk bs e rd' hk => ?_
    rw [PySem.W.maxD_ints, ← maxI_fold] at rd'
    obtain ⟨t, rfl⟩ := reads_int rd'
    exact ⟨.int _, H, I.kept (t' := tk) hk, ⟨_, rfl⟩, q⟩
theorem cr_minX (hc : X.calm = true) (hu : X.A.units + 64 < cLine) : CallR X (.builtin "min") (rMinX X.K) := by
  intro pins s σ H xs us Q I r h
  obtain ⟨a, ns, rfl, hs, hne, q⟩ := h
  rcases hs with hs | hs
  · refine cr_min hc pins s σ H _ us Q I r ⟨a, ns, rfl, hs, List.length_pos_iff.mpr hne, fun m hm hx => ?_⟩
    obtain ⟨k1, k2⟩ := minI_mem ns hne
    rw [Int.le_antisymm (hx _ k1) (k2 m hm)]
    exact q
  · rw [Vals.ref1 r]
    obtain ⟨its, rv, p, hz⟩ := I.tuple hs
    cases ns with
    | nil => exact absurd rfl hne
    | cons n ns =>
    obtain ⟨as, rd⟩ := reads_ints s.heap rv.ints
    have hd := depth_ints (n :: ns)
    refine PySem.W.min_tuple_data (x := .int n) (xs := ns.map PyData.int) (I.ok.hd hc) (show s.heap.IsTuple a its.toArray from p) (by simpa using rd) (alike_ints (n :: ns)) (by rw [← List.map_cons]; omega) fun i v h' tk bs e rd' hk => ?_
    rw [PySem.W.minD_ints, ← minI_fold] at rd'
    obtain ⟨t, rfl⟩ := reads_int rd'
    exact ⟨.int _, H, I.kept (t' := tk) hk, ⟨_, rfl⟩, q⟩
def gMax (d : D) : Option D := (seqI d).bind fun ns => if ns ≠ [] then some (.int (maxI ns)) else none
def gMin (d : D) : Option D := (seqI d).bind fun ns => if ns ≠ [] then some (.int (minI ns)) else none
theorem r1_max : R1ok K Γ (fun x H Q => rMaxX K [x] H Q) (h1 gMax) := R1ok.pure fun H x a c Q ha e q => by
  obtain ⟨ns, e1, e2⟩ := Option.bind_eq_some_iff.mp e
  split at e2
  · rename_i hne
    cases e2
    obtain ⟨p, rfl, hs⟩ := rp_seqI ha e1
    exact ⟨p, ns, rfl, hs, hne, q _ fun G => .int _⟩
  · cases e2
theorem r1_min : R1ok K Γ (fun x H Q => rMinX K [x] H Q) (h1 gMin) := R1ok.pure fun H x a c Q ha e q => by
  obtain ⟨ns, e1, e2⟩ := Option.bind_eq_some_iff.mp e
  split at e2
  · rename_i hne
    cases e2
    obtain ⟨p, rfl, hs⟩ := rp_seqI ha e1
    exact ⟨p, ns, rfl, hs, hne, q _ fun G => .int _⟩
  · cases e2
/-! ### max(a, b), min(a, b) -/
def eCall2 (h : SEnv → Rv → Rv → Option Rv) (fa fb : SEnv → Out Rv) : SEnv → Out Rv := eOp h fa fb
theorem r2_max2 : R2ok K Γ (fun x y H Q => ∃ i j, [x, y] = [V.int i, V.int j] ∧ Q (.int (if j > i then j else i)) H) (h2 (gI (fun _ _ => true) fun i j => if j > i then j else i)) := R2ok.pure fun H x y a b d Q ha hb e q => by
  unfold gI at e
  split at e
  · rename_i i j
    cases e
    cases ha; cases hb
    exact ⟨i, j, rfl, q _ fun G => .int _⟩
  · cases e
theorem r2_min2 : R2ok K Γ (fun x y H Q => ∃ i j, [x, y] = [V.int i, V.int j] ∧ Q (.int (if j < i then j else i)) H) (h2 (gI (fun _ _ => true) fun i j => if j < i then j else i)) := R2ok.pure fun H x y a b d Q ha hb e q => by
  unfold gI at e
  split at e
  · rename_i i j
    cases e
    cases ha; cases hb
    exact ⟨i, j, rfl, q _ fun G => .int _⟩
  · cases e
theorem sE_callB2 {W : WX} {pos p : Pos} {a b : Expr} {fa fb : SEnv → Out Rv} {h : SEnv → Rv → Rv → Option Rv} {id : String} {x : Str} {r : List V → Hp → VK → Prop} (hc : CallR X (.builtin id) r) (hh : R2ok X.K Γ (fun x y H Q => r [x, y] H Q) h) (hg : Gl X x) (hm : X.mg x = none) (hv : bootBuiltins x = some (.builtin id))
    (ha : PE X a (tE X.K Γ W fa)) (hb : PE X b (tE X.K Γ W fb)) (hn : x ≠ "__name__" := by decide) (hdb : (x == ("__debug__" : Str)) = false := by decide) (hs : starEach [a, b] X.env = (false, eval a X.env) :: starEach [b] X.env := by rfl)
    (hs2 : starEach (b :: []) X.env = (false, eval b X.env) :: starEach [] X.env := by rfl) (hpl : (backTo pos (starEach [b] X.env)).any (·.1) = false := by rfl) : PE X (.Call (.Name x p) [a, b] [] pos) (tE X.K Γ W (eOp h fa fb)) :=
  peI (pe_callB hc hg hm hv (pa_cons ha (pa_cons hb pa_nil hs2) hs) hn hdb hs hpl) fun σ H Q z => eOp_run hh z
end
end EV
set_option Elab.async false
set_option linter.all false
set_option maxRecDepth 100000
set_option maxHeartbeats 4000000
/-! len(set(x)), sorted(set(rows)). -/
namespace EV
open PySem PySem.Spec PyProof.Rows L2 PySem.NearX
/-! ### the different ones -/
def ddI (ns : List Int) : List Int := ns.foldl step_dedup []
theorem dd_inv : ∀ (ns acc : List Int), acc.Nodup → (ns.foldl step_dedup acc).Nodup ∧ ∀ k, k ∈ ns.foldl step_dedup acc ↔ k ∈ acc ∨ k ∈ ns
  | [], acc, h => ⟨h, fun k => by simp⟩
  | n :: ns, acc, h => by
    rw [List.foldl_cons]
    have hs : (step_dedup acc n).Nodup ∧ ∀ k, k ∈ step_dedup acc n ↔ k ∈ acc ∨ k = n := by
      unfold step_dedup
      by_cases c : acc.any (· == n) = true
      · rw [if_pos c]
        refine ⟨h, fun k => ⟨.inl, fun z => z.elim id fun z => ?_⟩⟩
        subst z
        obtain ⟨y, hy, e⟩ := List.any_eq_true.mp c
        rw [← beq_iff_eq.mp e]; exact hy
      · rw [if_neg c]
        refine ⟨List.nodup_append.mpr ⟨h, by simp, fun x hx y hy z => ?_⟩, fun k => by simp⟩
        rw [List.mem_singleton] at hy
        subst hy z
        exact c (List.any_eq_true.mpr ⟨x, hx, beq_self_eq_true _⟩)
    obtain ⟨k1, k2⟩ := dd_inv ns (step_dedup acc n) hs.1
    refine ⟨k1, fun k => ?_⟩
    rw [k2, hs.2, List.mem_cons]
    constructor
    · rintro ((a | a) | a)
      · exact .inl a
      · exact .inr (.inl a)
      · exact .inr (.inr a)
    · rintro (a | a | a)
      · exact .inl (.inl a)
      · exact .inl (.inr a)
      · exact .inr a
theorem dd_nodup (ns : List Int) : (ddI ns).Nodup := (dd_inv ns [] List.nodup_nil).1
theorem dd_mem (ns : List Int) (k : Int) : k ∈ ddI ns ↔ k ∈ ns := by
  rw [ddI, (dd_inv ns [] List.nodup_nil).2]
  simp
theorem met_dd (ns : List Int) : firstMet (fun i => ns.getD i 0) ns.length = ddI ns := by
  unfold firstMet ddI
  congr 1
  refine List.ext_getElem? fun j => ?_
  rw [List.getElem?_map]
  by_cases hj : j < ns.length
  · rw [List.getElem?_range hj, List.getElem?_eq_getElem hj]
    show some (ns.getD j 0) = _
    rw [List.getD_eq_getElem?_getD, List.getElem?_eq_getElem hj]
    rfl
  · rw [List.getElem?_eq_none (by rw [List.length_range]; omega), List.getElem?_eq_none (by omega)]
    rfl
def gLenSet (d : D) : Option D := (seqI d).bind fun ns => if ns.length < 1000 then some (.int (ddI ns).length) else none
section
variable {K : PySem.W.Frag} {Γ : Cls0} {X : Cx} {W : WX} {f : SEnv → Out Rv}
def tLenSetX (K : PySem.W.Frag) (ta : TE) : TE := fun σ H Q => ta σ H fun x H1 => ∃ (l : Addr) (ns : List Int), x = V.ref l ∧ SqI K H1 l ns ∧ ns.length < 1000 ∧ Q (.int (ddI ns).length) H1
theorem pe_lenSetX {a : Expr} {ta : TE} {p p2 q pos : Pos} (hc : X.calm = true) (hg : Gl X "len") (hm : X.mg "len" = none) (hg2 : Gl X "set") (hm2 : X.mg "set" = none) (ha : PE X a ta)
    (na : starEach (a :: []) X.env = (false, eval a X.env) :: starEach [] X.env := by rfl) : PE X (.Call (.Name "len" p) [.Call (.Name "set" p2) [a] [] q] [] pos) (tLenSetX X.K ta) := by
  refine ⟨fun pins s σ H Q I h => ?_⟩
  refine Call_ (ld_blt I hg hm PySem.boot_len ?_)
  refine PyProof.Rows.callWith_builtin1 (PyProof.Rows.args_cons ?_ rfl) rfl rfl
  refine Call_ (ld_blt I hg2 hm2 PyProof.Rows.boot_set ?_)
  refine PyProof.Rows.callWith_type1 (PyProof.Rows.args_cons (thn (ha.run pins s σ H _ I h) fun v s1 ⟨x, H1, I1, r1, q1⟩ => PyProof.Rows.args_nil ?_) na) na rfl
  obtain ⟨l, ns, rfl, hq, h1, q1⟩ := q1
  cases r1
  rcases hq with hq | hq
  · obtain ⟨its, r, pl, hz⟩ := I1.list hq
    have hl : its.toArray.size = ns.length := by rw [List.size_toArray, ← r.length, List.length_map]
    refine call_set_list (I1.ok.hd hc) pl.isList (ns := ns) (by simpa using r.ints) (by unfold scanBound; omega) fun h' tk hS hk => ?_
    rw [hl, met_dd] at hS
    refine PyProof.Rows.args_nil ?_
    obtain ⟨o, es, ep, t, ho, hex, hd, _, _, _, hf, hn⟩ := hS
    have I2 : Inv X pins σ H1 { s1 with heap := h', toks := tk } := I1.kept fun b o e => hk b o (Heap.lt_size e) e
    have hlen : (ddI ns).length ≤ ns.length := by rw [← met_dd]; exact firstMet_length_le _ _
    refine call_len_set ho hex hd hf (by rw [hn]; omega) ⟨.int (ddI ns).length, H1, I2.tok _, ⟨_, by rw [hn]⟩, q1⟩
  · obtain ⟨its, r, pl, hz⟩ := I1.tuple hq
    refine call_set_tupI ns (I1.ok.hd hc) (show s1.heap.IsTuple l its.toArray from pl) (by simpa using r.ints) (by unfold scanBound; omega) fun h' tk c hS hcl hk => ?_
    refine PyProof.Rows.args_nil ?_
    obtain ⟨o, es, ep, t, ho, hex, hd, _, nd, mem, _, hf, hn, _⟩ := hS
    have I2 : Inv X pins σ H1 { s1 with heap := h', toks := tk } := I1.kept hk
    have hlen : es.size = (ddI ns).length := by
      have pm : (es.toList.map keyOf).Perm (ddI ns) := (List.perm_ext_iff_of_nodup nd (dd_nodup ns)).mpr fun k => by
        rw [← mem k, dd_mem]
        exact decide_eq_true_iff
      have := pm.length_eq
      rw [List.length_map, Array.length_toList] at this
      exact this
    have hle : es.size ≤ ns.length := by omega
    refine call_len_set ho hex hd hf (by omega) ⟨.int (ddI ns).length, H1, I2.tok _, ⟨_, by rw [hlen]⟩, q1⟩
theorem sE_lenSet {a : Expr} {p p2 q pos : Pos} (hc : X.calm = true) (hg : Gl X "len") (hm : X.mg "len" = none) (hg2 : Gl X "set") (hm2 : X.mg "set" = none) (ha : PE X a (tE X.K Γ W f))
    (na : starEach (a :: []) X.env = (false, eval a X.env) :: starEach [] X.env := by rfl) : PE X (.Call (.Name "len" p) [.Call (.Name "set" p2) [a] [] q] [] pos) (tE X.K Γ W (eU (EV.h1 gLenSet) f)) :=
  peI (pe_lenSetX hc hg hm hg2 hm2 ha na) fun σ H Q z => by
  have key : R1ok X.K Γ (fun x H1 Q => ∃ (l : Addr) (ns : List Int), x = V.ref l ∧ SqI X.K H1 l ns ∧ ns.length < 1000 ∧ Q (.int (ddI ns).length) H1) (EV.h1 gLenSet) := R1ok.pure fun H x a c Q ha e q => by
    obtain ⟨ns, e1, e2⟩ := Option.bind_eq_some_iff.mp e
    split at e2
    · rename_i hz
      cases e2
      obtain ⟨p, rfl, hs⟩ := rp_seqI ha e1
      exact ⟨p, ns, rfl, hs, hz, q _ fun G => .int _⟩
    · cases e2
  exact eU_run key z
end
/-! ### rows -/
def rowT (r : List Int) : D := .tup (r.map .int)
def rowsT (rs : List (List Int)) : D := .lst (rs.map rowT)
def rowOf : D → Option (List Int)
  | .tup ds => intsOf ds
  | _ => none
def rowsOf : List D → Option (List (List Int))
  | [] => some []
  | d :: ds => match rowOf d, rowsOf ds with
    | some r, some rs => some (r :: rs)
    | _, _ => none
theorem rowOf_T (r : List Int) : rowOf (rowT r) = some r := intsOf_map r
theorem rowsOf_map : ∀ rs : List (List Int), rowsOf (rs.map rowT) = some rs
  | [] => rfl
  | r :: rs => by simp [rowsOf, rowOf_T, rowsOf_map rs]
theorem intsOf_inv : ∀ {ds : List D} {ns : List Int}, intsOf ds = some ns → ds = ns.map D.int
  | [], _, h => by cases h; rfl
  | d :: ds, ns, h => by
    cases d with
    | int i =>
      rw [intsOf] at h
      obtain ⟨ms, e, rfl⟩ := Option.map_eq_some_iff.mp h
      rw [intsOf_inv e]; rfl
    | _ => simp [intsOf] at h
theorem rowOf_inv {d : D} {r : List Int} (h : rowOf d = some r) : d = rowT r := by
  cases d with
  | tup ds => rw [rowT, intsOf_inv (show intsOf ds = some r from h)]
  | _ => cases h
theorem rowsOf_inv : ∀ {ds : List D} {rs : List (List Int)}, rowsOf ds = some rs → ds = rs.map rowT
  | [], _, h => by cases h; rfl
  | d :: ds, rs, h => by
    rw [rowsOf] at h
    split at h
    · rename_i r rs' e1 e2
      cases h
      rw [rowOf_inv e1, rowsOf_inv e2]; rfl
    · cases h
/-- put in, ascending -/
def insR (x : List Int) : List (List Int) → List (List Int)
  | [] => [x]
  | y :: ys => if x = y then y :: ys else if HT.lexLt x y = true then x :: y :: ys else y :: insR x ys
def sortR (rs : List (List Int)) : List (List Int) := rs.foldr insR []
theorem insR_mem (x z : List Int) : ∀ ys : List (List Int), z ∈ insR x ys ↔ z = x ∨ z ∈ ys
  | [] => by simp [insR]
  | y :: ys => by
    unfold insR
    split
    · rename_i e; subst e; simp
    · split
      · simp
      · rw [List.mem_cons, insR_mem x z ys, List.mem_cons]
        constructor
        · rintro (a | a | a)
          · exact .inr (.inl a)
          · exact .inl a
          · exact .inr (.inr a)
        · rintro (a | a | a)
          · exact .inr (.inl a)
          · exact .inl a
          · exact .inr (.inr a)
theorem sortR_mem (z : List Int) : ∀ rs : List (List Int), z ∈ sortR rs ↔ z ∈ rs
  | [] => by simp [sortR]
  | r :: rs => by
    show z ∈ insR r (sortR rs) ↔ _
    rw [insR_mem, sortR_mem z rs, List.mem_cons]
/-- by the number of a row all is decided -/
def Bdd (B : Int) (n : Nat) (r : List Int) : Prop := r.length = n ∧ ∀ m ∈ r, 0 ≤ m ∧ m < B
theorem code_bd {B : Int} (hB : 1 ≤ B) : ∀ (r : List Int), (∀ m ∈ r, 0 ≤ m ∧ m < B) → 0 ≤ TS.code B r ∧ TS.code B r < B ^ r.length
  | [], _ => ⟨Int.le_refl 0, by show (0 : Int) < B ^ 0; rw [Int.pow_zero]; decide⟩
  | d :: r, h => by
    obtain ⟨c0, c1⟩ := code_bd hB r fun m hm => h m (List.mem_cons_of_mem _ hm)
    obtain ⟨d0, d1⟩ := h d (List.mem_cons_self ..)
    have := TS.num1 c0 c1 d0 d1
    show 0 ≤ d * B ^ r.length + TS.code B r ∧ d * B ^ r.length + TS.code B r < B ^ (r.length + 1)
    rw [Int.pow_succ]
    exact this
theorem code_lt {B : Int} (hB : 1 ≤ B) : ∀ (r s : List Int) (n : Nat), Bdd B n r → Bdd B n s → (HT.lexLt r s = true ↔ TS.code B r < TS.code B s)
  | [], [], _, _, _ => by simp [HT.lexLt, TS.code]
  | [], _ :: _, n, hr, hs => by have := hr.1; have := hs.1; simp at *; omega
  | _ :: _, [], n, hr, hs => by have := hr.1; have := hs.1; simp at *; omega
  | x :: r, y :: s, n, hr, hs => by
    obtain ⟨m, rfl⟩ : ∃ m, n = m + 1 := ⟨r.length, by have := hr.1; simp at this; omega⟩
    have hr' : Bdd B m r := ⟨by simpa using hr.1, fun k hk => hr.2 k (List.mem_cons_of_mem _ hk)⟩
    have hs' : Bdd B m s := ⟨by simpa using hs.1, fun k hk => hs.2 k (List.mem_cons_of_mem _ hk)⟩
    obtain ⟨c0, c1⟩ := code_bd hB r hr'.2
    obtain ⟨f0, f1⟩ := code_bd hB s hs'.2
    have ih := code_lt hB r s m hr' hs'
    rw [hr'.1] at c1
    rw [hs'.1] at f1
    rw [HT.lexLt_cons]
    show _ ↔ x * B ^ r.length + TS.code B r < y * B ^ s.length + TS.code B s
    rw [hr'.1, hs'.1]
    by_cases e : x = y
    · subst e
      rw [if_pos rfl, ih]
      omega
    · rw [if_neg e]
      rcases Int.lt_or_gt_of_ne e with h | h
      · have : (x + 1) * B ^ m ≤ y * B ^ m := Int.mul_le_mul_of_nonneg_right (by omega) (by omega)
        rw [Int.add_mul, Int.one_mul] at this
        simp only [decide_eq_true_eq]
        constructor <;> intro <;> omega
      · have : (y + 1) * B ^ m ≤ x * B ^ m := Int.mul_le_mul_of_nonneg_right (by omega) (by omega)
        rw [Int.add_mul, Int.one_mul] at this
        simp only [decide_eq_true_eq]
        constructor <;> intro <;> omega
theorem code_eq {B : Int} (hB : 1 ≤ B) : ∀ (r s : List Int) (n : Nat), Bdd B n r → Bdd B n s → TS.code B r = TS.code B s → r = s
  | [], [], _, _, _, _ => rfl
  | [], _ :: _, n, hr, hs, _ => by have := hr.1; have := hs.1; simp at *; omega
  | _ :: _, [], n, hr, hs, _ => by have := hr.1; have := hs.1; simp at *; omega
  | x :: r, y :: s, n, hr, hs, e => by
    obtain ⟨m, rfl⟩ : ∃ m, n = m + 1 := ⟨r.length, by have := hr.1; simp at this; omega⟩
    have hr' : Bdd B m r := ⟨by simpa using hr.1, fun k hk => hr.2 k (List.mem_cons_of_mem _ hk)⟩
    have hs' : Bdd B m s := ⟨by simpa using hs.1, fun k hk => hs.2 k (List.mem_cons_of_mem _ hk)⟩
    obtain ⟨c0, c1⟩ := code_bd hB r hr'.2
    obtain ⟨f0, f1⟩ := code_bd hB s hs'.2
    rw [hr'.1] at c1
    rw [hs'.1] at f1
    have e' : x * B ^ r.length + TS.code B r = y * B ^ s.length + TS.code B s := e
    rw [hr'.1, hs'.1] at e'
    have hxy : x = y := by
      rcases Int.lt_trichotomy x y with h | h | h
      · have : (x + 1) * B ^ m ≤ y * B ^ m := Int.mul_le_mul_of_nonneg_right (by omega) (by omega)
        rw [Int.add_mul, Int.one_mul] at this
        omega
      · exact h
      · have : (y + 1) * B ^ m ≤ x * B ^ m := Int.mul_le_mul_of_nonneg_right (by omega) (by omega)
        rw [Int.add_mul, Int.one_mul] at this
        omega
    subst hxy
    rw [code_eq hB r s m hr' hs' (by omega)]
/-- ascending, each once, by the numbers -/
theorem sortR_srt {B : Int} (hB : 1 ≤ B) {n : Nat} : ∀ rs : List (List Int), (∀ r ∈ rs, Bdd B n r) → (sortR rs).Pairwise fun x y => TS.code B x < TS.code B y
  | [], _ => .nil
  | r :: rs, h => by
    have ih := sortR_srt hB rs fun x hx => h x (List.mem_cons_of_mem _ hx)
    have hb : ∀ x ∈ sortR rs, Bdd B n x := fun x hx => h x (List.mem_cons_of_mem _ ((sortR_mem x rs).mp hx))
    have hr := h r (List.mem_cons_self ..)
    show (insR r (sortR rs)).Pairwise _
    generalize sortR rs = l at ih hb
    induction l with
    | nil => exact .cons (fun _ h => nomatch h) .nil
    | cons y ys ihl =>
      have hy := hb y (List.mem_cons_self ..)
      unfold insR
      by_cases e : r = y
      · rw [if_pos e]; exact ih
      · rw [if_neg e]
        cases ih with
        | cons k1 k2 =>
        by_cases l : HT.lexLt r y = true
        · rw [if_pos l]
          have lt := (code_lt hB r y n hr hy).mp l
          refine .cons (fun z hz => ?_) (.cons k1 k2)
          rcases List.mem_cons.mp hz with rfl | hz
          · exact lt
          · exact Int.lt_trans lt (k1 z hz)
        · rw [if_neg l]
          refine .cons (fun z hz => ?_) (ihl k2 fun x hx => hb x (List.mem_cons_of_mem _ hx))
          rcases (insR_mem r z ys).mp hz with rfl | hz
          · have h1 : ¬ TS.code B z < TS.code B y := fun q => l ((code_lt hB z y n hr hy).mpr q)
            have h2 : TS.code B z ≠ TS.code B y := fun q => e (code_eq hB z y n hr hy q)
            omega
          · exact k1 z hz
theorem sort_uniq {B : Int} (hB : 1 ≤ B) {n : Nat} {rs l : List (List Int)} (hb : ∀ r ∈ rs, Bdd B n r) (nd : l.Nodup) (mem : ∀ x, x ∈ l ↔ x ∈ rs) (srt : l.Pairwise fun x y => TS.code B x ≤ TS.code B y) : l = sortR rs := by
  have hs := sortR_srt hB rs hb
  have nd' : (sortR rs).Nodup := hs.imp fun {x y} h z => by rw [z] at h; omega
  have pm : l.Perm (sortR rs) := (List.perm_ext_iff_of_nodup nd nd').mpr fun x => by rw [mem, sortR_mem]
  refine List.Perm.eq_of_pairwise (fun x y hx hy l1 l2 => ?_) srt (hs.imp fun {x y} h => Int.le_of_lt h) pm
  exact code_eq hB x y n (hb x ((mem x).mp hx)) (hb y ((sortR_mem y rs).mp hy)) (by omega)
/-- a bound for all numbers -/
def topI (rs : List (List Int)) : Int := rs.foldr (fun r a => r.foldr (fun m b => max (m + 1) b) a) 1
theorem topI_row : ∀ (r : List Int) (a : Int), a ≤ r.foldr (fun m b => max (m + 1) b) a ∧ ∀ m ∈ r, m < r.foldr (fun m b => max (m + 1) b) a
  | [], a => ⟨Int.le_refl _, fun _ h => nomatch h⟩
  | m :: r, a => by
    obtain ⟨h1, h2⟩ := topI_row r a
    rw [List.foldr_cons]
    refine ⟨Int.le_trans h1 (Int.le_max_right ..), fun k hk => ?_⟩
    rcases List.mem_cons.mp hk with rfl | hk
    · have := Int.le_max_left (k + 1) (r.foldr (fun m b => max (m + 1) b) a)
      omega
    · have := h2 k hk
      have := Int.le_max_right (m + 1) (r.foldr (fun m b => max (m + 1) b) a)
      omega
theorem topI_ok : ∀ (rs : List (List Int)), 1 ≤ topI rs ∧ ∀ r ∈ rs, ∀ m ∈ r, m < topI rs
  | [] => ⟨by decide, fun _ h => nomatch h⟩
  | r :: rs => by
    obtain ⟨h1, h2⟩ := topI_ok rs
    obtain ⟨k1, k2⟩ := topI_row r (topI rs)
    refine ⟨Int.le_trans h1 k1, fun x hx m hm => ?_⟩
    rcases List.mem_cons.mp hx with rfl | hx
    · exact k2 m hm
    · have := h2 x hx m hm
      show m < r.foldr (fun m b => max (m + 1) b) (topI rs)
      omega
def rowsB (rs : List (List Int)) : Bool := decide (rs.length < 64) && rs.all fun r => decide (1 ≤ r.length) && decide (r.length = (rs.headD []).length) && r.all fun m => decide (0 ≤ m)
def eSS (f : SEnv → Out Rv) : SEnv → Out Rv := eB f fun r env => match dr env r with
  | some (.lst ds) => (match rowsOf ds with
    | some rs => if rowsB rs = true then .ok (.f (rowsT (sortR rs))) env else .bad
    | none => .bad)
  | _ => .bad
section
variable {K : PySem.W.Frag} {Γ : Cls0} {X : Cx} {W : WX} {f : SEnv → Out Rv}
theorem rows_rpa {G : Hp} : ∀ {xs : List V} {rs : List (List Int)}, RpA K Γ G xs (rs.map rowT) → ∃ ks : List (Addr × List Int), xs = ks.map (fun q => V.ref q.1) ∧ ks.map (·.2) = rs ∧ ∀ q ∈ ks, SqT K G q.1 (q.2.map V.int)
  | xs, [], h => by cases h; exact ⟨[], rfl, rfl, fun _ h => nomatch h⟩
  | xs, r :: rs, h => by
    cases h with
    | cons h1 h2 =>
      obtain ⟨ks, e1, e2, e3⟩ := rows_rpa h2
      have h1' : Rp K Γ G _ (.tup (r.map D.int)) := h1
      cases h1' with
      | @tup a ys _ s rp =>
        have := ints_rpa rp (intsOf_map r)
        subst this
        refine ⟨(a, r) :: ks, by rw [e1]; rfl, by rw [List.map_cons, e2], fun q hq => ?_⟩
        rcases List.mem_cons.mp hq with rfl | hq
        · exact s
        · exact e3 q hq
theorem rpa_rows {G : Hp} : ∀ {ks : List (Addr × List Int)}, (∀ q ∈ ks, SqT K G q.1 (q.2.map V.int)) → RpA K Γ G (ks.map fun q => V.ref q.1) ((ks.map (·.2)).map rowT)
  | [], _ => .nil
  | q :: ks, h => .cons (Rp.tup (h q (List.mem_cons_self ..)) (rpa_ints q.2)) (rpa_rows fun p hp => h p (List.mem_cons_of_mem _ hp))
theorem sE_ss {a : Expr} {p p2 q pos : Pos} (hc : X.calm = true) (hu : X.A.units + 64 < cLine) (hg : Gl X "sorted") (hm : X.mg "sorted" = none) (hg2 : Gl X "set") (hm2 : X.mg "set" = none) (ha : PE X a (tE X.K Γ W f))
    (hs : starEach (a :: []) X.env = (false, eval a X.env) :: starEach [] X.env := by rfl) : PE X (.Call (.Name "sorted" p) [.Call (.Name "set" p2) [a] [] q] [] pos) (tE X.K Γ W (eSS f)) :=
  peI (pe_callB (cr_sortedT hc) hg hm PyProof.Rows.boot_sorted (pa_cons (pe_callTy (cr_setOfT hc hu) hg2 hm2 PyProof.Rows.boot_set (pa_cons ha pa_nil hs) (by decide) (by decide) hs rfl) pa_nil rfl) (by decide) (by decide) rfl rfl) fun σ H Q ⟨env, G, rel, at_⟩ => by
  refine tX.bind at_ (Post.refl rel) fun r env1 v G1 H1 e1 p1 rr a1 => ?_
  try dsimp only at a1
  split at a1
  · rename_i ds ed
    split at a1
    · rename_i rs er
      split at a1
      · rename_i hb
        obtain ⟨l, xs, rfl, el, al⟩ := RvR.lst rr p1.rel ed
        have eds := rowsOf_inv er
        subst eds
        obtain ⟨ks, rfl, ek, hk⟩ := rows_rpa al
        unfold rowsB at hb
        simp only [Bool.and_eq_true, decide_eq_true_eq, List.all_eq_true] at hb
        obtain ⟨hlen, hall⟩ := hb
        have lks : ks.length = rs.length := by rw [← ek, List.length_map]
        have hkH : ∀ q ∈ ks, SqT X.K H1 q.1 (q.2.map V.int) := fun q hq => (hk q hq).on p1.rel.sub
        obtain ⟨t1, t2⟩ := topI_ok rs
        have hbd : ∀ r ∈ rs, Bdd (topI rs) (rs.headD []).length r := fun r hr => ⟨(hall r hr).1.2, fun m hm => ⟨(hall r hr).2 m hm, t2 r hr m hm⟩⟩
        have kin : ∀ q ∈ ks, q.2 ∈ rs := fun q hq => by rw [← ek]; exact List.mem_map.mpr ⟨q, hq, rfl⟩
        refine ⟨l, ks, rfl, SqL.of el, hkH, by omega, fun S L nS m1 m2 => ?_⟩
        obtain ⟨k1, gS, noS⟩ := p1.rel.newF (o := SetTO X.prog X.w S L) nS
        have hne : rs ≠ [] → 1 ≤ (rs.headD []).length := fun h => by
          cases rs with
          | nil => exact absurd rfl h
          | cons r rs => exact (hall r (List.mem_cons_self ..)).1.1
        refine ⟨S, L, if rs = [] then 1 else (rs.headD []).length, topI rs, rfl, upd_same, fun q hq => (hkH q (m1 q hq)).on (snew (Same.refl _) nS), ?_, fun q hq => ?_, fun L' u pm nd hl ps nu => ?_⟩
        · by_cases z : rs = []
          · rw [if_pos z]; exact Nat.le_refl _
          · rw [if_neg z]; exact hne z
        · have hin := kin q (m1 q hq)
          have z : rs ≠ [] := fun z => by rw [z] at hin; cases hin
          rw [if_neg z]
          exact ⟨(hbd _ hin).1, (hbd _ hin).2⟩
        · obtain ⟨k2, gu, nou⟩ := k1.rel.newF (o := .lst (L'.map fun q => V.ref q.1)) nu
          have hin' : ∀ q ∈ L', q ∈ ks := fun q hq => m1 q (pm.mem_iff.mp hq)
          have es : L'.map (·.2) = sortR rs := by
            refine sort_uniq t1 hbd nd (fun x => ⟨fun hx => ?_, fun hx => ?_⟩) (List.pairwise_map.mpr ps)
            · obtain ⟨q, hq, rfl⟩ := List.mem_map.mp hx
              exact kin q (hin' q hq)
            · rw [← ek] at hx
              obtain ⟨q, hq, rfl⟩ := List.mem_map.mp hx
              obtain ⟨q', hq', e⟩ := List.mem_map.mp (m2 q hq)
              exact List.mem_map.mpr ⟨q', pm.mem_iff.mpr hq', e⟩
          have ra := rpa_rows (K := X.K) (Γ := Γ) (G := G1) (ks := L') fun q hq => hk q (hin' q hq)
          rw [es] at ra
          have nuH : H1 u = none := k1.dom nu
          exact a1.run (.f (rowsT (sortR rs))) (.ref u) env1 _ _ rfl ((p1.trans k1).trans k2) ⟨u, rfl, Own.lst gu upd_same ra, nou, p1.dom nuH⟩
      · exact absurd rfl a1.nb
    · exact absurd rfl a1.nb
  · exact absurd rfl a1.nb
end
end EV
set_option Elab.async false
set_option linter.all false
set_option maxRecDepth 100000
set_option maxHeartbeats 4000000
/-! range(i, j, -1); a, b = x, y; C.m(..) of a static method. -/
namespace EV
open PySem PySem.Spec PyProof.Rows L2 PySem.NearX
/-! ### range(i, j, -1) -/
def eRng3 (f g h : SEnv → Out Rv) : SEnv → Out (List D) := eB f fun r1 => eB g fun r2 => eB h fun r3 env => match dr env r1, dr env r2, dr env r3 with
  | some (.int i), some (.int j), some (.int c) => if c = -1 ∧ -(2 ^ 62) ≤ i ∧ i < 2 ^ 62 ∧ -(2 ^ 62) ≤ j ∧ j < 2 ^ 62 then .ok ((List.range (i - j).toNat).map fun (k : Nat) => D.int (i + k * (-1))) env else .bad
  | _, _, _ => .bad
section
variable {K : PySem.W.Frag} {Γ : Cls0} {G : Hp}
theorem walks_rngC {lo c : Int} {n : Nat} : Walks K Γ G (Itc lo c n) ((List.range n).map fun (k : Nat) => D.int (lo + k * c)) := by
  refine ⟨fun i H s hi => ?_, fun i H s hi => ?_, fun i env σ G1 H x H' rel s y d e => ?_⟩
  · have : i < n := by simpa using hi
    exact this
  · have : n ≤ i := by simpa using hi
    exact this
  · obtain ⟨rfl, rfl⟩ := y
    rw [List.getElem?_map] at e
    obtain ⟨k, ek, rfl⟩ := Option.map_eq_some_iff.mp e
    have hk := List.getElem?_eq_some_iff.mp ek
    obtain ⟨hk1, hk2⟩ := hk
    rw [List.getElem_range] at hk2
    subst hk2
    exact ⟨G1, Post.refl rel, .int _⟩
end
section
variable {X : Cx} {Γ : Cls0} {W : WX} {pos : Pos} {tg e e2 e3 : Expr} {f g h : SEnv → Out Rv}
theorem sI_rng3 {p : Pos} (hg : Gl X "range") (hm : X.mg "range" = none) (h1 : PE X e (tE X.K Γ W f)) (h2 : PE X e2 (tE X.K Γ W g)) (h3 : PE X e3 (tE X.K Γ W h)) (hs1 : starEach [e, e2, e3] X.env = (false, eval e X.env) :: starEach [e2, e3] X.env := by rfl) (hs2 : starEach [e2, e3] X.env = (false, eval e2 X.env) :: starEach [e3] X.env := by rfl) (hs3 : starEach [e3] X.env = (false, eval e3 X.env) :: starEach [] X.env := by rfl)
    (hpl : (backTo pos (starEach [e2, e3] X.env)).any (·.1) = false := by rfl) :
    PI X tg (.Call (.Name "range" p) [e, e2, e3] [] pos) (tI X.K Γ W (eRng3 f g h)) :=
  piI (pi_range3 hg hm (pa_cons h1 (pa_cons h2 (pa_cons h3 pa_nil hs3) hs2) hs1) hs1 hpl) fun σ H Q ⟨env, G, rel, a⟩ => by
  refine tX.bind a (Post.refl rel) fun r env1 v G1 H1 e1 p1 rr a1 => tX.bind a1 p1 fun r2 env2 v2 G2 H2 e2 p2 rr2 a2 => tX.bind a2 (p1.trans p2) fun r3 env3 v3 G3 H3 e3 p3 rr3 a3 => ?_
  split at a3
  · rename_i i j c ei ej ec
    split at a3
    · rename_i hc
      obtain ⟨rfl, k1, k2, k3, k4⟩ := hc
      refine ⟨i, j, -1, _, by rw [rp_int (RvR.rd ((rr.step p2).step p3) p3.rel ei), rp_int (RvR.rd (rr2.step p3) p3.rel ej), rp_int (RvR.rd rr3 p3.rel ec)], RgC.neg k1 k2 k3 k4, a3.run _ _ env3 G3 H3 rfl ((p1.trans p2).trans p3) walks_rngC⟩
    · exact absurd rfl a3.nb
  · exact absurd rfl a3.nb
/-! ### a, b = x, y -/
def sPar (i j : Nat) (g : SEnv → Out (List D)) : SEnv → SO := sB g fun ds env => match ds with
  | [d, d2] => if free env i = true ∧ free env j = true ∧ i ≠ j then .nx ((env.set i (.im d)).set j (.im d2)) else .bad
  | _ => .bad
theorem sS_par {i j : Nat} {x y : Str} {a b : Expr} {ga : SEnv → Out (List D)} {px py pt pos : Pos} {kt k2 pt2} (hc : X.calm = true) (hN : X.N.Nodup) (hi : X.N[i]? = some x) (hj : X.N[j]? = some y) (hij : i ≠ j)
    (hx : X.env.scope.names.lookup x = some .local) (hy : X.env.scope.names.lookup y = some .local) (ha : PA X [a, b] (tAs X.K Γ W ga))
    (hw : swappedStores [.Tuple [.Name x px, .Name y py] kt pt] (.Tuple [a, b] k2 pt2) X.env = pure (some [x, y]))
    (hs : swapsWithSole [.Tuple [.Name x px, .Name y py] kt pt] (.Tuple [a, b] k2 pt2) pos.line X.env = pure false := by rfl) :
    PS X (.Assign [.Tuple [.Name x px, .Name y py] kt pt] (.Tuple [a, b] k2 pt2) pos) (tS X.K Γ W (sPar i j ga)) := psI (ps_par hc hN hi hj hij hx hy ha hw hs) fun E σ H ⟨env, G, rel, a⟩ => by
  refine tX.bindS a (PostS.refl rel) fun ds env1 vs G1 H1 e1 p1 rr a1 => ?_
  split at a1
  · rename_i d d2
    split at a1
    · rename_i hf
      cases rr with
      | cons r1 rr =>
        cases rr with
        | cons r2 rr =>
          cases rr
          have k1 := p1.rel.setI hf.1 r1
          have f2 : free (env1.set i (.im d)) j = true := by
            have := hf.2.1
            unfold free at this ⊢
            rw [List.getElem?_set_ne hf.2.2]
            exact this
          have k2 := k1.rel.setI f2 r2
          exact ⟨_, _, rfl, a1.nx _ _ _ _ rfl ((p1.s.trans k1).trans k2)⟩
    · exact absurd rfl a1.nb
  · exact absurd rfl a1.nb
end
/-! ### C.m(e, ..), m a static method -/
structure StatM (K : PySem.W.Frag) (C : Addr) (m : Str) (f : Addr) : Prop where
  rd : ClX.CRead K C (.type "type")
  at_ : ∃ p rest, PySem.W.findCls K (.ref C) (.type "type") m = some (.get (.builtin "staticmethod.__get__") (.ref p) .none (.ref C)) ∧ PySem.W.recIn K p "staticmethod" = some (.ref f :: rest)
section
variable {X : Cx} {Γ : Cls0} {W : WX} {pos apos : Pos} {o e : Expr} {es : List Expr} {g : SEnv → Out (List Rv)} {gd : List D → Out D} {ms : List Bool} {k : Nat} {fa C : Addr} {fd : FuncData} {ps : List Str} {m : Str} {pl : Sem Bool}
theorem pe_stat {sp : Sp} {E : L2.St → XK} {t : TA} (he : PE X o (tC (.ref C))) (S : StatM X.K C m fa) (F : FnOk X.prog X.w X.K X.mg X.base (L2.CX X.prog X.w) k fa fd ps sp) (hr : Room k X.A) (hk : PySem.W.keepIn X.K (.ref fa) = true) (hb : Binds X.K fd ps []) (hx : ∀ σ, PassesAt (L2.CX X.prog X.w) X σ (E σ))
    (ha : PA X (e :: es) t) (hst : starEach (e :: es) X.env = (false, eval e X.env) :: starEach es X.env := by rfl) (hpl : (backTo pos (starEach es X.env)).any (·.1) = false := by rfl)
    (ht : eval (.Call (.Attribute o m apos) (e :: es) [] pos) X.env = (do
      let ov ← eval o X.env
      standAt apos.atName
      let (f, first) ← holding [ov] (getMethod ov m pl)
      callWith pos f first (backTo pos (starEach (e :: es) X.env)) (backToKw pos (keywordEach [] X.env))) := by rfl) :
    PE X (.Call (.Attribute o m apos) (e :: es) [] pos) (tCallS sp E t) := by
  refine ⟨fun pins s σ H Q I h => ?_⟩
  refine PySem.W.methodCall_KW (pl := pl) (thn (he.run pins s σ H (fun x H1 => x = .ref C ∧ H1 = H) I (show _ = _ ∧ _ = _ from ⟨rfl, rfl⟩)) fun u s1 ⟨x, H1, I1, rx, ex, eH⟩ => ?_) ht
  subst ex eH
  obtain rfl : u = Value.ref C := rx
  obtain ⟨p, rest, h1, h2⟩ := S.at_
  refine PySem.W.method_cls I1.kIn S.rd.ga (PySem.W.cls_bind I1.kIn S.rd.rd h1 (wpAny_call (PySem.W.sm_get (s := { s1 with toks := s1.toks + 1 }) I1.kIn h2 (PySem.W.handed_on rfl ?_))))
  have I2 : Inv X pins σ H1 { s1 with toks := s1.toks + 1 } := I1.tok _
  refine PySem.W.callWith_K (h₀ := X.base) I1.ok.mod.kin hk (thn (ha.run pos pins _ σ H1 _ I2 h) fun us s3 ⟨vs, H2, I3, rv, q2⟩ => ⟨I3.kIn, ?_⟩) hst hpl
  exact run_fnS F hr hb (hx σ) I3 rv q2
theorem sE_stat (he : PE X o (tC (.ref C))) (S : StatM X.K C m fa) (F : FnOk X.prog X.w X.K X.mg X.base (L2.CX X.prog X.w) k fa fd ps (spF X.K Γ ms gd)) (hr : Room k X.A) (hk : PySem.W.keepIn X.K (.ref fa) = true) (hb : Binds X.K fd ps []) (hx : ∀ σ, PassesAt (L2.CX X.prog X.w) X σ (WE W σ))
    (ha : PA X (e :: es) (tAr X.K Γ W g)) (hst : starEach (e :: es) X.env = (false, eval e X.env) :: starEach es X.env := by rfl) (hpl : (backTo pos (starEach es X.env)).any (·.1) = false := by rfl)
    (ht : eval (.Call (.Attribute o m apos) (e :: es) [] pos) X.env = (do
      let ov ← eval o X.env
      standAt apos.atName
      let (f, first) ← holding [ov] (getMethod ov m pl)
      callWith pos f first (backTo pos (starEach (e :: es) X.env)) (backToKw pos (keywordEach [] X.env))) := by rfl) :
    PE X (.Call (.Attribute o m apos) (e :: es) [] pos) (tE X.K Γ W (eCall gd ms g)) :=
  peI (pe_stat he S F hr hk hb hx ha hst hpl ht) fun σ H Q ⟨env, G, rel, a⟩ => tX.bind a (Post.refl rel) fun rs env1 vs G1 H1 e1 p1 rr a1 => call_sp p1 rr a1
end
end EV
set_option Elab.async false
set_option linter.all false
set_option maxRecDepth 100000
set_option maxHeartbeats 4000000
/-! Comprehensions of two clauses. -/
namespace EV
open PySem PySem.Spec PyProof.Rows L2 PySem.NearX
theorem wipeE_sub (env : SEnv) {vs1 vs : List Nat} (h : ∀ i ∈ vs1, i ∈ vs) : wipeE (wipeE env vs1) vs = wipeE env vs := by
  refine List.ext_getElem? fun j => ?_
  by_cases hj : j ∈ vs
  · by_cases hl : j < env.length
    · rw [wipeE_in _ hj (by rw [wipeE_len]; exact hl), wipeE_in _ hj hl]
    · rw [List.getElem?_eq_none (by rw [wipeE_len, wipeE_len]; omega), List.getElem?_eq_none (by rw [wipeE_len]; omega)]
  · rw [wipeE_out _ hj, wipeE_out _ fun z => hj (h j z), wipeE_out _ hj]
theorem wipe_sub (σ : L2.St) {vs1 vs : List Nat} (h : ∀ i ∈ vs1, i ∈ vs) : wipe (wipe σ vs1) vs = wipe σ vs := by
  refine List.ext_getElem? fun j => ?_
  by_cases hj : j ∈ vs
  · by_cases hl : j < σ.length
    · rw [wipe_in hj (by rw [wipe_length]; exact hl), wipe_in hj hl]
    · rw [List.getElem?_eq_none (by rw [wipe_length, wipe_length]; omega), List.getElem?_eq_none (by rw [wipe_length]; omega)]
  · rw [wipe_out hj, wipe_out fun z => hj (h j z), wipe_out hj]
theorem wipeE_tg {env env' : SEnv} {is vs : List Nat} (hs : ∀ i ∈ is, i ∈ vs) (l : env'.length = env.length) (o : ∀ j : Nat, j ∉ is → env'[j]? = env[j]?) : wipeE env' vs = wipeE env vs := by
  refine List.ext_getElem? fun j => ?_
  by_cases hj : j ∈ vs
  · by_cases hl : j < env.length
    · rw [wipeE_in _ hj (by omega), wipeE_in _ hj hl]
    · rw [List.getElem?_eq_none (by rw [wipeE_len]; omega), List.getElem?_eq_none (by rw [wipeE_len]; omega)]
  · rw [wipeE_out _ hj, wipeE_out _ hj]
    exact o j fun z => hj (hs j z)
theorem Ks.wipe {a b : SEnv} (h : Ks a b) (vs : List Nat) : Ks (wipeE a vs) (wipeE b vs) := by
  have ins : ∀ {j : Nat} {s : Sl}, j ∈ vs → (wipeE a vs)[j]? = some s → s = .no ∧ (wipeE b vs)[j]? = some .no := fun {j s} hj e => by
    have hl : j < a.length := by
      have := (List.getElem?_eq_some_iff.mp e).1
      rw [wipeE_len] at this
      exact this
    rw [wipeE_in a hj hl] at e
    cases e
    exact ⟨rfl, wipeE_in b hj (by rw [h.len]; exact hl)⟩
  refine ⟨by rw [wipeE_len, wipeE_len, h.len], fun j d e => ?_, fun j c d e => ?_, fun j e => ?_⟩
  · by_cases hj : j ∈ vs
    · cases (ins hj e).1
    · rw [wipeE_out b hj]; exact h.im j d (by rw [← wipeE_out a hj]; exact e)
  · by_cases hj : j ∈ vs
    · cases (ins hj e).1
    · rw [wipeE_out b hj]; exact h.mu j c d (by rw [← wipeE_out a hj]; exact e)
  · by_cases hj : j ∈ vs
    · exact (ins hj e).2
    · rw [wipeE_out b hj]; exact h.no j (by rw [← wipeE_out a hj]; exact e)
/-- within a turn -/
structure Mid (K : PySem.W.Frag) (Γ : Cls0) (env : SEnv) (σ : L2.St) (vs : List Nat) (Dd : Addr) (G1 H1 : Hp) (acc : List D) (envx : SEnv) (σx : L2.St) (G' H' : Hp) : Prop where
  rel : Rel K Γ envx σx G' H'
  ks : Ks (wipeE env vs) (wipeE envx vs)
  ow : ∀ p, Ow envx σx p → Ow (wipeE env vs) (wipe σ vs) p
  wp : wipe σx vs = wipe σ vs
  fr : Fr (fun b => Ow (wipeE env vs) (wipe σ vs) b ∨ b = Dd) G1 (upd H1 Dd (.lst [])) G' H'
  gd : G' Dd = none
  xs : ∃ xs, H' Dd = some (.lst xs) ∧ RpA K Γ G' xs acc
  no : ¬ Ow (wipeE env vs) (wipe σ vs) Dd
section
variable {K : PySem.W.Frag} {Γ : Cls0} {env : SEnv} {σ : L2.St} {vs vs1 is : List Nat} {Dd : Addr} {G1 H1 : Hp} {acc : List D} {envx envy : SEnv} {σx σy : L2.St} {G' H' G2 H2 : Hp}
theorem Mid.exp (m : Mid K Γ env σ vs Dd G1 H1 acc envx σx G' H') (p : Post K Γ envx σx G' H' envy G2 H2) : Mid K Γ env σ vs Dd G1 H1 acc envy σx G2 H2 := by
  obtain ⟨xs, e, r⟩ := m.xs
  have n : ¬ Ow envx σx Dd := fun z => m.no (m.ow _ z)
  refine ⟨p.rel, m.ks.trans (p.ks.wipe vs), fun q z => m.ow q (p.ks.ow z), m.wp, m.fr.trans p.fr fun q z => .inl (.inl (m.ow q z)), ?_, ⟨xs, p.fr.h _ _ n e, r.on p.fr.g⟩, m.no⟩
  cases q : G2 Dd with
  | none => rfl
  | some u =>
    rcases p.fr.n Dd (by rw [q]; exact fun z => nomatch z) with z | z | z
    · exact absurd m.gd z
    · rw [e] at z; cases z
    · exact absurd z n
theorem Mid.tgt (m : Mid K Γ env σ vs Dd G1 H1 acc envx σx G' H') (hs : ∀ i ∈ is, i ∈ vs) (l : envy.length = envx.length) (o : ∀ j : Nat, j ∉ is → envy[j]? = envx[j]?) (oq : Off is σx σy) (q : PostS K Γ envx σx G' H' envy σy G' H') : Mid K Γ env σ vs Dd G1 H1 acc envy σy G' H' := by
  refine ⟨q.rel, by rw [wipeE_tg hs l o]; exact m.ks, fun p z => ?_, ?_, m.fr, m.gd, m.xs, m.no⟩
  · rcases q.ow p z with z' | z'
    · exact m.ow p z'
    · exact absurd z' (q.rel.ow z).2
  · rw [← m.wp]
    refine List.ext_getElem? fun j => ?_
    by_cases hj : j ∈ vs
    · by_cases hl : j < σx.length
      · rw [wipe_in hj (by rw [oq.1]; exact hl), wipe_in hj hl]
      · rw [List.getElem?_eq_none (by rw [wipe_length, oq.1]; omega), List.getElem?_eq_none (by rw [wipe_length]; omega)]
    · rw [wipe_out hj, wipe_out hj]
      exact oq.2 j fun z => hj (hs j z)
theorem Mid.wip (m : Mid K Γ env σ vs Dd G1 H1 acc envx σx G' H') (h : ∀ i ∈ vs1, i ∈ vs) : Mid K Γ env σ vs Dd G1 H1 acc (wipeE envx vs1) (wipe σx vs1) G' H' := by
  refine ⟨m.rel.wipe vs1, by rw [wipeE_sub _ h]; exact m.ks, fun p z => ?_, by rw [wipe_sub _ h]; exact m.wp, m.fr, m.gd, m.xs, m.no⟩
  obtain ⟨j, _, z⟩ := ow_wipe z
  exact m.ow p ⟨j, z⟩
theorem Mid.app {y : D} {v : V} (m : Mid K Γ env σ vs Dd G1 H1 acc envx σx G' H') (r : Rp K Γ G' v y) : ∃ xs, H' Dd = some (.lst xs) ∧ xs.length = acc.length ∧ Mid K Γ env σ vs Dd G1 H1 (acc ++ [y]) envx σx G' (upd H' Dd (.lst (xs ++ [v]))) := by
  obtain ⟨xs, e, ra⟩ := m.xs
  have n : ¬ Ow envx σx Dd := fun z => m.no (m.ow _ z)
  refine ⟨xs, e, ra.len, m.rel.beside m.gd n, m.ks, m.ow, m.wp, ?_, m.gd, ⟨_, upd_same, ra.append (.cons r .nil)⟩, m.no⟩
  refine m.fr.trans (A1 := fun b => b = Dd) ⟨Same.refl _, fun b o n e => ?_, fun b z => .inl z, fun b z => ?_⟩ fun p z => .inl (.inr z)
  · rw [upd_ne n]; exact e
  · by_cases q' : b = Dd
    · subst q'; rw [upd_same]; exact fun z => nomatch z
    · rw [upd_ne q']; exact z
end
def comp2F (tg : D → SEnv → Option SEnv) (c : SEnv → Out Bool) (fi1 : SEnv → Out (List D)) (tg1 : D → SEnv → Option SEnv) (c1 : SEnv → Out Bool) (fe : SEnv → Out D) (vs vs1 : List Nat) : List D → List D → SEnv → Out (List D)
  | [], acc, env => .ok acc env
  | d :: ds, acc, env => match tg d env with
    | none => .bad
    | some env1 => match c env1 with
      | .ok true env2 => (match fi1 env2 with
        | .ok ds1 env3 => (match compF tg1 c1 fe vs1 ds1 acc (wipeE env3 vs1) with
          | .ok acc' env4 => comp2F tg c fi1 tg1 c1 fe vs vs1 ds acc' (wipeE env4 vs)
          | _ => .bad)
        | _ => .bad)
      | .ok false env2 => comp2F tg c fi1 tg1 c1 fe vs vs1 ds acc (wipeE env2 vs)
      | _ => .bad
def eLc2 (fi : SEnv → Out (List D)) (tg : D → SEnv → Option SEnv) (c : SEnv → Out Bool) (fi1 : SEnv → Out (List D)) (tg1 : D → SEnv → Option SEnv) (c1 : SEnv → Out Bool) (fe : SEnv → Out D) (vs vs1 : List Nat) : SEnv → Out Rv := eB fi fun ds env => if okW env vs = true then
  (match comp2F tg c fi1 tg1 c1 fe vs vs1 ds [] (wipeE env vs) with
    | .ok acc env' => .ok (.f (.lst acc)) (resE env env' vs)
    | _ => .bad) else .bad
section
variable {Γ : Cls0} {W : WX} {fi fi1 : SEnv → Out (List D)} {tg tg1 : D → SEnv → Option SEnv} {c c1 : SEnv → Out Bool} {fe : SEnv → Out D} {vs vs1 is is1 : List Nat}
theorem lc2_run {K : PySem.W.Frag} {σ : L2.St} {H : Hp} {Q : VK} (ho : TgOff is tg) (hs : ∀ i ∈ is, i ∈ vs) (ho1 : TgOff is1 tg1) (hs1 : ∀ i ∈ is1, i ∈ vs1) (hv : ∀ i ∈ vs1, i ∈ vs) (z : tE K Γ W (eLc2 fi tg c fi1 tg1 c1 fe vs vs1) σ H Q) :
    tLc2 (tI K Γ W fi) (tTg K Γ is tg) (tT K Γ WF c) (tI K Γ WF fi1) (tTg K Γ is1 tg1) (tT K Γ WF c1) (tK K Γ WF fe) vs vs1 σ H Q := by
  obtain ⟨env0, G0, rel0, a⟩ := z
  refine tX.bind a (Post.refl rel0) fun ds env J G1 H1 e1 p1 w a1 => fun Dd nD => ?_
  by_cases hw : okW env vs = true
  · simp only [hw, if_true] at a1
    cases hO : comp2F tg c fi1 tg1 c1 fe vs vs1 ds [] (wipeE env vs) with
    | bad => simp only [hO] at a1; exact absurd rfl a1.nb
    | ex _ _ _ => simp only [hO] at a1; exact absurd rfl a1.nb
    | ok accF envF =>
    simp only [hO] at a1
    have gD1 : G1 Dd = none := by
      cases q : G1 Dd with
      | none => rfl
      | some u => rw [p1.rel.sub _ _ q] at nD; cases nD
    have nOw : ¬ Ow (wipeE env vs) (wipe σ vs) Dd := fun q => by
      obtain ⟨j, _, q⟩ := ow_wipe q
      exact (p1.rel.ow ⟨j, q⟩).2 nD
    have relw := (p1.rel.wipe vs).beside (o := .lst []) gD1 nOw
    have m0 : Mid K Γ env σ vs Dd G1 H1 [] (wipeE env vs) (wipe σ vs) G1 (upd H1 Dd (.lst [])) := ⟨relw, by rw [wipeE_sub _ fun _ h => h]; exact Ks.refl _, fun _ z => z, wipe_sub _ fun _ h => h, Fr.refl, gD1, ⟨[], upd_same, .nil⟩, nOw⟩
    refine ⟨fun i m H' => m = ds.length - i ∧ i ≤ ds.length ∧ ∃ env' G' acc, Mid K Γ env σ vs Dd G1 H1 acc env' (wipe σ vs) G' H' ∧ wipeE env' vs = env' ∧
      comp2F tg c fi1 tg1 c1 fe vs vs1 (ds.drop i) acc env' = .ok accF envF, ⟨ds.length, by simp, Nat.zero_le _, wipeE env vs, G1, [], m0, wipeE_sub _ fun _ h => h, by rw [List.drop_zero]; exact hO⟩, ?_⟩
    rintro i m H' ⟨rfl, hi, env', G', acc, md, ew', ec⟩
    by_cases hlt : i < ds.length
    · refine .inr ⟨w.go i H' (md.fr.g.trans md.rel.sub) hlt, fun H2 => ∃ env' G' acc, Mid K Γ env σ vs Dd G1 H1 acc env' (wipe σ vs) G' H2 ∧ wipeE env' vs = env' ∧ comp2F tg c fi1 tg1 c1 fe vs vs1 (ds.drop (i + 1)) acc env' = .ok accF envF,
        fun H2 z => ⟨ds.length - (i + 1), by omega, rfl, hlt, z⟩, fun x H'' y => ?_⟩
      obtain ⟨G2, k, hx⟩ := w.yld i env' (wipe σ vs) G' H' x H'' md.rel md.fr.g y ds[i] (List.getElem?_eq_getElem hlt)
      rw [List.drop_eq_getElem_cons hlt] at ec
      unfold comp2F at ec
      cases et : tg ds[i] env' with
      | none => rw [et] at ec; cases ec
      | some env2 =>
      simp only [et] at ec
      have md2 := md.exp k
      refine ⟨env', G2, ds[i], env2, k.rel, hx, et, fun σ2 q oq => ⟨by rw [wipe_off oq hs], ?_⟩⟩
      obtain ⟨lt2, of2⟩ := ho _ _ _ et
      have md3 := md2.tgt hs lt2 of2 oq q
      cases ecnd : c env2 with
      | bad => simp only [ecnd] at ec; cases ec
      | ex _ _ _ => simp only [ecnd] at ec; cases ec
      | ok b env3 =>
      refine ⟨env2, G2, q.rel, (by rw [ecnd]; exact fun z => (nomatch z)), fun b' env3' v G3 H3 e3 p3 rb => ?_, fun _ _ _ _ _ _ _ e3 _ _ => by rw [ecnd] at e3; cases e3⟩
      rw [ecnd] at e3
      cases e3
      obtain rfl : v = b := rb
      have md4 := md3.exp p3
      cases v with
      | false =>
        simp only [ecnd] at ec
        have md5 := md4.wip (vs1 := vs) fun _ h => h
        rw [md4.wp] at md5
        exact iteF ⟨wipeE env3 vs, G3, acc, md5, wipeE_sub _ fun _ h => h, ec⟩
      | true =>
        simp only [ecnd] at ec
        cases ef : fi1 env3 with
        | bad => simp only [ef] at ec; cases ec
        | ex _ _ _ => simp only [ef] at ec; cases ec
        | ok ds1 env4 =>
        simp only [ef] at ec
        cases ei : compF tg1 c1 fe vs1 ds1 acc (wipeE env4 vs1) with
        | bad => simp only [ei] at ec; cases ec
        | ex _ _ _ => simp only [ei] at ec; cases ec
        | ok acc' env5 =>
        simp only [ei] at ec
        refine iteT ⟨env3, G3, p3.rel, (by rw [ef]; exact fun z => (nomatch z)), fun ds1' env4' J1 G4 H4 e4 p4 w1 => ?_, fun _ _ _ _ _ _ _ e3 _ _ => by rw [ef] at e3; cases e3⟩
        rw [ef] at e4
        cases e4
        have md5 := md4.exp p4
        refine ⟨fun j m H' => m = ds1.length - j ∧ j ≤ ds1.length ∧ ∃ envx G' accx, Mid K Γ env σ vs Dd G1 H1 accx envx (wipe σ2 vs1) G' H' ∧ Same G4 G' ∧ compF tg1 c1 fe vs1 (ds1.drop j) accx envx = .ok acc' env5,
          ⟨ds1.length, by simp, Nat.zero_le _, wipeE env4 vs1, G4, acc, md5.wip hv, Same.refl _, by rw [List.drop_zero]; exact ei⟩, ?_⟩
        rintro j m H5 ⟨rfl, hj, envx, Gx, accx, mx, sx, ex⟩
        by_cases hlj : j < ds1.length
        · refine .inr ⟨w1.go j H5 (sx.trans mx.rel.sub) hlj, fun H2 => ∃ envx G' accx, Mid K Γ env σ vs Dd G1 H1 accx envx (wipe σ2 vs1) G' H2 ∧ Same G4 G' ∧ compF tg1 c1 fe vs1 (ds1.drop (j + 1)) accx envx = .ok acc' env5,
            fun H2 z => ⟨ds1.length - (j + 1), by omega, rfl, hlj, z⟩, fun x H6 y => ?_⟩
          obtain ⟨G6, k6, hx6⟩ := w1.yld j envx (wipe σ2 vs1) Gx H5 x H6 mx.rel sx y ds1[j] (List.getElem?_eq_getElem hlj)
          rw [List.drop_eq_getElem_cons hlj] at ex
          unfold compF at ex
          cases et1 : tg1 ds1[j] envx with
          | none => rw [et1] at ex; cases ex
          | some envy =>
          simp only [et1] at ex
          have m6 := mx.exp k6
          have s6 := sx.trans k6.fr.g
          refine ⟨envx, G6, ds1[j], envy, k6.rel, hx6, et1, fun σ3 q3 oq3 => ⟨wipe_off oq3 hs1, ?_⟩⟩
          obtain ⟨lt3, of3⟩ := ho1 _ _ _ et1
          have m7 := m6.tgt (fun i hi => hv i (hs1 i hi)) lt3 of3 oq3 q3
          have ew3 : wipe σ3 vs1 = wipe σ2 vs1 := wipe_off oq3 hs1
          cases ec1 : c1 envy with
          | bad => simp only [ec1] at ex; cases ex
          | ex _ _ _ => simp only [ec1] at ex; cases ex
          | ok b1 envz =>
          refine ⟨envy, G6, q3.rel, (by rw [ec1]; exact fun z => (nomatch z)), fun b' env3' v G7 H7 e7 p7 rb => ?_, fun _ _ _ _ _ _ _ e3 _ _ => by rw [ec1] at e3; cases e3⟩
          rw [ec1] at e7
          cases e7
          obtain rfl : v = b1 := rb
          have m8 := m7.exp p7
          have s8 := s6.trans p7.fr.g
          cases v with
          | false =>
            simp only [ec1] at ex
            have m9 := m8.wip hv
            rw [ew3] at m9
            exact iteF ⟨wipeE envz vs1, G7, accx, m9, s8, ex⟩
          | true =>
            simp only [ec1] at ex
            cases ef1 : fe envz with
            | bad => simp only [ef1] at ex; cases ex
            | ex _ _ _ => simp only [ef1] at ex; cases ex
            | ok yv envw =>
            simp only [ef1] at ex
            by_cases hz : accx.length < sizeLine
            · simp only [hz, if_true] at ex
              refine iteT ⟨envz, G7, p7.rel, (by rw [ef1]; exact fun z => (nomatch z)), fun y' env4' v G8 H8 e8 p8 hy => ?_, fun _ _ _ _ _ _ _ e3 _ _ => by rw [ef1] at e3; cases e3⟩
              rw [ef1] at e8
              cases e8
              have m9 := m8.exp p8
              obtain ⟨xs, exs, lxs, m10⟩ := m9.app hy
              refine ⟨xs, exs, by rw [lxs]; exact hz, wipeE envw vs1, G8, accx ++ [yv], ?_, s8.trans p8.fr.g, ex⟩
              have m11 := m10.wip hv
              rw [ew3] at m11
              exact m11
            · simp only [hz, if_false] at ex; cases ex
        · have e : j = ds1.length := by omega
          subst e
          rw [List.drop_length] at ex
          unfold compF at ex
          cases ex
          refine .inl ⟨w1.stop _ H5 (sx.trans mx.rel.sub) (Nat.le_refl _), ?_⟩
          have mE := mx.wip (vs1 := vs) fun _ h => h
          rw [mx.wp] at mE
          exact ⟨_, _, _, mE, wipeE_sub _ fun _ h => h, ec⟩
    · have e : i = ds.length := by omega
      subst e
      rw [List.drop_length] at ec
      unfold comp2F at ec
      cases ec
      have ks' : Ks (wipeE env vs) envF := by have := md.ks; rw [ew'] at this; exact this
      have fr' := md.fr
      have rel' := md.rel
      have gD' := md.gd
      obtain ⟨xs, eD', ra'⟩ := md.xs
      refine .inl ⟨w.stop _ H' (fr'.g.trans rel'.sub) (Nat.le_refl _), ?_⟩
      have hlenF : envF.length = env.length := by rw [ks'.len, wipeE_len]
      have okv : ∀ v ∈ vs, ∀ s, env[v]? = some s → s = .no ∨ ∃ d, s = .im d := fun v hv s e => by
        have := List.all_eq_true.mp hw v hv
        simp only [e] at this
        cases s with
        | no => exact .inl rfl
        | im d => exact .inr ⟨d, rfl⟩
        | mu b d => cases this
      have inv : ∀ {j : Nat} {s : Sl}, j ∈ vs → (resE env envF vs)[j]? = some s → env[j]? = some s := fun {j s} hj e => by
        have hl : j < envF.length := by
          have := (List.getElem?_eq_some_iff.mp e).1
          rw [resE_len] at this
          exact this
        rw [resE_in env envF hj hl] at e
        cases e
        rw [List.getElem?_eq_getElem (by omega), List.getD_eq_getElem?_getD, List.getElem?_eq_getElem (by omega)]
        rfl
      have inv2 : ∀ {j : Nat} {s : Sl}, j ∈ vs → env[j]? = some s → (resE env envF vs)[j]? = some s := fun {j s} hj e => by
        have hl := (List.getElem?_eq_some_iff.mp e).1
        rw [resE_in env envF hj (by omega), List.getD_eq_getElem?_getD, e]
        rfl
      have frF : Fr (Ow env σ) G1 H1 G' H' := by
        refine ⟨fr'.g, fun b o n e => fr'.h b o (fun z => ?_) (by rw [upd_ne (ne_of_none e nD)]; exact e), fun b z => ?_, fun b z => fr'.d b ?_⟩
        · rcases z with z | z
          · obtain ⟨j, _, z⟩ := ow_wipe z
            exact n ⟨j, z⟩
          · subst z; rw [nD] at e; cases e
        · rcases fr'.n b z with z' | z' | z'
          · exact .inl z'
          · by_cases q : b = Dd
            · subst q; exact absurd gD' z
            · rw [upd_ne q] at z'; exact .inr (.inl z')
          · rcases z' with z' | z'
            · obtain ⟨j, _, z'⟩ := ow_wipe z'
              exact .inr (.inr ⟨j, z'⟩)
            · subst z'; exact absurd gD' z
        · by_cases q : b = Dd
          · subst q; exact absurd nD z
          · rw [upd_ne q]; exact z
      have backF : ∀ {j : Nat} {p : Addr}, OwAt (resE env envF vs) σ j p → j ∉ vs ∧ OwAt envF (wipe σ vs) j p := fun {j p} z => by
        obtain ⟨⟨b, d, z1⟩, z2⟩ := z
        by_cases hj : j ∈ vs
        · rcases okv j hj _ (inv hj z1) with q | ⟨d', q⟩ <;> cases q
        · rw [resE_out env envF hj] at z1
          exact ⟨hj, ⟨b, d, z1⟩, by rw [wipe_out hj]; exact z2⟩
      have relF : Rel K Γ (resE env envF vs) σ G' H' := by
        refine ⟨by rw [resE_len, hlenF]; exact p1.rel.len, rel'.sub, fun j s o e1 e2 => ?_, fun j k p h1 h2 => rel'.dj j k p (backF h1).2 (backF h2).2⟩
        by_cases hj : j ∈ vs
        · have e0 := inv hj e1
          have h := p1.rel.sl j s o e0 e2
          rcases okv j hj s e0 with rfl | ⟨d, rfl⟩
          · trivial
          · cases o with
            | none => exact h
            | some v => exact Rp.on fr'.g h
        · rw [resE_out env envF hj] at e1
          exact rel'.sl j s o e1 (by rw [wipe_out hj]; exact e2)
      have ksF : Ks env (resE env envF vs) := by
        refine ⟨by rw [resE_len, hlenF], fun j d e => ?_, fun j b d e => ?_, fun j e => ?_⟩
        · by_cases hj : j ∈ vs
          · exact inv2 hj e
          · rw [resE_out env envF hj]; exact ks'.im j d (by rw [wipeE_out env hj]; exact e)
        · by_cases hj : j ∈ vs
          · rcases okv j hj _ e with q | ⟨d', q⟩ <;> cases q
          · rw [resE_out env envF hj]; exact ks'.mu j b d (by rw [wipeE_out env hj]; exact e)
        · by_cases hj : j ∈ vs
          · exact inv2 hj e
          · rw [resE_out env envF hj]; exact ks'.no j (by rw [wipeE_out env hj]; exact e)
      refine a1.run (.f (.lst _)) (.ref Dd) _ G' H' rfl (p1.trans ⟨relF, ksF, frF⟩) ⟨Dd, rfl, Own.lst gD' eD' ra', fun z => ?_, p1.dom nD⟩
      obtain ⟨j, z⟩ := z
      exact nOw (ks'.ow ⟨j, (backF z).2⟩)
  · simp only [hw, if_false, Bool.false_eq_true] at a1; exact absurd rfl a1.nb
end
section
variable {X : Cx} {Γ : Cls0} {W : WX} {pos : Pos} {elt tgt iter tgt1 iter1 : Expr} {ifs ifs1 : List Expr} {scope : Scope} {own : List (Str × Nat)} {fi fi1 : SEnv → Out (List D)} {tg tg1 : D → SEnv → Option SEnv} {c c1 : SEnv → Out Bool} {fe : SEnv → Out Rv} {is is1 vs1 : List Nat}
theorem sE_lc2 (hc : X.calm = true) (hN : X.N.Nodup) (hi : PI X tgt iter (tI X.K Γ W fi)) (ok : BlkOk X.N X.env.scope scope own) (hv : ∀ i ∈ vs1, i ∈ own.map (·.2)) (ho : TgOff is tg) (hs : ∀ i ∈ is, i ∈ own.map (·.2)) (ho1 : TgOff is1 tg1) (hs1 : ∀ i ∈ is1, i ∈ vs1)
    (hg : ∀ (s : Shared) (H : Hp) (C : Addr) (cl : List (Str × Addr)) (fp : List Addr), PG (X.blk s H scope (compEnvC scope cl C X.env) fp) tgt (tTg X.K Γ is tg)) (ht : ∀ (s : Shared) (H : Hp) (C : Addr) (cl : List (Str × Addr)) (fp : List Addr), PTs (X.blk s H scope (compEnvC scope cl C X.env) fp) ifs (tT X.K Γ WF c))
    (hi1 : ∀ (s : Shared) (H : Hp) (C : Addr) (cl : List (Str × Addr)) (fp : List Addr), PI (X.blk s H scope (compEnvC scope cl C X.env) fp) tgt1 iter1 (tI X.K Γ WF fi1))
    (hg1 : ∀ (s : Shared) (H : Hp) (C : Addr) (cl : List (Str × Addr)) (fp : List Addr), PG (X.blk s H scope (compEnvC scope cl C X.env) fp) tgt1 (tTg X.K Γ is1 tg1)) (ht1 : ∀ (s : Shared) (H : Hp) (C : Addr) (cl : List (Str × Addr)) (fp : List Addr), PTs (X.blk s H scope (compEnvC scope cl C X.env) fp) ifs1 (tT X.K Γ WF c1))
    (he : ∀ (s : Shared) (H : Hp) (C : Addr) (cl : List (Str × Addr)) (fp : List Addr), PE (X.blk s H scope (compEnvC scope cl C X.env) fp) elt (tE X.K Γ WF fe)) (hf : ∀ x, foldedSetIterable iter X.env x = pure x := by intro _; rfl) (hf1 : ∀ env x, foldedSetIterable iter1 env x = pure x := by intro _ _; rfl) :
    PE X (.ListComp elt [⟨tgt, iter, ifs, 0⟩, ⟨tgt1, iter1, ifs1, 0⟩] scope pos) (tE X.K Γ W (eLc2 fi tg c fi1 tg1 c1 (eK fe) (own.map (·.2)) vs1)) :=
  peI (pe_lc2 hc hN hi ok hv hg ht hi1 hg1 ht1 (fun s H C cl fp => sK (he s H C cl fp)) hf hf1) fun σ H Q z => lc2_run ho hs ho1 hs1 hv z
end
end EV
set_option Elab.async false
set_option linter.all false
set_option maxRecDepth 100000
set_option maxHeartbeats 4000000
/-! Generator defs that raise nothing; list(g(..)). -/
namespace EV
open PySem PySem.Spec PyProof.Rows L2 PySem.NearX
inductive GO where
  | nx (e : SEnv) (ys : List D) | bad
abbrev GF := SEnv → List D → GO
def tGn (K : PySem.W.Frag) (Γ : Cls0) (f : GF) : TGn := fun E vs σ H => ∃ env G ys, Rel K Γ env σ G H ∧ RpA K Γ G vs ys ∧ f env ys ≠ .bad ∧
  ∀ env' ys' vs' σ' G' H', f env ys = .nx env' ys' → PostS K Γ env σ G H env' σ' G' H' → RpA K Γ G' vs' ys' → E.nx vs' σ' H'
def gPl (f : SEnv → SO) : GF := fun env ys => match f env with
  | .nx e => .nx e ys
  | _ => .bad
def gYd (f : SEnv → Out Rv) : GF := fun env ys => if ys.length < sizeLine then (match eK f env with
  | .ok d e => .nx e (ys ++ [d])
  | _ => .bad) else .bad
def gNil : GF := fun env ys => .nx env ys
def gSeq (f g : GF) : GF := fun env ys => match f env ys with
  | .nx e ys => g e ys
  | .bad => .bad
def gWh (c : SEnv → Out Bool) (b : GF) : Nat → GF
  | 0, _, _ => .bad
  | n + 1, env, ys => match c env with
    | .ok true e => (match b e ys with
      | .nx e2 ys2 => gWh c b n e2 ys2
      | .bad => .bad)
    | .ok false e => .nx e ys
    | _ => .bad
theorem gsI {X : Cx} {st : Stmt} {t t' : TGn} (h : GS X st t) (k : ∀ E ys σ H, t' E ys σ H → t E ys σ H) : GS X st t' := ⟨fun A S ip R n ys s₀ c fs K J gd lv s σ H D a b d e f => h.run A S ip R n ys s₀ c fs K J gd lv s σ H D a b d e (k D ys σ H f)⟩
theorem gssI {X : Cx} {st : List Stmt} {t t' : TGn} (h : GSs X st t) (k : ∀ E ys σ H, t' E ys σ H → t E ys σ H) : GSs X st t' := ⟨fun A S ip R n ys s₀ c fs K J gd lv s σ H D a b d e f => h.run A S ip R n ys s₀ c fs K J gd lv s σ H D a b d e (k D ys σ H f)⟩
section
variable {X : Cx} {Γ : Cls0} {W : WX} {st : Stmt} {rest : List Stmt} {fs : SEnv → SO} {f g : GF} {fe : SEnv → Out Rv} {c : SEnv → Out Bool}
theorem gG_plain (h : PS X st (tS X.K Γ W fs)) : GS X st (tGn X.K Γ (gPl fs)) := gsI (gs_ps h) fun E vs σ H ⟨env, G, ys, rel, ry, nb, q⟩ => by
  unfold gPl at nb q
  refine ⟨env, G, rel, fun z => ?_, fun env' σ' G' H' z p => ?_, fun d env' v σ' G' H' z p hd => ?_, fun env' σ' G' H' z p => ?_, fun env' σ' G' H' z p => ?_, fun c d env' cls dx σ' G' H' z p x => ?_⟩
  · simp only [z] at nb; exact nb rfl
  · simp only [z] at q; exact q env' ys vs σ' G' H' rfl p (ry.on p.fr.g)
  · simp only [z] at nb; exact absurd rfl nb
  · simp only [z] at nb; exact absurd rfl nb
  · simp only [z] at nb; exact absurd rfl nb
  · simp only [z] at nb; exact absurd rfl nb
theorem gG_yield {e : Expr} {yp pos : Pos} (he : PE X e (tE X.K Γ W fe)) (hco : X.env.scope.isCoroutine = false := by rfl) (hi : interactive X.env = false := by rfl) : GS X (.Expr (.Yield (some e) yp) pos) (tGn X.K Γ (gYd fe)) :=
  gsI (gs_yield (sK he) hco hi) fun E vs σ H ⟨env, G, ys, rel, ry, nb, q⟩ => by
  unfold gYd at nb q
  by_cases hz : ys.length < sizeLine
  · simp only [hz, if_true] at nb q
    refine ⟨by rw [ry.len]; exact hz, env, G, rel, fun z => ?_, fun d env' v G' H' z p hd => ?_, fun c d env' cls dx G' H' z p x => ?_⟩
    · simp only [z] at nb; exact absurd rfl nb
    · simp only [z] at q
      exact q env' (ys ++ [d]) (vs ++ [v]) σ G' H' rfl p.s ((ry.on p.fr.g).append (.cons hd .nil))
    · simp only [z] at nb; exact absurd rfl nb
  · simp only [hz, if_false] at nb; exact absurd rfl nb
theorem gG_nil : GSs X [] (tGn X.K Γ gNil) := gssI gss_nil fun E vs σ H ⟨env, G, ys, rel, ry, nb, q⟩ => q env ys vs σ G H rfl (PostS.refl rel) ry
theorem gG_cons (a : GS X st (tGn X.K Γ f)) (b : GSs X rest (tGn X.K Γ g)) : GSs X (st :: rest) (tGn X.K Γ (gSeq f g)) := gssI (gss_cons a b) fun E vs σ H ⟨env, G, ys, rel, ry, nb, q⟩ => by
  unfold gSeq at nb q
  refine ⟨env, G, ys, rel, ry, fun z => ?_, fun env' ys' vs' σ' G' H' z p ry' => ?_⟩
  · simp only [z] at nb; exact nb rfl
  · simp only [z] at nb q
    exact ⟨env', G', ys', p.rel, ry', nb, fun env2 ys2 vs2 σ2 G2 H2 z2 p2 r2 => q env2 ys2 vs2 σ2 G2 H2 z2 (p.trans p2) r2⟩
theorem gG_while {test : Expr} {body : List Stmt} {pos : Pos} (fuel : SEnv → Nat) (hp : PassesOwn (model X.prog X.w) X.A X.env X.xe) (hc : PT X test (tT X.K Γ W c)) (hb : GSs X body (tGn X.K Γ f)) : GS X (.While test body [] pos) (tGn X.K Γ fun env ys => gWh c f (fuel env) env ys) :=
  gsI (gs_while hp hc hb) fun E vs σ H ⟨env, G, ys, rel, ry, nb, q⟩ => by
  refine ⟨fun m vs' σ' H' => ∃ env' G' ys', PostS X.K Γ env σ G H env' σ' G' H' ∧ RpA X.K Γ G' vs' ys' ∧ gWh c f m env' ys' ≠ .bad ∧
    ∀ env2 ys2 vs2 σ2 G2 H2, gWh c f m env' ys' = .nx env2 ys2 → PostS X.K Γ env σ G H env2 σ2 G2 H2 → RpA X.K Γ G2 vs2 ys2 → E.nx vs2 σ2 H2, ⟨fuel env, env, G, ys, PostS.refl rel, ry, nb, q⟩, ?_⟩
  rintro m vs' σ' H' ⟨env', G', ys', p, ry', nb', q'⟩
  cases m with
  | zero => exact absurd rfl nb'
  | succ m =>
    unfold gWh at nb' q'
    refine ⟨env', G', p.rel, fun z => ?_, fun r env1 v G1 H1 e p1 rr => ?_, fun c d env1 cls dx G1 H1 e p1 x => ?_⟩
    · simp only [z] at nb'; exact nb' rfl
    · obtain rfl : v = r := rr
      have p2 := p.trans p1.s
      cases v with
      | true =>
        simp only [e] at nb' q'
        refine iteT ⟨fun vs2 σ2 H2 => ∃ env2 G2 ys2, PostS X.K Γ env σ G H env2 σ2 G2 H2 ∧ RpA X.K Γ G2 vs2 ys2 ∧ gWh c f m env2 ys2 ≠ .bad ∧
          ∀ env3 ys3 vs3 σ3 G3 H3, gWh c f m env2 ys2 = .nx env3 ys3 → PostS X.K Γ env σ G H env3 σ3 G3 H3 → RpA X.K Γ G3 vs3 ys3 → E.nx vs3 σ3 H3, fun vs2 σ2 H2 z => ⟨m, Nat.lt_succ_self m, z⟩, env1, G1, ys', p1.rel, ry'.on p1.fr.g, fun z => ?_, fun env3 ys3 vs3 σ3 G3 H3 z p3 r3 => ?_⟩
        · simp only [z] at nb'; exact nb' rfl
        · simp only [z] at nb' q'
          exact ⟨env3, G3, ys3, p2.trans p3, r3, nb', q'⟩
      | false =>
        simp only [e] at nb' q'
        exact iteF (q' env1 ys' vs' σ' G1 H1 rfl p2 (ry'.on p1.fr.g))
    · simp only [e] at nb'; exact absurd rfl nb'
end
/-! ### the promise -/
def ggOf (f : GF) (ms : List Bool) (n : Nat) (ds : List D) : Option (List D) := match f (mkE ms ds ++ List.replicate (n - ms.length) .no) [] with
  | .nx _ ys => some ys
  | .bad => none
def spGn (K : PySem.W.Frag) (Γ : Cls0) (ms : List Bool) (g : List D → Option (List D)) : SpG := fun vs H Q E => ∃ ds ys G, ds.length = ms.length ∧ noIo ms = true ∧ RpA K Γ G vs ds ∧ Same G H ∧ g ds = some ys ∧ (∀ xs G' H', Fr (fun _ => False) G H G' H' → Same G' H' → RpA K Γ G' xs ys → Q xs H')
theorem rel_pureG {K : PySem.W.Frag} {Γ : Cls0} {vs : List V} {ds : List D} {ms : List Bool} {G H : Hp} (hms : noIo ms = true) (hl : ds.length = ms.length) (h : RpA K Γ G vs ds) (s : Same G H) : Rel K Γ (mkE ms ds) (vs.map some) G H := by
  refine ⟨by rw [mkE_len hl, List.length_map, h.len, hl], s, fun i s o e1 e2 => ?_, fun i j p h1 _ => absurd ⟨i, h1⟩ (no_ow hms)⟩
  obtain ⟨d, ed, k | k⟩ := mkE_get e1
  · have := List.all_eq_true.mp hms true (List.mem_of_getElem? k.1)
    cases this
  · obtain ⟨v, ev, hv⟩ := rpa_get h ed
    rw [List.getElem?_map, ev] at e2
    cases e2
    rw [k.2]
    exact hv
section
variable {P : Program} {w : World} {K : PySem.W.Frag} {Γ : Cls0} {mg : Str → Option Value} {base : Heap} {k : Nat} {f : Addr} {N ps : List Str} {x qual : Str} {st : Stmt} {ms : List Bool} {fb : GF}
theorem okGn {kV dV doc pm cdv ct oc : Value} {an od : Option Addr} {osl : Array (Option Value)} (lk : K.lookup f = some ⟨oc, od, .func (PySem.W.fnOf x qual (defArgs st) (defBody st) (defScope st) dV kV doc pm an cdv ct), osl⟩) (hcd : PySem.W.codeIn K cdv qual = true) (S : GScope N ps (defScope st)) (hm : ms.length = ps.length) (hn : ms.length ≤ N.length)
    (hbody : ∀ (A : Around) (outer : List Env) (s : Shared) (H : Hp) (E : XK) (pn : List (Addr × Obj)), Room k (A.deeper (envOfC qual (defScope st) s.heap.objs.size f cdv)) → GSs (gcxOf P w K mg base N qual (defScope st) f cdv A outer s H E pn) (defBody st) (tGn K Γ fb)) :
    GFn P w K mg base (k + 1) f (PySem.W.fnOf x qual (defArgs st) (defBody st) (defScope st) dV kV doc pm an cdv ct) ps (spGn K Γ ms (ggOf fb ms N.length)) := by
  refine gfn_of lk hcd S (fun vs H Q E ⟨ds, ys, G, hl, _, r, _, _⟩ => by rw [r.len, hl, hm]) fun A outer s H vs Q E pn hr h => ⟨_, hbody A outer s H E pn hr, ?_⟩
  obtain ⟨ds, ys, G, hl, hno, ra, sg, hg, q⟩ := h
  unfold ggOf at hg
  have rel := rel_pureG (K := K) (Γ := Γ) (H := H) hno hl ra sg
  have hv : vs.length = ms.length := by rw [ra.len, hl]
  have r0 := Rel.st0 (N := N) rel hl hv hn
  split at hg
  · rename_i e ys' hx
    cases hg
    refine ⟨_, G, [], r0, .nil, by rw [hx]; exact (fun z => nomatch z), fun env' ys' vs' σ' G' H' z p r => ?_⟩
    rw [hx] at z
    cases z
    refine q vs' G' H' (Fr.refl.trans p.fr fun b z => absurd (ow_st0 hl hv z) (no_ow hno)) p.rel.sub r
  · cases hg
end
/-! ### list(g(..)) -/
def eListG (gg : List D → Option (List D)) (ms : List Bool) (fa : SEnv → Out (List D)) : SEnv → Out Rv := eB fa fun ds env => if ds.length = ms.length then (match gg ds with
  | some ys => .ok (.f (.lst ys)) env
  | none => .bad) else .bad
section
variable {X : Cx} {Γ : Cls0} {W : WX} {e : Expr} {es : List Expr} {fa : SEnv → Out (List D)} {gg : List D → Option (List D)} {ms : List Bool} {k : Nat} {f : Addr} {fd : FuncData} {ps : List Str} {x : Str} {p p2 pos pos' : Pos}
theorem noStop_never {K : PySem.W.Frag} : NoStop K (fun _ _ _ => False) := fun _ _ _ z => z.elim
theorem sE_listG (hms : noIo ms = true) (F : GFn X.prog X.w X.K X.mg X.base k f fd ps (spGn X.K Γ ms gg)) (hr : Room (k + 3) X.A) (hr0 : Room k X.A) (hg : Gl X x) (hm : X.mg x = some (.ref f)) (hk : PySem.W.keepIn X.K (.ref f) = true) (hb : Binds X.K fd ps []) (hgl : Gl X "list") (hml : X.mg "list" = none)
    (ha : PA X (e :: es) (tAs X.K Γ W fa)) (hdb : (x == ("__debug__" : Str)) = false := by decide) (he : starEach (e :: es) X.env = (false, eval e X.env) :: starEach es X.env := by rfl) (hpl : (backTo pos' (starEach es X.env)).any (·.1) = false := by rfl)
    (hst : starEach [.Call (.Name x p2) (e :: es) [] pos'] X.env = (false, eval (.Call (.Name x p2) (e :: es) [] pos') X.env) :: starEach [] X.env := by rfl) :
    PE X (.Call (.Name "list" p) [.Call (.Name x p2) (e :: es) [] pos'] [] pos) (tE X.K Γ W (eListG gg ms fa)) :=
  peI (pe_listG (pgen_call (E := fun _ _ _ => False) F hr0 hg hm hk hb .nil ha hdb he hpl) passF noStop_never hr hgl hml boot_list (by decide) (by decide) hst) fun σ H Q ⟨env, G, rel, at_⟩ => by
  refine tX.bind at_ (Post.refl rel) fun ds env1 vs G1 H1 e1 p1 rr a1 => ?_
  try dsimp only at a1
  split at a1
  · rename_i hl
    split at a1
    · rename_i ys hy
      rw [List.append_nil]
      refine ⟨ds, ys, G1, hl, hms, rr, p1.rel.sub, hy, fun xs G2 H2 f2 s2 r2 q np => ?_⟩
      have k1 : Post X.K Γ env1 σ G1 H1 env1 G2 H2 := ⟨p1.rel.frame f2 s2 fun p z => z.elim, Ks.refl _, Fr.refl.trans f2 fun p z => z.elim⟩
      obtain ⟨k2, gp, no⟩ := k1.rel.newF (o := .lst xs) np
      -- the items stand in the heap, the list beside: take the items into the ground
      exact a1.run (.f (.lst ys)) (.ref q) env1 _ _ rfl ((p1.trans k1).trans k2) ⟨q, rfl, Own.lst gp upd_same r2, no, (p1.trans k1).dom np⟩
    · exact absurd rfl a1.nb
  · exact absurd rfl a1.nb
end
end EV
set_option Elab.async false
set_option linter.all false
set_option maxRecDepth 100000
set_option maxHeartbeats 4000000
/-! What is known of a text's defs and classes, bundled. -/
namespace EV
open PySem PySem.Spec PyProof.Rows L2 PySem.NearX
theorem spF_mono {K : PySem.W.Frag} {Γ : Cls0} {ms : List Bool} {g : List D → Out D} {E : XK} : ∀ vs H (Q Q' : VK), (∀ v H', Q v H' → Q' v H') → spF K Γ ms g vs H Q E → spF K Γ ms g vs H Q' E := fun vs H Q Q' k ⟨ds, G, h1, h2, h3, a⟩ => ⟨ds, G, h1, h2, h3, a.imp k⟩
/-! ### what a clause makes of the field -/
section
variable {K : PySem.W.Frag} {Γ : Cls0} {i : Nat} {nm : Str} {Ch : Addr}
theorem look1 {u : V} : ([(nm, u)] : List (Str × V)).lookup nm = some u := by simp [List.lookup]
theorem made_pair {s : Str} : Made K Γ i nm Ch (fun z => some (.tup [.str s, z])) (fun a cls d => tTup (tCons (tC (.str s)) (tCons (tNearX Ch nm a cls d (tVar i)) tNil))) := by
  intro σ env G H a dd u z r Q rel ea ed ru eg q
  cases eg
  refine ⟨_, ea, rfl, rfl, dd, _, u, rfl, ed, look1, ?_⟩
  refine ⟨by show 2 ≤ sizeLine; decide, fun p np => ?_⟩
  have k := rel.new (o := .tup [.str s, u]) np
  exact q _ _ _ k (Rp.tup (.inl (.inl upd_same)) (.cons (.str s) (.cons (ru.on k.fr.g) .nil)))
theorem made_fld : Made K Γ i nm Ch (fun z => some z) (fun a cls d => tNearX Ch nm a cls d (tVar i)) := by
  intro σ env G H a dd u z r Q rel ea ed ru eg q
  cases eg
  exact ⟨_, ea, rfl, rfl, dd, _, u, rfl, ed, look1, q u G H (Post.refl rel) ru⟩
theorem made_repr {s : Str} : Made K Γ i nm Ch (fun z => (gRepr z).map fun t => .tup [.str s, t]) (fun a cls d => tTup (tCons (tC (.str s)) (tCons (tCB (rRepr K) (tCons (tNearX Ch nm a cls d (tVar i)) tNil)) tNil))) := by
  intro σ env G H a dd u z r Q rel ea ed ru eg q
  obtain ⟨t, et, rfl⟩ := Option.map_eq_some_iff.mp eg
  refine ⟨_, ea, rfl, rfl, dd, _, u, rfl, ed, look1, ?_⟩
  have key := r1_repr (K := K) (Γ := Γ) σ env G H H u (.v z) (.v t) (fun v H1 => tNil σ H1 fun xs H2 => (fun xs H1 => xs.length ≤ sizeLine ∧ ∀ p, H1 p = none → Q (.ref p) (upd H1 p (.tup xs))) (.str s :: v :: xs) H2) rel ru (by show ((some z).bind gRepr).map Rv.v = _; simp [et]) ?_
  · exact key
  · intro v G' H' k hv
    refine ⟨by show 2 ≤ sizeLine; decide, fun p np => ?_⟩
    have k2 := k.rel.new (o := .tup [.str s, v]) np
    have hv' : Rp K Γ G' v t := hv
    exact q _ _ _ (k.trans k2) (Rp.tup (.inl (.inl upd_same)) (.cons (.str s) (.cons (hv'.on k2.fr.g) .nil)))
end
/-! ### raise C(i), i a whole number -/
def numB (d : D) : Bool := match d with
  | .int i => decide (i.natAbs < 2 ^ 64)
  | _ => false
theorem num_fv {K : PySem.W.Frag} {Γ : Cls0} {H : Hp} {v : V} {d : D} (h : Rp K Γ H v d) (t : numB d = true) : FVi v H := by
  unfold numB at t
  split at t
  · rename_i i
    have t := of_decide_eq_true t
    refine ⟨i, rp_int h, ?_, ?_⟩
    · by_cases z : i.natAbs = 0
      · rw [z]; decide
      · exact Nat.lt_of_lt_of_le ((Nat.log2_lt z).mpr t) (by decide)
    · have := PySem.int_text_length_le10 (a := i) (k := 20) (by decide) (Nat.lt_of_lt_of_le t (by decide))
      have e : ((toString i : String) : Str).length = (toString i).length := PySem.ofString_length _
      rw [e]
      omega
  · cases t
def sRaiseI (c nm : Str) (f : SEnv → Out Rv) : SEnv → SO := sB (eK f) fun d env => if numB d = true then .ex c (some (nm, d)) env else .bad
section
variable {X : Cx} {Γ : Cls0} {W : WX} {pos : Pos} {e : Expr} {f : SEnv → Out Rv} {C : Addr} {c nm : Str}
theorem sS_raiseI {a : Expr} (hc : X.calm = true) (tk : Takes X W) (hC : Γ c = some C) (he : ∀ {ta : TA}, PA X [a] ta → PMk X e (tMkNear C nm FVi ta)) (ha : PE X a (tE X.K Γ W f)) (hs : starEach (a :: []) X.env = (false, eval a X.env) :: starEach [] X.env := by rfl) :
    PS X (.Raise (some e) none pos) (tS X.K Γ W (sRaiseI c nm f)) := psI (ps_raise hc tk (he (pa_cons (sK ha) pa_nil hs))) fun E σ H ⟨env, G, rel, a⟩ => by
  refine tX.bindS a (PostS.refl rel) fun d env1 v G1 H1 e1 p1 rr a1 => ?_
  split at a1
  · rename_i ht
    refine ⟨v, rfl, num_fv (Rp.on p1.rel.sub rr) ht, fun dd nd => ?_⟩
    obtain ⟨k, gp, no⟩ := p1.rel.newF (o := .xd [(nm, v)]) nd
    exact a1.ex c (some (nm, d)) env1 (.ref C) (some dd) σ G1 _ rfl (p1.trans k).s ⟨C, hC, rfl, dd, v, rfl, upd_same, rr⟩
  · exact absurd rfl a1.nb
end
end EV
set_option Elab.async false
set_option linter.all false
set_option maxRecDepth 100000
set_option maxHeartbeats 4000000
/-! Short words for the readings that a script prints. -/
namespace EV
open PySem PySem.Spec PyProof.Rows L2 PySem.NearX
def clsAll : List Str := ["Table", "Operation", "Book", "Puzzle", "Fold", "Desk", "Net", "Search", "Stand"]
def errAll : List Str := ["NoList", "BadWidth", "BadArity", "BadRow", "BadSpots", "BadOrder", "Unlike", "BadLength", "BadCell", "BadArguments", "BadTable", "NoNumber", "BadPlaces", "BadUse", "BadAnswer", "BadChoice", "HasAnswer", "NoFold", "NoMeet", "BadNear", "NoMark", "BadText"]
def tyNames : List String := ["NoneType", "bool", "int", "str", "list", "tuple", "dict"]
def ansB (yes : List String) : Ty → Option Bool
  | .b n => if n ∈ tyNames then some (decide (n ∈ yes)) else none
  | .o c => if c ∈ clsAll then some false else none
def ansC (c0 : Str) : Ty → Option Bool
  | .b n => if n ∈ tyNames then some false else none
  | .o c => if c ∈ clsAll then some (decide (c = c0)) else none
def okAll : Ty → Bool
  | .b n => decide (n ∈ tyNames)
  | .o c => decide (c ∈ clsAll)
def okR (c0 : Str) : Ty → Bool
  | .b n => decide (n ∈ tyNames)
  | .o c => decide (c = c0)
/-- a class of the text -/
structure ClsX (K : PySem.W.Frag) (Γ : Cls0) (mg : Str → Option Value) (c : Str) (C : Addr) : Prop where
  hc : Γ c = some C
  g : mg c = some (.ref C)
  cls : Cls K C
/-- an error class of the text -/
structure ErrX (K : PySem.W.Frag) (Γ : Cls0) (mg : Str → Option Value) (x : Str) (C : Addr) : Prop where
  hc : Γ x = some C
  g : mg x = some (.ref C)
  k : PySem.W.keepIn K (.ref C) = true
  ex : PySem.W.subIn K (.ref C) (.type "BaseException") = some true
  ty : PySem.W.typeIn K (.ref C) = some (.type "type")
/-- a def of the text at its name -/
structure Cal (K : PySem.W.Frag) (mg : Str → Option Value) (x : Str) (ps : List Str) (f : Addr) (fd : FuncData) : Prop where
  g : mg x = some (.ref f)
  k : PySem.W.keepIn K (.ref f) = true
  b : Binds K fd ps []
section
variable {X : Cx} {Γ : Cls0} {W : WX} {pos p apos : Pos} {e a b : Expr} {es : List Expr} {f fa fb : SEnv → Out Rv} {g : SEnv → Out (List Rv)} {gd : List D → Out D} {ms : List Bool} {k : Nat} {fA C : Addr} {fd : FuncData} {ps : List Str} {x m c : Str}
theorem sE_gint {n : Int} (hg : Gl X x) (hm : ∃ t, X.mg x = some (.int n t)) (hd : (x == ("__debug__" : Str)) = false := by decide) : PE X (.Name x pos) (tE X.K Γ W (eC (.int n))) := by
  obtain ⟨t, e⟩ := hm
  exact sE_c (pe_glob (v := .int n) hg e ⟨t, rfl⟩ hd) fun _ => .int n
theorem sE_callG (c : Cal X.K X.mg x ps fA fd) (F : FnG X.prog X.w X.K X.mg X.base (L2.CX X.prog X.w) k fA fd ps (spF X.K Γ ms gd)) (hA : X.A.guards = some []) (hr : Room k X.A) (hg : Gl X x) (hx : ∀ σ, PassesAt (L2.CX X.prog X.w) X σ (WE W σ)) (ha : PA X (e :: es) (tAr X.K Γ W g))
    (hdb : (x == ("__debug__" : Str)) = false := by decide) (he : starEach (e :: es) X.env = (false, eval e X.env) :: starEach es X.env := by rfl) (hpl : (backTo pos (starEach es X.env)).any (·.1) = false := by rfl) : PE X (.Call (.Name x p) (e :: es) [] pos) (tE X.K Γ W (eCall gd ms g)) :=
  sE_call F hA hr hg c.g c.k c.b hx ha hdb he hpl
theorem sE_callO (c : Cal X.K X.mg x ps fA fd) (F : FnOk X.prog X.w X.K X.mg X.base (L2.CX X.prog X.w) k fA fd ps (spF X.K Γ ms gd)) (hr : Room k X.A) (hg : Gl X x) (hx : ∀ σ, PassesAt (L2.CX X.prog X.w) X σ (WE W σ)) (ha : PA X (e :: es) (tAr X.K Γ W g))
    (hdb : (x == ("__debug__" : Str)) = false := by decide) (he : starEach (e :: es) X.env = (false, eval e X.env) :: starEach es X.env := by rfl) (hpl : (backTo pos (starEach es X.env)).any (·.1) = false := by rfl) : PE X (.Call (.Name x p) (e :: es) [] pos) (tE X.K Γ W (eCall gd ms g)) :=
  sE_callF F hr hg c.g c.k c.b hx ha hdb he hpl
theorem sE_isB {T : String} {t : Str} {p2 : Pos} {yes : List String} (hg : Gl X "isinstance") (hm : X.mg "isinstance" = none) (hgt : Gl X t) (hmt : X.mg t = none) (hv : bootBuiltins t = some (.type T)) (h : IsOk X.K Γ (.type T) (ansB yes)) (he : PE X e (tE X.K Γ W f)) (hnt : t ≠ "__name__" := by decide) (hdt : (t == ("__debug__" : Str)) = false := by decide)
    (hs : starEach [e, .Name t p2] X.env = (false, eval e X.env) :: starEach [.Name t p2] X.env := by rfl) (hs2 : starEach [.Name t p2] X.env = (false, eval (.Name t p2) X.env) :: starEach [] X.env := by rfl) (hpl : (backTo pos (starEach [.Name t p2] X.env)).any (·.1) = false := by rfl) :
    PE X (.Call (.Name "isinstance" p) [e, .Name t p2] [] pos) (tE X.K Γ W (eU (hIs (ansB yes)) f)) :=
  sE_is hg hm (.ty T) h he (pe_bltn (v := .ty T) hgt hmt hv rfl hnt hdt) hs hs2 hpl
theorem sE_isC {t : Str} {p2 : Pos} (hg : Gl X "isinstance") (hm : X.mg "isinstance" = none) (hgt : Gl X t) (hmt : X.mg t = some (.ref C)) (h : IsOk X.K Γ (.ref C) (ansC t)) (he : PE X e (tE X.K Γ W f)) (hdt : (t == ("__debug__" : Str)) = false := by decide)
    (hs : starEach [e, .Name t p2] X.env = (false, eval e X.env) :: starEach [.Name t p2] X.env := by rfl) (hs2 : starEach [.Name t p2] X.env = (false, eval (.Name t p2) X.env) :: starEach [] X.env := by rfl) (hpl : (backTo pos (starEach [.Name t p2] X.env)).any (·.1) = false := by rfl) :
    PE X (.Call (.Name "isinstance" p) [e, .Name t p2] [] pos) (tE X.K Γ W (eU (hIs (ansC t)) f)) :=
  sE_is hg hm (.own C) h he (pe_glob (v := .ref C) hgt hmt rfl hdt) hs hs2 hpl
theorem op_inW (F : FnOk X.prog X.w X.K X.mg X.base (L2.CX X.prog X.w) k fA fd ps (spF X.K Γ [false, false] gd)) (hr : Room k X.A) (h : Has X.K C "__contains__" fA fd ps) : OpR X (compareOp .In) (rInO C (spF X.K Γ [false, false] gd) (fun _ _ _ => False) (fun b => if false = true then !b else b)) :=
  op_inO F hr h passF spF_mono
theorem op_notinW (F : FnOk X.prog X.w X.K X.mg X.base (L2.CX X.prog X.w) k fA fd ps (spF X.K Γ [false, false] gd)) (hr : Room k X.A) (h : Has X.K C "__contains__" fA fd ps) : OpR X (compareOp .NotIn) (rInO C (spF X.K Γ [false, false] gd) (fun _ _ _ => False) (fun b => if true = true then !b else b)) :=
  op_notinO F hr h passF spF_mono
theorem op_eqW (F : FnOk X.prog X.w X.K X.mg X.base (L2.CX X.prog X.w) k fA fd ps (spF X.K Γ [false, false] gd)) (hr : Room k X.A) (h : Has X.K C "__eq__" fA fd ps) : OpR X (compareOp .Eq) (rEqO X.K C (spF X.K Γ [false, false] gd) (fun _ _ _ => False) (fun b => if false = true then !b else b)) :=
  op_eqO F hr h passF
theorem op_neW (F : FnOk X.prog X.w X.K X.mg X.base (L2.CX X.prog X.w) k fA fd ps (spF X.K Γ [false, false] gd)) (hr : Room (k + 1) X.A) (h : Has X.K C "__eq__" fA fd ps) (hne : PySem.W.findIn X.K (.ref C) "__ne__" = some (some (.builtin "object.__ne__"))) (hob : PySem.W.subIn X.K (.ref C) (.type "object") = some true) :
    OpR X (compareOp .NotEq) (rEqO X.K C (spF X.K Γ [false, false] gd) (fun _ _ _ => False) (fun b => if true = true then !b else b)) := op_neO F hr h hne hob passF
theorem _root_.L2.Room.u65 {k : Nat} {A : Around} (r : Room k A) : A.units + 65 < cLine := by have := r.un; omega
theorem _root_.L2.Room.u100 {k : Nat} {A : Around} (r : Room k A) : A.units + 100 < cLine := by have := r.un; omega
/-- x.append(e) -/
theorem sE_appN {i : Nat} (hv : PE X (.Name x p) (tVar i)) (he : PE X e (tE X.K Γ W f)) (hbase : attributeBase (.Name x p) "append" X.env (eval (.Name x p) X.env) = eval (.Name x p) X.env := by rfl)
    (hfew : ((backTo pos (starEach (e :: []) X.env)).all (fun x => !x.1) && (backToKw pos (keywordEach [] X.env)).all (fun x => x.1.isSome) && decide ((e :: []).length + ([] : List Keyword).length + (if ([] : List Keyword).isEmpty then 0 else 1) < 30)) = true := by rfl)
    (hline : (apos.endLine == pos.line) = true := by rfl) (hs : starEach (e :: []) X.env = (false, eval e X.env) :: starEach [] X.env := by rfl) (hpl : (backTo pos (starEach [] X.env)).any (·.1) = false := by rfl) :
    PE X (.Call (.Attribute (.Name x p) "append" apos) [e] [] pos) (tE X.K Γ W (eApp i f)) :=
  sE_app (fun h => pe_bm PySem.F.plainAttrs_list PySem.F.slot_list_append PySem.F.type_list_append mt_append hv h hbase hfew hline hs hpl) he hs
end
/-! ### list(range(..)) -/
def eLstRg (f g : SEnv → Out Rv) : SEnv → Out Rv := eB f fun r => eB g fun r2 env => match dr env r, dr env r2 with
  | some (.int i), some (.int j) => if -(2 ^ 62) ≤ i ∧ i < 2 ^ 62 ∧ -(2 ^ 62) ≤ j ∧ j < 2 ^ 62 ∧ (j - i).toNat ≤ 2 ^ 24 then .ok (.f (.lst ((List.range (j - i).toNat).map fun (k : Nat) => .int (i + k)))) env else .bad
  | _, _ => .bad
def eLstRg1 (f : SEnv → Out Rv) : SEnv → Out Rv := eB f fun r env => match dr env r with
  | some (.int j) => if 0 ≤ j ∧ j ≤ 2 ^ 24 then .ok (.f (.lst ((List.range j.toNat).map fun (k : Nat) => .int k))) env else .bad
  | _ => .bad
section
variable {X : Cx} {Γ : Cls0} {W : WX} {pos p p2 pos2 : Pos} {e e2 : Expr} {f g : SEnv → Out Rv}
theorem rp_rg {K : PySem.W.Frag} {G : Hp} {i : Int} : ∀ n : Nat, RpA K Γ G ((List.range n).map fun (k : Nat) => V.int (i + k)) ((List.range n).map fun (k : Nat) => D.int (i + k))
  | 0 => .nil
  | n + 1 => by
    rw [List.range_succ, List.map_append, List.map_append]
    exact (rp_rg n).append (.cons (.int _) .nil)
theorem sE_listRg2 (hc : X.calm = true) (hg : Gl X "list") (hm : X.mg "list" = none) (hg2 : Gl X "range") (hm2 : X.mg "range" = none) (ha : PE X e (tE X.K Γ W f)) (hb : PE X e2 (tE X.K Γ W g)) (na : starEach [e, e2] X.env = (false, eval e X.env) :: starEach [e2] X.env := by rfl)
    (nb : starEach [e2] X.env = (false, eval e2 X.env) :: starEach [] X.env := by rfl) (hp : ∀ pos, (backTo pos (starEach [e2] X.env)).any (·.1) = false := by intro _; rfl) (nc : starEach [.Call (.Name "range" p2) [e, e2] [] pos2] X.env = (false, eval (.Call (.Name "range" p2) [e, e2] [] pos2) X.env) :: starEach [] X.env := by rfl) :
    PE X (.Call (.Name "list" p) [.Call (.Name "range" p2) [e, e2] [] pos2] [] pos) (tE X.K Γ W (eLstRg f g)) := peI (pe_listRg hc hg hm (prg_2 hg2 hm2 ha hb na nb (hp _)) nc) fun σ H Q ⟨env, G, rel, a⟩ => by
  refine tX.bind a (Post.refl rel) fun r env1 v G1 H1 e1 p1 rr a1 => tX.bind a1 p1 fun r2 env2 v2 G2 H2 e2 p2 rr2 a2 => ?_
  split at a2
  · rename_i i j ei ej
    split at a2
    · rename_i c
      refine ⟨i, j, rp_int (RvR.rd (rr.step p2) p2.rel ei), rp_int (RvR.rd rr2 p2.rel ej), ⟨c.1, c.2.1, c.2.2.1, c.2.2.2.1, c.2.2.2.2⟩, fun q nq => ?_⟩
      obtain ⟨k, gp, no⟩ := p2.rel.newF (o := .lst (rgV i j)) nq
      exact a2.run (.f _) (.ref q) env2 _ _ rfl ((p1.trans p2).trans k) ⟨q, rfl, Own.lst gp upd_same (rp_rg _), no, (p1.trans p2).dom nq⟩
    · exact absurd rfl a2.nb
  · exact absurd rfl a2.nb
theorem sE_listRg1 (hc : X.calm = true) (hg : Gl X "list") (hm : X.mg "list" = none) (hg2 : Gl X "range") (hm2 : X.mg "range" = none) (ha : PE X e (tE X.K Γ W f)) (na : starEach [e] X.env = (false, eval e X.env) :: starEach [] X.env := by rfl)
    (nc : starEach [.Call (.Name "range" p2) [e] [] pos2] X.env = (false, eval (.Call (.Name "range" p2) [e] [] pos2) X.env) :: starEach [] X.env := by rfl) :
    PE X (.Call (.Name "list" p) [.Call (.Name "range" p2) [e] [] pos2] [] pos) (tE X.K Γ W (eLstRg1 f)) := peI (pe_listRg hc hg hm (prg_1 hg2 hm2 ha na) nc) fun σ H Q ⟨env, G, rel, a⟩ => by
  refine tX.bind a (Post.refl rel) fun r env1 v G1 H1 e1 p1 rr a1 => ?_
  split at a1
  · rename_i j ej
    split at a1
    · rename_i c
      refine ⟨j, rp_int (RvR.rd rr p1.rel ej), ⟨by omega, by omega, by omega, by omega, by omega⟩, fun q nq => ?_⟩
      obtain ⟨k, gp, no⟩ := p1.rel.newF (o := .lst (rgV 0 j)) nq
      refine a1.run (.f _) (.ref q) env1 _ _ rfl (p1.trans k) ⟨q, rfl, Own.lst gp upd_same ?_, no, p1.dom nq⟩
      have h := rp_rg (K := X.K) (Γ := Γ) (G := G1) (i := 0) j.toNat
      have e0 : (fun (k : Nat) => D.int (0 + (k : Int))) = fun (k : Nat) => D.int k := by funext k; rw [Int.zero_add]
      rw [e0] at h
      have e1 : rgV 0 j = (List.range j.toNat).map fun (k : Nat) => V.int (0 + (k : Int)) := by unfold rgV; rw [Int.sub_zero]
      rw [e1]
      exact h
    · exact absurd rfl a1.nb
  · exact absurd rfl a1.nb
end
/-! ### comprehensions, the slots told -/
section
variable {X : Cx} {Γ : Cls0} {W : WX} {pos : Pos} {elt tgt iter tgt1 iter1 : Expr} {ifs ifs1 : List Expr} {scope : Scope} {own : List (Str × Nat)} {fi fi1 : SEnv → Out (List D)} {tg tg1 : D → SEnv → Option SEnv} {c c1 : SEnv → Out Bool} {fe : SEnv → Out Rv} {is is1 vs vs1 : List Nat}
theorem sE_lcV (hc : X.calm = true) (hN : X.N.Nodup) (hi : PI X tgt iter (tI X.K Γ W fi)) (ok : BlkOk X.N X.env.scope scope own) (ho : TgOff is tg) (hs : ∀ i ∈ is, i ∈ vs)
    (hg : ∀ (s : Shared) (H : Hp) (C : Addr) (cl : List (Str × Addr)) (fp : List Addr), PG (X.blk s H scope (compEnvC scope cl C X.env) fp) tgt (tTg X.K Γ is tg)) (ht : ∀ (s : Shared) (H : Hp) (C : Addr) (cl : List (Str × Addr)) (fp : List Addr), PTs (X.blk s H scope (compEnvC scope cl C X.env) fp) ifs (tT X.K Γ WF c))
    (he : ∀ (s : Shared) (H : Hp) (C : Addr) (cl : List (Str × Addr)) (fp : List Addr), PE (X.blk s H scope (compEnvC scope cl C X.env) fp) elt (tE X.K Γ WF fe)) (hf : ∀ x, foldedSetIterable iter X.env x = pure x := by intro _; rfl) (hvs : own.map (·.2) = vs := by rfl) :
    PE X (.ListComp elt [⟨tgt, iter, ifs, 0⟩] scope pos) (tE X.K Γ W (eLc fi tg c (eK fe) vs)) := by
  subst hvs
  exact sE_lc (hc := hc) (hN := hN) (hi := hi) (ok := ok) (ho := ho) (hs := hs) (hg := hg) (ht := ht) (he := he) (hf := hf)
theorem sS_setLcV {i : Nat} {y : Str} {py spos : Pos} (hc : X.calm = true) (hN : X.N.Nodup) (hy : X.N[i]? = some y) (hyl : X.env.scope.names.lookup y = some .local)
    (hsw : swapsWith (.ListComp elt [⟨tgt, iter, ifs, 0⟩] scope pos) (some (.Name y py)) spos.line X.env = pure true) (hi : PI X tgt iter (tI X.K Γ W fi)) (ok : BlkOk X.N X.env.scope scope own) (ho : TgOff is tg) (hs : ∀ i ∈ is, i ∈ vs)
    (hg : ∀ (s : Shared) (H : Hp) (C : Addr) (cl : List (Str × Addr)) (fp : List Addr), PG (X.blk s H scope (compEnvC scope cl C X.env) fp) tgt (tTg X.K Γ is tg)) (ht : ∀ (s : Shared) (H : Hp) (C : Addr) (cl : List (Str × Addr)) (fp : List Addr), PTs (X.blk s H scope (compEnvC scope cl C X.env) fp) ifs (tT X.K Γ WF c))
    (he : ∀ (s : Shared) (H : Hp) (C : Addr) (cl : List (Str × Addr)) (fp : List Addr), PE (X.blk s H scope (compEnvC scope cl C X.env) fp) elt (tE X.K Γ WF fe)) (hf : ∀ x, foldedSetIterable iter X.env x = pure x := by intro _; rfl) (hvs : own.map (·.2) = vs := by rfl) :
    PS X (.Assign [.Name y py] (.ListComp elt [⟨tgt, iter, ifs, 0⟩] scope pos) spos) (tS X.K Γ W (sSetM i (eLc fi tg c (eK fe) vs))) := by
  subst hvs
  exact sS_setLc (hc := hc) (hN := hN) (hy := hy) (hyl := hyl) (hsw := hsw) (hi := hi) (ok := ok) (ho := ho) (hs := hs) (hg := hg) (ht := ht) (he := he) (hf := hf)
theorem sS_setLcIV {i : Nat} {y : Str} {py spos : Pos} (hc : X.calm = true) (hN : X.N.Nodup) (hy : X.N[i]? = some y) (hyl : X.env.scope.names.lookup y = some .local)
    (hsw : swapsWith (.ListComp elt [⟨tgt, iter, ifs, 0⟩] scope pos) (some (.Name y py)) spos.line X.env = pure true) (hi : PI X tgt iter (tI X.K Γ W fi)) (ok : BlkOk X.N X.env.scope scope own) (ho : TgOff is tg) (hs : ∀ i ∈ is, i ∈ vs)
    (hg : ∀ (s : Shared) (H : Hp) (C : Addr) (cl : List (Str × Addr)) (fp : List Addr), PG (X.blk s H scope (compEnvC scope cl C X.env) fp) tgt (tTg X.K Γ is tg)) (ht : ∀ (s : Shared) (H : Hp) (C : Addr) (cl : List (Str × Addr)) (fp : List Addr), PTs (X.blk s H scope (compEnvC scope cl C X.env) fp) ifs (tT X.K Γ WF c))
    (he : ∀ (s : Shared) (H : Hp) (C : Addr) (cl : List (Str × Addr)) (fp : List Addr), PE (X.blk s H scope (compEnvC scope cl C X.env) fp) elt (tE X.K Γ WF fe)) (hf : ∀ x, foldedSetIterable iter X.env x = pure x := by intro _; rfl) (hvs : own.map (·.2) = vs := by rfl) :
    PS X (.Assign [.Name y py] (.ListComp elt [⟨tgt, iter, ifs, 0⟩] scope pos) spos) (tS X.K Γ W (sAsg (eLc fi tg c (eK fe) vs) (tgN i))) := by
  subst hvs
  exact sS_setLcI (hc := hc) (hN := hN) (hy := hy) (hyl := hyl) (hsw := hsw) (hi := hi) (ok := ok) (ho := ho) (hs := hs) (hg := hg) (ht := ht) (he := he) (hf := hf)
theorem sE_lc2V (hc : X.calm = true) (hN : X.N.Nodup) (hi : PI X tgt iter (tI X.K Γ W fi)) (ok : BlkOk X.N X.env.scope scope own) (hv : ∀ i ∈ vs1, i ∈ vs) (ho : TgOff is tg) (hs : ∀ i ∈ is, i ∈ vs) (ho1 : TgOff is1 tg1) (hs1 : ∀ i ∈ is1, i ∈ vs1)
    (hg : ∀ (s : Shared) (H : Hp) (C : Addr) (cl : List (Str × Addr)) (fp : List Addr), PG (X.blk s H scope (compEnvC scope cl C X.env) fp) tgt (tTg X.K Γ is tg)) (ht : ∀ (s : Shared) (H : Hp) (C : Addr) (cl : List (Str × Addr)) (fp : List Addr), PTs (X.blk s H scope (compEnvC scope cl C X.env) fp) ifs (tT X.K Γ WF c))
    (hi1 : ∀ (s : Shared) (H : Hp) (C : Addr) (cl : List (Str × Addr)) (fp : List Addr), PI (X.blk s H scope (compEnvC scope cl C X.env) fp) tgt1 iter1 (tI X.K Γ WF fi1))
    (hg1 : ∀ (s : Shared) (H : Hp) (C : Addr) (cl : List (Str × Addr)) (fp : List Addr), PG (X.blk s H scope (compEnvC scope cl C X.env) fp) tgt1 (tTg X.K Γ is1 tg1)) (ht1 : ∀ (s : Shared) (H : Hp) (C : Addr) (cl : List (Str × Addr)) (fp : List Addr), PTs (X.blk s H scope (compEnvC scope cl C X.env) fp) ifs1 (tT X.K Γ WF c1))
    (he : ∀ (s : Shared) (H : Hp) (C : Addr) (cl : List (Str × Addr)) (fp : List Addr), PE (X.blk s H scope (compEnvC scope cl C X.env) fp) elt (tE X.K Γ WF fe)) (hf : ∀ x, foldedSetIterable iter X.env x = pure x := by intro _; rfl) (hf1 : ∀ env x, foldedSetIterable iter1 env x = pure x := by intro _ _; rfl) (hvs : own.map (·.2) = vs := by rfl) :
    PE X (.ListComp elt [⟨tgt, iter, ifs, 0⟩, ⟨tgt1, iter1, ifs1, 0⟩] scope pos) (tE X.K Γ W (eLc2 fi tg c fi1 tg1 c1 (eK fe) vs vs1)) := by
  subst hvs
  exact sE_lc2 (hc := hc) (hN := hN) (hi := hi) (ok := ok) (hv := hv) (ho := ho) (hs := hs) (ho1 := ho1) (hs1 := hs1) (hg := hg) (ht := ht) (hi1 := hi1) (hg1 := hg1) (ht1 := ht1) (he := he) (hf := hf) (hf1 := hf1)
end
/-! ### ==, != : texts, and data -/
def gEqS : D → D → Option D
  | .str x, .str y => some (.bl (decide (x = y)))
  | _, _ => none
def gNeS : D → D → Option D
  | .str x, .str y => some (.bl (!decide (x = y)))
  | _, _ => none
def hEqX := hOr2 (EV.h2 gEqS) (EV.h2 gEq)
def hNeX := hOr2 (EV.h2 gNeS) (EV.h2 gNe)
def rEqX (K : PySem.W.Frag) : R2 := fun x y H Q => rEq x y H Q ∨ rEqD K x y H Q
def rNeX (K : PySem.W.Frag) : R2 := fun x y H Q => rNe x y H Q ∨ rNeD K x y H Q
section
variable {X : Cx} {Γ : Cls0} {K : PySem.W.Frag}
theorem dec_strV {x y : Str} : decide (V.str x = V.str y) = decide (x = y) := by
  rw [Bool.eq_iff_iff]
  simp
theorem op_eqX (hu : X.A.units + 64 < cLine) : OpR X (compareOp .Eq) (rEqX X.K) := op_eq.or (op_eqD hu)
theorem op_neX (hu : X.A.units + 64 < cLine) : OpR X (compareOp .NotEq) (rNeX X.K) := op_ne.or (op_neD hu)
theorem r2_eqX : R2ok K Γ (rEqX K) hEqX := r2_alt (R2ok.pure fun H x y a b c Q ha hb e q => by
  unfold gEqS at e
  split at e
  · cases e
    cases ha; cases hb
    exact ⟨rfl, by rw [dec_strV]; exact q _ fun G => .bl _⟩
  · cases e) r2_eq
theorem r2_neX : R2ok K Γ (rNeX K) hNeX := r2_alt (R2ok.pure fun H x y a b c Q ha hb e q => by
  unfold gNeS at e
  split at e
  · cases e
    cases ha; cases hb
    exact ⟨rfl, by rw [dec_strV]; exact q _ fun G => .bl _⟩
  · cases e) r2_ne
end
end EV
set_option Elab.async false
set_option linter.all false
set_option maxRecDepth 100000
set_option maxHeartbeats 4000000
/-! Defs that tell a new list, which the caller may change. -/
namespace EV
open PySem PySem.Spec PyProof.Rows L2 PySem.NearX
/-- what is told is new: it stands at an address of its own -/
def NewR (K : PySem.W.Frag) (Γ : Cls0) (H0 G H : Hp) (v : V) (d : D) : Prop := ∃ p, v = .ref p ∧ Own K Γ G H p d ∧ H0 p = none
structure AtSF (K : PySem.W.Frag) (Γ : Cls0) (W : WX) (env0 : SEnv) (σ0 : L2.St) (G0 H0 : Hp) (o : SO) (E : Ends) : Prop where
  nb : o ≠ .bad
  nx : ∀ e, o ≠ .nx e
  bk : ∀ e, o ≠ .bk e
  ct : ∀ e, o ≠ .ct e
  rt : ∀ d env' v σ' G' H', o = .rt d env' → PostS K Γ env0 σ0 G0 H0 env' σ' G' H' → NewR K Γ H0 G' H' v d → E.rt v H'
  ex : ∀ c d env' cls dx σ' G' H', o = .ex c d env' → PostS K Γ env0 σ0 G0 H0 env' σ' G' H' → ExR K Γ G' H' cls dx c d → W cls dx σ' H'
def tSF (K : PySem.W.Frag) (Γ : Cls0) (W : WX) (f : SEnv → SO) : TS := fun E σ H => ∃ env G, Rel K Γ env σ G H ∧ AtSF K Γ W env σ G H (f env) E
def sRetF (f : SEnv → Out Rv) : SEnv → SO := sB f fun r env => match r with
  | .f d => .rt d env
  | _ => .bad
def sSeqF (f g : SEnv → SO) : SEnv → SO := fun env => match f env with
  | .nx e => g e
  | .ex c d e => .ex c d e
  | _ => .bad
section
variable {K : PySem.W.Frag} {Γ : Cls0} {W : WX} {σ0 σ : L2.St} {env0 env env1 : SEnv} {G0 H0 G H G1 H1 : Hp} {α β : Type}
theorem PostS.dom (p : PostS K Γ env0 σ0 G0 H0 env σ G H) {b : Addr} (h : H b = none) : H0 b = none := by
  by_cases z : H0 b = none
  · exact z
  · exact absurd h (p.fr.d b z)
theorem NewR.early {v : V} {d : D} (h : NewR K Γ H G1 H1 v d) (p : PostS K Γ env0 σ0 G0 H0 env σ G H) : NewR K Γ H0 G1 H1 v d := by
  obtain ⟨q, e, o, n⟩ := h
  exact ⟨q, e, o, p.dom n⟩
theorem AtSF.go {o : SO} {E : Ends} (a : AtSF K Γ W env0 σ0 G0 H0 o E) (p : PostS K Γ env0 σ0 G0 H0 env σ G H) : AtSF K Γ W env σ G H o E :=
  ⟨a.nb, a.nx, a.bk, a.ct, fun d env' v σ' G' H' e q h => a.rt _ _ _ _ _ _ e (p.trans q) (h.early p), fun c d env' cls dx σ' G' H' e q x => a.ex _ _ _ _ _ _ _ _ e (p.trans q) x⟩
end
section
variable {X : Cx} {Γ : Cls0} {W : WX} {pos : Pos} {e : Expr} {st : Stmt} {rest : List Stmt} {f : SEnv → Out Rv} {fs gs : SEnv → SO} {c : SEnv → Out Bool}
theorem sF_ret (he : PE X e (tE X.K Γ W f)) : PS X (.Return (some e) pos) (tSF X.K Γ W (sRetF f)) := psI (ps_ret he) fun E σ H ⟨env, G, rel, a⟩ => by
  have a' := a
  unfold sRetF sB at a'
  refine ⟨env, G, rel, fun z => ?_, fun r env1 v G1 H1 e1 p1 rr => ?_, fun c d env1 cls dx G1 H1 e1 p1 x => ?_⟩
  · rw [z] at a'; exact a'.nb rfl
  · rw [e1] at a'
    cases r with
    | f d =>
      obtain ⟨p, ev, o, _, n⟩ := rr
      exact a'.rt d env1 v σ G1 H1 rfl p1.s ⟨p, ev, o, n⟩
    | _ => exact absurd rfl a'.nb
  · rw [e1] at a'; exact a'.ex c d env1 cls dx σ G1 H1 rfl p1.s x
theorem sF_one (h : PS X st (tSF X.K Γ W fs)) : PSs X [st] (tSF X.K Γ W fs) := pss_one h
theorem sF_cons (h1 : PS X st (tS X.K Γ W fs)) (h2 : PSs X rest (tSF X.K Γ W gs)) : PSs X (st :: rest) (tSF X.K Γ W (sSeqF fs gs)) := pssI (pss_cons h1 h2) fun E σ H ⟨env, G, rel, a⟩ => by
  have a' := a
  unfold sSeqF at a'
  refine ⟨env, G, rel, fun z => ?_, fun env' σ' G' H' e p => ?_, fun d env' v σ' G' H' e p hd => ?_, fun env' σ' G' H' e p => ?_, fun env' σ' G' H' e p => ?_, fun c d env' cls dx σ' G' H' e p x => ?_⟩
  · rw [z] at a'; exact a'.nb rfl
  · rw [e] at a'
    exact ⟨env', G', p.rel, a'.go p⟩
  · rw [e] at a'; exact absurd rfl a'.nb
  · rw [e] at a'; exact absurd rfl a'.nb
  · rw [e] at a'; exact absurd rfl a'.nb
  · rw [e] at a'; exact a'.ex c d env' cls dx σ' G' H' rfl p x
theorem sF_if {b : Expr} {x y : List Stmt} (hc : PT X b (tT X.K Γ W c)) (hx : PSs X x (tSF X.K Γ W fs)) (hy : PSs X y (tSF X.K Γ W gs)) : PS X (.If b x y pos) (tSF X.K Γ W (sIf c fs gs)) := psI (ps_if hc hx hy) fun E σ H ⟨env, G, rel, a⟩ => by
  have a' := a
  unfold sIf sB at a'
  refine ⟨env, G, rel, fun z => ?_, fun r env1 v G1 H1 e1 p1 rr => ?_, fun c d env1 cls dx G1 H1 e1 p1 x => ?_⟩
  · rw [z] at a'; exact a'.nb rfl
  · rw [e1] at a'
    obtain rfl : v = r := rr
    cases v with
    | true =>
      simp only [if_true] at a'
      exact iteT ⟨env1, G1, p1.rel, a'.go p1.s⟩
    | false =>
      simp only [Bool.false_eq_true, if_false] at a'
      exact iteF ⟨env1, G1, p1.rel, a'.go p1.s⟩
  · rw [e1] at a'; exact a'.ex c d env1 cls dx σ G1 H1 rfl p1.s x
end
def gOfF (fb : SEnv → SO) (ms : List Bool) (n : Nat) (ds : List D) : Out D := match fb (mkE ms ds ++ List.replicate (n - ms.length) .no) with
  | .rt d e => .ok d (back ms ds e)
  | .ex c d e => .ex c d (back ms ds e)
  | _ => .bad
def spFf (K : PySem.W.Frag) (Γ : Cls0) (ms : List Bool) (g : List D → Out D) : Sp := fun vs H Q E => ∃ ds G, ds.length = ms.length ∧ vs.length = ms.length ∧ Rel K Γ (mkE ms ds) (vs.map some) G H ∧
  At K Γ (fun cls dx _ H => E cls dx H) (vs.map some) (mkE ms ds) G H (fun _ _ H0 G H v d => NewR K Γ H0 G H v d) (g ds) Q
section
variable {K : PySem.W.Frag} {Γ : Cls0} {ms : List Bool} {ds : List D} {vs : List V} {G H G' H' : Hp} {n : Nat} {N : List Str}
theorem body_okF {fb : SEnv → SO} {Q : VK} {E : XK} (hn : ms.length ≤ N.length) (h : spFf K Γ ms (gOfF fb ms N.length) vs H Q E) :
    tSF K Γ (fun cls dx _ H => E cls dx H) fb { nx := fun _ H' => Q .non H', rt := Q } (L2.start N vs) H := by
  obtain ⟨ds, G, hl, hv, r, a⟩ := h
  unfold gOfF at a
  have r0 := r.st0 (N := N) hl hv hn
  refine ⟨_, G, r0, fun z => ?_, fun e z => ?_, fun e z => ?_, fun e z => ?_, fun d e v σ' G' H' z p hd => ?_, fun c d e cls dx σ' G' H' z p x => ?_⟩
  · rw [z] at a; exact a.nb rfl
  · rw [z] at a; exact a.nb rfl
  · rw [z] at a; exact a.nb rfl
  · rw [z] at a; exact a.nb rfl
  · rw [z] at a; exact a.ok d _ v G' H' rfl (p.toPost r hl hv hn) hd
  · rw [z] at a; exact a.ex c d _ cls dx G' H' rfl (p.toPost r hl hv hn) x
end
section
variable {P : Program} {w : World} {K : PySem.W.Frag} {Γ : Cls0} {mg : Str → Option Value} {base : Heap} {k : Nat} {f : Addr} {fd : FuncData} {ps N : List Str} {x qual : Str} {st : Stmt} {ms : List Bool} {fb : SEnv → SO}
theorem okFf (F : Fun K x qual st f fd) (S : FnScope N ps (defScope st)) (hm : ms.length = ps.length) (hn : ms.length ≤ N.length)
    (hbody : ∀ (cdv : Value) (A : Around) (outer : List Env) (s : Shared) (H : Hp) (E : XK), Room k (A.deeper (envOfC qual (defScope st) s.heap.objs.size f cdv)) →
      PSs (cxOf (L2.CX P w) P w K mg base N qual (defScope st) f cdv A outer s H E) (defBody st) (tSF K Γ (WB E) fb)) :
    FnOk P w K mg base (L2.CX P w) (k + 1) f fd ps (spFf K Γ ms (gOfF fb ms N.length)) := by
  refine F.okX S (fun vs H Q E ⟨ds, G, hl, hv, _⟩ => hv.trans hm) fun cdv A outer s H vs Q E hr h => ⟨_, hbody cdv A outer s H E hr, body_okF hn h⟩
end
def callFf (g : List D → Out D) (ms : List Bool) (rs : List Rv) (env : SEnv) : Out Rv := match ctsOf env ms rs with
  | none => .bad
  | some ds => if (ptrs rs).Nodup then (match g ds with
    | .ok r ea => .ok (.f r) (wbk rs ea env)
    | .ex c d ea => .ex c d (wbk rs ea env)
    | .bad => .bad) else .bad
def eCallF (g : List D → Out D) (ms : List Bool) (fa : SEnv → Out (List Rv)) : SEnv → Out Rv := eB fa fun rs env => callFf g ms rs env
section
variable {K : PySem.W.Frag} {Γ : Cls0} {env : SEnv} {σ : L2.St} {H0 G H : Hp} {vs : List V} {rs : List Rv} {ms : List Bool}
theorem call_spF {W : WX} {env0 : SEnv} {G0 H0' : Hp} {g : List D → Out D} {Q : VK} (p : Post K Γ env0 σ G0 H0' env G H) (rv : RvA K Γ env σ H0 G H vs rs) (a : At K Γ W σ env0 G0 H0' (RE K Γ) (callFf g ms rs env) Q) : spFf K Γ ms g vs H Q (WE W σ) := by
  unfold callFf at a
  cases c : ctsOf env ms rs with
  | none => simp only [c] at a; exact absurd rfl a.nb
  | some ds =>
    simp only [c] at a
    by_cases nd : (ptrs rs).Nodup
    · simp only [nd, if_true] at a
      obtain ⟨l1, l2⟩ := cts_len c
      refine ⟨ds, G, l1, by rw [Paired.length rv]; exact l2, args_rel p.rel rv c nd, fun z => ?_, fun r ea v G' H' e q hd => ?_, fun c' d ea cls dx G' H' e q x => ?_⟩
      · rw [z] at a; exact a.nb rfl
      · rw [e] at a
        have k := call_post p.rel rv c nd q
        obtain ⟨u, eu, o, nu⟩ := hd
        exact a.run (.f r) v _ G' H' rfl (p.trans k) ⟨u, eu, o, fun z => (p.rel.ow (k.ks.ow z)).2 nu, p.dom nu⟩
      · rw [e] at a; exact a.ex c' d _ cls dx G' H' rfl (p.trans (call_post p.rel rv c nd q)) x
    · simp only [nd, if_false] at a; exact absurd rfl a.nb
end
section
variable {X : Cx} {Γ : Cls0} {W : WX} {pos p : Pos} {e : Expr} {es : List Expr} {g : SEnv → Out (List Rv)} {gd : List D → Out D} {ms : List Bool} {k : Nat} {fa : Addr} {fd : FuncData} {ps : List Str} {x : Str}
theorem sE_callN (c : Cal X.K X.mg x ps fa fd) (F : FnOk X.prog X.w X.K X.mg X.base (L2.CX X.prog X.w) k fa fd ps (spFf X.K Γ ms gd)) (hr : Room k X.A) (hg : Gl X x) (hx : ∀ σ, PassesAt (L2.CX X.prog X.w) X σ (WE W σ))
    (ha : PA X (e :: es) (tAr X.K Γ W g)) (hdb : (x == ("__debug__" : Str)) = false := by decide) (he : starEach (e :: es) X.env = (false, eval e X.env) :: starEach es X.env := by rfl) (hpl : (backTo pos (starEach es X.env)).any (·.1) = false := by rfl) :
    PE X (.Call (.Name x p) (e :: es) [] pos) (tE X.K Γ W (eCallF gd ms g)) :=
  peI (pe_callS F hr hg c.g c.k c.b hx ha hdb he hpl) fun σ H Q ⟨env, G, rel, a⟩ => tX.bind a (Post.refl rel) fun rs env1 vs G1 H1 e1 p1 rr a1 => call_spF p1 rr a1
end
end EV
set_option Elab.async false
set_option linter.all false
set_option maxRecDepth 100000
set_option maxHeartbeats 8000000
set_option maxErrors 1000
namespace EV
open PySem PySem.Spec PyProof.Rows L2 PySem.NearX
abbrev fuelN : Nat := 100000
def b_Table_rows : SEnv → SO := (sRet (eU hList (eFld "_rows" clsAll (eVar 0))))
def g_Table_rows : List D → Out D := gOf b_Table_rows [false] 1
def b__law_is : SEnv → SO := (sSeq (sIf (eOrT (eNotT (eTr (eU (hIs (ansC "Table")) (eVar 0)))) (eOrT (eTv (eOp hNeX (eFld "width" clsAll (eVar 0)) (eVar 1))) (eTv (eOp hNeX (eFld "arity" clsAll (eVar 0)) (eVar 2))))) (sRet (eC (.bl false))) sNil)
 (sRet (eOp hEqX (eU (h1 gRepr) (eProp "Table" g_Table_rows (eVar 0))) (eU (h1 gRepr) (eSS (eVar 3))))))
def g__law_is : List D → Out D := gOf b__law_is [false, false, false, false] 4
def b_is_between : SEnv → SO := (sRet (eAndV (eU (hIs (ansB ["int", "bool"])) (eVar 0)) (eAndV (eNotV (eU (hIs (ansB ["bool"])) (eVar 0))) (eChain hLe hLe (eVar 1) (eVar 0) (eVar 2)))))
def g_is_between : List D → Out D := gOf b_is_between [false, false, false] 3
def b_is_below : SEnv → SO := (sRet (eCall g_is_between [false, false, false] (eAK (eVar 0) (eAK (eC (.int (0))) (eAK (eOp hSub (eVar 1) (eC (.int (1)))) eANil)))))
def g_is_below : List D → Out D := gOf b_is_below [false, false] 2
def b_is_row : SEnv → SO := (sRet (eAndV (eU (hIs (ansB ["tuple"])) (eVar 0)) (eAndV (eOp hEqX (eU (h1 gLen) (eVar 0)) (eVar 2)) (eU (h1 gAll) (eLc (eSeq (eVar 0)) (tgN 3) eYes (eK (eCall g_is_below [false, false] (eAK (eVar 3) (eAK (eVar 1) eANil)))) [3])))))
def g_is_row : List D → Out D := gOf b_is_row [false, false, false] 4
def b_check_arity : SEnv → SO := (sIf (eNotT (eTr (eCall g_is_between [false, false, false] (eAK (eVar 0) (eAK (eC (.int (1))) (eAK (eVar 1) eANil)))))) (sRaise0 "BadArity") sNil)
def g_check_arity : List D → Out D := gOf b_check_arity [false, false] 2
def b_check_width : SEnv → SO := (sIf (eNotT (eTr (eCall g_is_between [false, false, false] (eAK (eVar 0) (eAK (eC (.int (1))) (eAK (eC (.int 3)) eANil)))))) (sRaise0 "BadWidth") sNil)
def g_check_width : List D → Out D := gOf b_check_width [false] 1
def b_Table___init__ : SEnv → SO := (sSeq (sEx (eCall g_check_width [false] (eAK (eVar 1) eANil)))
 (sSeq (sEx (eCall g_check_arity [false, false] (eAK (eVar 2) (eAK (eC (.int 3)) eANil))))
 (sSeq (sIf (eNotT (eTr (eU (hIs (ansB ["list"])) (eVar 3)))) (sRaise0 "NoList") sNil)
 (sSeq (sFor (eEnum (eVar 3)) (tgT (tgsCons (tgN 4) (tgsCons (tgN 5) tgsNil))) (sIf (eNotT (eTr (eCall g_is_row [false, false, false] (eAK (eVar 5) (eAK (eVar 1) (eAK (eVar 2) eANil)))))) (sRaiseI "BadRow" "number" (eVar 4)) sNil))
 (sSeq (sFldS "width" clsAll 0 (eVar 1))
 (sSeq (sFldS "arity" clsAll 0 (eVar 2))
 (sFldS "_rows" clsAll 0 (eSS (eVar 3)))))))))
def g_Table___init__ : List D → Out D := gOf b_Table___init__ [true, false, false, false] 6
def b_check_order : SEnv → SO := (sIf (eOrT (eNotT (eTr (eU (hIs (ansB ["list"])) (eVar 0)))) (eOrT (eNotT (eTr (eCall g_is_row [false, false, false] (eAK (eU hTuple (eVar 0)) (eAK (eVar 1) (eAK (eVar 1) eANil)))))) (eTv (eOp hLt (eU (h1 gLenSet) (eVar 0)) (eVar 1))))) (sRaise0 "BadOrder") sNil)
def g_check_order : List D → Out D := gOf b_check_order [false, false] 2
def b_Table_renamed : SEnv → SO := (sSeq (sEx (eCall g_check_order [false, false] (eAK (eVar 1) (eAK (eFld "width" clsAll (eVar 0)) eANil))))
 (sRet (eMake "Table" g_Table___init__ [false, false, false] (eAK (eFld "width" clsAll (eVar 0)) (eAK (eFld "arity" clsAll (eVar 0)) (eAK (eLc (eSeq (eFld "_rows" clsAll (eVar 0))) (tgN 2) eYes (eK (eU hTuple (eLc (eSeq (eVar 2)) (tgN 3) eYes (eK (eOp (h2 gIx) (eVar 1) (eVar 3))) [3]))) [2]) eANil))))))
def g_Table_renamed : List D → Out D := gOf b_Table_renamed [false, false] 4
def b_Table_glued : SEnv → SO := (sSeq (sIf (eOrT (eNotT (eTr (eCall g_is_below [false, false] (eAK (eVar 1) (eAK (eFld "arity" clsAll (eVar 0)) eANil))))) (eNotT (eTr (eCall g_is_below [false, false] (eAK (eVar 2) (eAK (eFld "arity" clsAll (eVar 0)) eANil)))))) (sRaise0 "BadSpots") sNil)
 (sRet (eMake "Table" g_Table___init__ [false, false, false] (eAK (eFld "width" clsAll (eVar 0)) (eAK (eFld "arity" clsAll (eVar 0)) (eAK (eLc (eSeq (eFld "_rows" clsAll (eVar 0))) (tgN 3) (eTv (eOp hEqX (eOp (h2 gIx) (eVar 3) (eVar 1)) (eOp (h2 gIx) (eVar 3) (eVar 2)))) (eK (eVar 3)) [3]) eANil))))))
def g_Table_glued : List D → Out D := gOf b_Table_glued [false, false, false] 4
def b_Table_seen : SEnv → SO := (sSeq (sIf (eOrT (eNotT (eTr (eU (hIs (ansB ["tuple"])) (eVar 1)))) (eNotT (eTr (eCall g_is_between [false, false, false] (eAK (eU (h1 gLen) (eVar 1)) (eAK (eC (.int (1))) (eAK (eC (.int 3)) eANil))))))) (sRaise0 "BadSpots") sNil)
 (sSeq (sIf (eNotT (eTr (eCall g_is_row [false, false, false] (eAK (eVar 1) (eAK (eFld "arity" clsAll (eVar 0)) (eAK (eU (h1 gLen) (eVar 1)) eANil)))))) (sRaise0 "BadSpots") sNil)
 (sRet (eMake "Table" g_Table___init__ [false, false, false] (eAK (eFld "width" clsAll (eVar 0)) (eAK (eU (h1 gLen) (eVar 1)) (eAK (eLc (eSeq (eFld "_rows" clsAll (eVar 0))) (tgN 2) eYes (eK (eU hTuple (eLc (eSeq (eVar 1)) (tgN 3) eYes (eK (eOp (h2 gIx) (eVar 2) (eVar 3))) [3]))) [2]) eANil)))))))
def g_Table_seen : List D → Out D := gOf b_Table_seen [false, false] 4
def b__law_take : SEnv → SO := (sSeq (sIf (eTv (eOp hGt (eOp (h2 gIx) (eVar 0) (eC (.int (0)))) (eC (.int (0))))) (sSeq (sAsg (eOp hMod (eU (h1 gInt) (eOp (h2 gIx) (eVar 0) (eC (.int (0))))) (eVar 1)) (tgN 2))
 (sSeq (sSub 0 (eOp hDiv (eOp (h2 gIx) (eVar 0) (eC (.int (0)))) (eVar 1)) (eC (.int (0))))
 (sRet (eVar 2)))) sNil)
 (sSeq (sSub 0 (eOp hMod (eU (h1 gInt) (eOp hAdd (eOp hMul (eOp (h2 gIx) (eVar 0) (eC (.int (1)))) (eC (.int (6364136223846793005)))) (eC (.int (1442695040888963407))))) (eC (.int (2305843009213693951)))) (eC (.int (1))))
 (sRet (eOp hMod (eU (h1 gInt) (eOp hDiv (eOp (h2 gIx) (eVar 0) (eC (.int (1)))) (eC (.int (65536))))) (eVar 1)))))
def g__law_take : List D → Out D := gOf b__law_take [true, false] 3
def b__law_pick : SEnv → SO := (sRet (eOp (h2 gIx) (eVar 1) (eCall g__law_take [true, false] (eAP (eVar 0) (eAK (eU (h1 gLen) (eVar 1)) eANil)))))
def g__law_pick : List D → Out D := gOf b__law_pick [true, false] 2
def b__law_all : SEnv → SO := (sSeq (sAsg (eLst (eCons (eTup eNil) eNil)) (tgN 2))
 (sSeq (sFor (eRng1 (eVar 1)) (tgN 3) (sSeq (sAsg (eLst eNil) (tgN 4))
 (sSeq (sFor (eSeq (eVar 2)) (tgN 5) (sAsg (eOp hAdd (eVar 4) (eLc (eRng1 (eVar 0)) (tgN 6) eYes (eK (eOp hAdd (eVar 5) (eTup (eCons (eVar 6) eNil)))) [6])) (tgN 4)))
 (sAsg (eVar 4) (tgN 2)))))
 (sRet (eVar 2))))
def g__law_all : List D → Out D := gOf b__law_all [false, false] 7
def b__law_twice_right : SEnv → SO := (sSeq (sAsg (eLc (eRng1 (eC (.int (2)))) (tgN 5) eYes (eK (eU hTuple (eLc (eRng1 (eOp hAdd (eC (.int (1))) (eCall g__law_take [true, false] (eAP (eVar 0) (eAK (eC (.int (3))) eANil))))) (tgN 14) eYes (eK (eCall g__law_take [true, false] (eAP (eVar 0) (eAK (eVar 3) eANil)))) [14]))) [5]) (tgN 6))
 (sSeq (sAsg (eLc (eRng1 (eC (.int (2)))) (tgN 5) eYes (eK (eTup (eCons (eCall g__law_take [true, false] (eAP (eVar 0) (eAK (eVar 3) eANil))) (eCons (eCall g__law_take [true, false] (eAP (eVar 0) (eAK (eVar 3) eANil))) eNil)))) [5]) (tgN 7))
 (sSeq (sAsg (eLc (eSeq (eCall g__law_all [false, false] (eAK (eVar 2) (eAK (eVar 2) eANil)))) (tgN 15) (eTv (eOp hEqX (eU (h1 gLenSet) (eVar 15)) (eVar 2))) (eK (eU hList (eVar 15))) [15]) (tgN 8))
 (sSeq (sAsg (eLst (eCons (eCall g__law_pick [true, false] (eAP (eVar 0) (eAK (eVar 8) eANil))) (eCons (eCall g__law_pick [true, false] (eAP (eVar 0) (eAK (eVar 8) eANil))) eNil))) (tgN 9))
 (sSeq (sFor (eSeq (eTup (eCons (eC (.int (0))) (eCons (eC (.int (1))) (eCons (eC (.int (0))) eNil))))) (tgN 5) (sSeq (sAsg (eLc (eSeq (eVar 4)) (tgN 15) eYes (eK (eU hTuple (eLc (eSeq (eOp (h2 gIx) (eVar 6) (eVar 5))) (tgN 16) eYes (eK (eOp (h2 gIx) (eVar 15) (eVar 16))) [16]))) [15]) (tgN 10))
 (sSeq (sIf (eNotT (eTr (eCall g__law_is [false, false, false, false] (eAK (eMeth "Table" "seen" g_Table_seen [false] (eVar 1) (eAK (eOp (h2 gIx) (eVar 6) (eVar 5)) eANil)) (eAK (eVar 2) (eAK (eU (h1 gLen) (eOp (h2 gIx) (eVar 6) (eVar 5))) (eAK (eVar 10) eANil))))))) (sRet (eC (.bl false))) sNil)
 (sSeq (sAsg (eOp (h2 gIx) (eVar 7) (eVar 5)) (tgT (tgsCons (tgN 11) (tgsCons (tgN 12) tgsNil))))
 (sSeq (sIf (eNotT (eTr (eCall g__law_is [false, false, false, false] (eAK (eMeth "Table" "glued" g_Table_glued [false, false] (eVar 1) (eAK (eVar 11) (eAK (eVar 12) eANil))) (eAK (eVar 2) (eAK (eVar 3) (eAK (eLc (eSeq (eVar 4)) (tgN 15) (eTv (eOp hEqX (eOp (h2 gIx) (eVar 15) (eVar 11)) (eOp (h2 gIx) (eVar 15) (eVar 12)))) (eK (eVar 15)) [15]) eANil))))))) (sRet (eC (.bl false))) sNil)
 (sSeq (sAsg (eLc (eSeq (eVar 4)) (tgN 15) eYes (eK (eU hTuple (eLc (eSeq (eVar 15)) (tgN 17) eYes (eK (eOp (h2 gIx) (eOp (h2 gIx) (eVar 9) (eVar 5)) (eVar 17))) [17]))) [15]) (tgN 13))
 (sIf (eNotT (eTr (eCall g__law_is [false, false, false, false] (eAK (eMeth "Table" "renamed" g_Table_renamed [false] (eVar 1) (eAK (eOp (h2 gIx) (eVar 9) (eVar 5)) eANil)) (eAK (eVar 2) (eAK (eVar 3) (eAK (eVar 13) eANil))))))) (sRet (eC (.bl false))) sNil)))))))
 (sRet (eC (.bl true))))))))
def g__law_twice_right : List D → Out D := gOf b__law_twice_right [true, false, false, false, false] 18
def b_Table_equal : SEnv → SO := (sSeq (sEx (eCall g_check_width [false] (eAK (eVar 0) eANil)))
 (sRet (eMake "Table" g_Table___init__ [false, false, false] (eAK (eVar 0) (eAK (eC (.int (2))) (eAK (eLc (eRng1 (eVar 0)) (tgN 1) eYes (eK (eTup (eCons (eVar 1) (eCons (eVar 1) eNil)))) [1]) eANil))))))
def g_Table_equal : List D → Out D := gOf b_Table_equal [false] 2
def b_Table_only : SEnv → SO := (sRet (eMake "Table" g_Table___init__ [false, false, false] (eAK (eVar 0) (eAK (eC (.int (1))) (eAK (eLst (eCons (eTup (eCons (eVar 1) eNil)) eNil)) eANil)))))
def g_Table_only : List D → Out D := gOf b_Table_only [false, false] 2
def b__tuple_after : SEnv → SO := (sSeq (sFor (eRng3 (eOp hSub (eU (h1 gLen) (eVar 0)) (eC (.int (1)))) (eU (h1 gNeg) (eC (.int (1)))) (eU (h1 gNeg) (eC (.int (1))))) (tgN 2) (sIf (eTv (eOp hLt (eOp hAdd (eOp (h2 gIx) (eVar 0) (eVar 2)) (eC (.int (1)))) (eVar 1))) (sRet (eOp hAdd (eOp hAdd (eSl (eVar 0) eNoP (ePt (eVar 2))) (eTup (eCons (eOp hAdd (eOp (h2 gIx) (eVar 0) (eVar 2)) (eC (.int (1)))) eNil))) (eOp hMul (eTup (eCons (eC (.int (0))) eNil)) (eOp hSub (eOp hSub (eU (h1 gLen) (eVar 0)) (eVar 2)) (eC (.int (1))))))) sNil))
 (sRet (eC .non)))
def g__tuple_after : List D → Out D := gOf b__tuple_after [false, false] 3
def b_all_tuples : GF := (gSeq (gPl (sAsg (eOp hMul (eTup (eCons (eC (.int (0))) eNil)) (eVar 1)) (tgN 2)))
 (gSeq (gPl (sIf (eAndT (eTv (eOp hLt (eVar 0) (eC (.int (1))))) (eTv (eOp hGt (eVar 1) (eC (.int (0)))))) (sAsg (eC .non) (tgN 2)) sNil))
 (gSeq (fun env ys => gWh (eTv (eNotN (eVar 2))) (gSeq (gYd (eVar 2))
 (gSeq (gPl (sAsg (eCall g__tuple_after [false, false] (eAK (eVar 2) (eAK (eVar 0) eANil))) (tgN 2)))
 gNil)) fuelN env ys)
 gNil)))
def g_all_tuples : List D → Option (List D) := ggOf b_all_tuples [false, false] 3
def b_Table_full : SEnv → SO := (sSeq (sEx (eCall g_check_width [false] (eAK (eVar 0) eANil)))
 (sSeq (sEx (eCall g_check_arity [false, false] (eAK (eVar 1) (eAK (eC (.int 3)) eANil))))
 (sRet (eMake "Table" g_Table___init__ [false, false, false] (eAK (eVar 0) (eAK (eVar 1) (eAK (eListG g_all_tuples [false, false] (eCons (eVar 0) (eCons (eVar 1) eNil))) eANil)))))))
def g_Table_full : List D → Out D := gOf b_Table_full [false, false] 2
def b__law_static : SEnv → SO := (sTry errAll (sSeq (sIf (eTv (eOp hEqX (eVar 0) (eC (.int (0))))) (sRet (eCall g_Table_full [false, false] (eAK (eVar 1) (eAK (eVar 2) eANil)))) sNil)
 (sRet (eIf (eTv (eOp hEqX (eVar 0) (eC (.int (1))))) (eCall g_Table_equal [false] (eAK (eVar 1) eANil)) (eCall g_Table_only [false, false] (eAK (eVar 1) (eAK (eVar 2) eANil)))))) [("BadWidth", .s (sRet (eC (.str "width")))), ("BadArity", .s (sRet (eC (.str "arity")))), ("BadRow", .r 3 "number" (fun z => some (.tup [.str "row", z])))])
def g__law_static : List D → Out D := gOf b__law_static [false, false, false] 4
def b__law_statics_right : SEnv → SO := (sSeq (sAsg (eOp hSub (eVar 0) (eC (.int (1)))) (tgN 2))
 (sSeq (sIf (eNotT (eTr (eCall g__law_is [false, false, false, false] (eAK (eCall g__law_static [false, false, false] (eAK (eC (.int (0))) (eAK (eVar 0) (eAK (eVar 1) eANil)))) (eAK (eVar 0) (eAK (eVar 1) (eAK (eCall g__law_all [false, false] (eAK (eVar 0) (eAK (eVar 1) eANil))) eANil))))))) (sRet (eC (.bl false))) sNil)
 (sSeq (sIf (eNotT (eTr (eCall g__law_is [false, false, false, false] (eAK (eCall g__law_static [false, false, false] (eAK (eC (.int (1))) (eAK (eVar 0) (eAK (eC (.int (0))) eANil)))) (eAK (eVar 0) (eAK (eC (.int (2))) (eAK (eLc (eRng1 (eVar 0)) (tgN 4) eYes (eK (eTup (eCons (eVar 4) (eCons (eVar 4) eNil)))) [4]) eANil))))))) (sRet (eC (.bl false))) sNil)
 (sSeq (sIf (eNotT (eTr (eCall g__law_is [false, false, false, false] (eAK (eCall g__law_static [false, false, false] (eAK (eC (.int (2))) (eAK (eVar 0) (eAK (eVar 2) eANil)))) (eAK (eVar 0) (eAK (eC (.int (1))) (eAK (eLst (eCons (eTup (eCons (eVar 2) eNil)) eNil)) eANil))))))) (sRet (eC (.bl false))) sNil)
 (sSeq (sFor (eSeq (eLst (eCons (eC (.int (0))) (eCons (eC (.int (4))) (eCons (eU (h1 gNeg) (eC (.int (1)))) (eCons (eC (.bl true)) (eCons (eC .non) (eCons (eC (.str "1")) (eCons (eLst (eCons (eC (.int (1))) eNil)) (eCons (eTup (eCons (eC (.int (1))) eNil)) eNil)))))))))) (tgN 3) (sSeq (sIf (eTv (eOp hNeX (eLc (eRng1 (eC (.int (3)))) (tgN 5) eYes (eK (eCall g__law_static [false, false, false] (eAK (eVar 5) (eAK (eVar 3) (eAK (eVar 3) eANil))))) [5]) (eOp hMul (eLst (eCons (eC (.str "width")) eNil)) (eC (.int (3)))))) (sRet (eC (.bl false))) sNil)
 (sIf (eTv (eOp hNeX (eCall g__law_static [false, false, false] (eAK (eC (.int (0))) (eAK (eVar 0) (eAK (eVar 3) eANil)))) (eC (.str "arity")))) (sRet (eC (.bl false))) sNil)))
 (sSeq (sFor (eSeq (eLst (eCons (eVar 0) (eCons (eU (h1 gNeg) (eC (.int (1)))) (eCons (eC (.bl true)) (eCons (eC .non) (eCons (eC (.str "0")) (eCons (eTup (eCons (eC (.int (0))) eNil)) (eCons (eLst (eCons (eC (.int (0))) eNil)) (eCons (eC (.bl false)) (eCons (eOp hPow (eC (.int (10))) (eC (.int (30)))) eNil))))))))))) (tgN 3) (sIf (eTv (eOp hNeX (eCall g__law_static [false, false, false] (eAK (eC (.int (2))) (eAK (eVar 0) (eAK (eVar 3) eANil)))) (eTup (eCons (eC (.str "row")) (eCons (eC (.int (0))) eNil))))) (sRet (eC (.bl false))) sNil))
 (sRet (eC (.bl true)))))))))
def g__law_statics_right : List D → Out D := gOf b__law_statics_right [false, false] 6
def b__law_asked : SEnv → SO := (sTry errAll (sSeq (sIf (eTv (eOp hEqX (eVar 1) (eC (.int (0))))) (sRet (eMeth "Table" "seen" g_Table_seen [false] (eVar 0) (eAK (eVar 2) eANil))) sNil)
 (sRet (eIf (eTv (eOp hEqX (eVar 1) (eC (.int (1))))) (eMeth "Table" "glued" g_Table_glued [false, false] (eVar 0) (eAK (eVar 2) (eAK (eVar 3) eANil))) (eMeth "Table" "renamed" g_Table_renamed [false] (eVar 0) (eAK (eVar 2) eANil))))) [("BadSpots", .s (sRet (eC (.str "spots")))), ("BadOrder", .s (sRet (eC (.str "order"))))])
def g__law_asked : List D → Out D := gOf b__law_asked [false, false, false, false] 4
def b_Table___eq__ : SEnv → SO := (sRet (eAndV (eU (hIs (ansC "Table")) (eVar 1)) (eAndV (eOp hEqX (eFld "width" clsAll (eVar 0)) (eFld "width" clsAll (eVar 1))) (eAndV (eOp hEqX (eFld "arity" clsAll (eVar 0)) (eFld "arity" clsAll (eVar 1))) (eOp hEqX (eFld "_rows" clsAll (eVar 0)) (eFld "_rows" clsAll (eVar 1)))))))
def g_Table___eq__ : List D → Out D := gOf b_Table___eq__ [false, false] 2
def b__law_odd_orders : SEnv → SO := (sSeq (sIf (eTv (eOp hEqX (eVar 0) (eC (.int (1))))) (sRet (eLst (eCons (eLst (eCons (eC (.bl false)) eNil)) eNil))) sNil)
 (sSeq (sAsg (eLst (eCons (eOp hMul (eLst (eCons (eC (.int (0))) eNil)) (eVar 0)) (eCons (eOp hAdd (eU hList (eSl (eVar 1) eNoP (ePt (eU (h1 gNeg) (eC (.int (1))))))) (eLst (eCons (eOp (h2 gIx) (eVar 1) (eC (.int (0)))) eNil))) (eCons (eOp hAdd (eLc (eRng1 (eC (.int (2)))) (tgN 3) eYes (eK (eOp hEqX (eVar 3) (eC (.int (1))))) [3]) (eLstRg (eC (.int (2))) (eVar 0))) eNil)))) (tgN 2))
 (sRet (eOp hAdd (eVar 2) (eLst (eCons (eOp hAdd (eLst (eCons (eC (.int (0))) (eCons (eC (.bl true)) eNil))) (eLstRg (eC (.int (2))) (eVar 0))) eNil))))))
def g__law_odd_orders : List D → Out D := gOf b__law_odd_orders [false, false] 4
def b__law_one_right : SEnv → SO := (sSeq (sAsg (eU hTuple (eLc (eRng1 (eOp hAdd (eC (.int (1))) (eCall g__law_take [true, false] (eAP (eVar 0) (eAK (eC (.int (3))) eANil))))) (tgN 14) eYes (eK (eCall g__law_take [true, false] (eAP (eVar 0) (eAK (eVar 3) eANil)))) [14])) (tgN 5))
 (sSeq (sAsg (eLc (eSeq (eVar 4)) (tgN 15) eYes (eK (eU hTuple (eLc (eSeq (eVar 5)) (tgN 16) eYes (eK (eOp (h2 gIx) (eVar 15) (eVar 16))) [16]))) [15]) (tgN 6))
 (sSeq (sIf (eNotT (eTr (eCall g__law_is [false, false, false, false] (eAK (eCall g__law_asked [false, false, false, false] (eAK (eVar 1) (eAK (eC (.int (0))) (eAK (eVar 5) (eAK (eC (.int (0))) eANil))))) (eAK (eVar 2) (eAK (eU (h1 gLen) (eVar 5)) (eAK (eVar 6) eANil))))))) (sRet (eC (.bl false))) sNil)
 (sSeq (sAsg (eLst (eCons (eTup eNil) (eCons (eTup (eCons (eC (.int (0))) (eCons (eC (.int (0))) (eCons (eC (.int (0))) (eCons (eC (.int (0))) eNil))))) (eCons (eTup (eCons (eVar 3) eNil)) (eCons (eTup (eCons (eC (.int (0))) (eCons (eU (h1 gNeg) (eC (.int (1)))) eNil))) (eCons (eLst (eCons (eC (.int (0))) eNil)) (eCons (eC .non) (eCons (eC (.int (0))) (eCons (eTup (eCons (eC (.bl true)) eNil)) (eCons (eTup (eCons (eC (.str "0")) eNil)) (eCons (eTup (eCons (eC (.int (0))) (eCons (eC .non) eNil))) (eCons (eTup (eCons (eTup (eCons (eC (.int (0))) eNil)) eNil)) (eCons (eTup (eCons (eC (.bl false)) eNil)) eNil))))))))))))) (tgN 7))
 (sSeq (sFor (eSeq (eOp hAdd (eVar 7) (eLst (eCons (eTup (eCons (eU (h1 gNeg) (eC (.int (1)))) (eCons (eC (.int (0))) eNil))) (eCons (eTup (eCons (eVar 3) (eCons (eC (.int (0))) eNil))) (eCons (eTup (eCons (eC .non) (eCons (eC (.int (0))) eNil))) (eCons (eTup (eCons (eC (.bl true)) (eCons (eC (.int (0))) eNil))) (eCons (eTup (eCons (eC (.int (0))) (eCons (eU (h1 gNeg) (eC (.int (1)))) (eCons (eC (.int (0))) eNil)))) (eCons (eTup (eCons (eC (.int (0))) (eCons (eC (.bl true)) eNil))) (eCons (eTup (eCons (eC (.str "0")) (eCons (eC (.int (0))) (eCons (eC (.int (0))) eNil)))) eNil)))))))))) (tgN 8) (sIf (eTv (eOp (hOr2 hNeX (hEqO true "Table" okAll g_Table___eq__)) (eCall g__law_asked [false, false, false, false] (eAK (eVar 1) (eAK (eC (.int (0))) (eAK (eVar 8) (eAK (eC (.int (0))) eANil))))) (eC (.str "spots")))) (sRet (eC (.bl false))) sNil))
 (sSeq (sAsg (eTup (eCons (eCall g__law_take [true, false] (eAP (eVar 0) (eAK (eVar 3) eANil))) (eCons (eCall g__law_take [true, false] (eAP (eVar 0) (eAK (eVar 3) eANil))) eNil))) (tgT (tgsCons (tgN 9) (tgsCons (tgN 10) tgsNil))))
 (sSeq (sIf (eNotT (eTr (eCall g__law_is [false, false, false, false] (eAK (eCall g__law_asked [false, false, false, false] (eAK (eVar 1) (eAK (eC (.int (1))) (eAK (eVar 9) (eAK (eVar 10) eANil))))) (eAK (eVar 2) (eAK (eVar 3) (eAK (eLc (eSeq (eVar 4)) (tgN 15) (eTv (eOp hEqX (eOp (h2 gIx) (eVar 15) (eVar 9)) (eOp (h2 gIx) (eVar 15) (eVar 10)))) (eK (eVar 15)) [15]) eANil))))))) (sRet (eC (.bl false))) sNil)
 (sSeq (sFor (eSeq (eLst (eCons (eVar 3) (eCons (eU (h1 gNeg) (eC (.int (1)))) (eCons (eC (.bl true)) (eCons (eC .non) (eCons (eC (.str "0")) (eCons (eTup (eCons (eC (.int (0))) eNil)) (eCons (eLst (eCons (eC (.int (0))) eNil)) (eCons (eC (.bl false)) (eCons (eOp hPow (eC (.int (10))) (eC (.int (30)))) eNil))))))))))) (tgN 8) (sIf (eOrT (eTv (eOp (hOr2 hNeX (hEqO true "Table" okAll g_Table___eq__)) (eCall g__law_asked [false, false, false, false] (eAK (eVar 1) (eAK (eC (.int (1))) (eAK (eVar 8) (eAK (eVar 9) eANil))))) (eC (.str "spots")))) (eTv (eOp (hOr2 hNeX (hEqO true "Table" okAll g_Table___eq__)) (eCall g__law_asked [false, false, false, false] (eAK (eVar 1) (eAK (eC (.int (1))) (eAK (eVar 9) (eAK (eVar 8) eANil))))) (eC (.str "spots"))))) (sRet (eC (.bl false))) sNil))
 (sSeq (sAsg (eCall g__law_pick [true, false] (eAP (eVar 0) (eAK (eLc (eSeq (eCall g__law_all [false, false] (eAK (eVar 2) (eAK (eVar 2) eANil)))) (tgN 15) (eTv (eOp hEqX (eU (h1 gLenSet) (eVar 15)) (eVar 2))) (eK (eVar 15)) [15]) eANil))) (tgN 11))
 (sSeq (sAsg (eLc (eSeq (eVar 4)) (tgN 15) eYes (eK (eU hTuple (eLc (eSeq (eVar 15)) (tgN 17) eYes (eK (eOp (h2 gIx) (eVar 11) (eVar 17))) [17]))) [15]) (tgN 12))
 (sSeq (sAsg (eU hList (eVar 11)) (tgN 13))
 (sSeq (sIf (eOrT (eNotT (eTr (eCall g__law_is [false, false, false, false] (eAK (eCall g__law_asked [false, false, false, false] (eAK (eVar 1) (eAK (eC (.int (2))) (eAK (eVar 13) (eAK (eC (.int (0))) eANil))))) (eAK (eVar 2) (eAK (eVar 3) (eAK (eVar 12) eANil))))))) (eTv (eOp hNeX (eVar 13) (eU hList (eVar 11))))) (sRet (eC (.bl false))) sNil)
 (sSeq (sAsg (eLst (eCons (eLst eNil) (eCons (eOp hAdd (eU hList (eVar 11)) (eLst (eCons (eC (.int (0))) eNil))) (eCons (eVar 11) (eCons (eC .non) (eCons (eC (.int (0))) (eCons (eSl (eU hList (eVar 11)) eNoP (ePt (eU (h1 gNeg) (eC (.int (1)))))) eNil))))))) (tgN 7))
 (sSeq (sAsg (eOp hAdd (eVar 7) (eLst (eCons (eOp hAdd (eU hList (eSl (eVar 11) eNoP (ePt (eU (h1 gNeg) (eC (.int (1))))))) (eLst (eCons (eVar 2) eNil))) (eCons (eOp hMul (eLst (eCons (eOp hEqX (eOp (h2 gIx) (eVar 11) (eC (.int (0)))) (eC (.int (0)))) eNil)) (eVar 2)) eNil)))) (tgN 7))
 (sSeq (sAsg (eOp hAdd (eVar 7) (eLst (eCons (eOp hAdd (eU hList (eSl (eVar 11) eNoP (ePt (eU (h1 gNeg) (eC (.int (1))))))) (eLst (eCons (eC .non) eNil))) (eCons (eOp hMul (eC (.str "0")) (eVar 2)) (eCons (eOp hAdd (eU hList (eSl (eVar 11) eNoP (ePt (eU (h1 gNeg) (eC (.int (1))))))) (eLst (eCons (eLst (eCons (eC (.int (0))) eNil)) eNil))) (eCons (eOp hMul (eLst (eCons (eU (h1 gNeg) (eC (.int (1)))) eNil)) (eVar 2)) (eCons (eOp hMul (eLst (eCons (eC (.str "0")) eNil)) (eVar 2)) eNil))))))) (tgN 7))
 (sSeq (sAsg (eOp hAdd (eVar 7) (eCall g__law_odd_orders [false, false] (eAK (eVar 2) (eAK (eVar 11) eANil)))) (tgN 7))
 (sRet (eOp hEqX (eLc (eSeq (eVar 7)) (tgN 8) (eTv (eOp (hOr2 hNeX (hEqO true "Table" okAll g_Table___eq__)) (eCall g__law_asked [false, false, false, false] (eAK (eVar 1) (eAK (eC (.int (2))) (eAK (eVar 8) (eAK (eC (.int (0))) eANil))))) (eC (.str "order")))) (eK (eVar 8)) [8]) (eLst eNil)))))))))))))))))))
def g__law_one_right : List D → Out D := gOf b__law_one_right [true, false, false, false, false] 18
def b_Table___mul__ : SEnv → SO := (sSeq (sIf (eOrT (eNotT (eTr (eU (hIs (ansC "Table")) (eVar 1)))) (eOrT (eTv (eOp hNeX (eFld "width" clsAll (eVar 1)) (eFld "width" clsAll (eVar 0)))) (eTv (eOp hGt (eOp hAdd (eFld "arity" clsAll (eVar 0)) (eFld "arity" clsAll (eVar 1))) (eC (.int 3)))))) (sRaise0 "Unlike") sNil)
 (sRet (eMake "Table" g_Table___init__ [false, false, false] (eAK (eFld "width" clsAll (eVar 0)) (eAK (eOp hAdd (eFld "arity" clsAll (eVar 0)) (eFld "arity" clsAll (eVar 1))) (eAK (eLc2 (eSeq (eFld "_rows" clsAll (eVar 0))) (tgN 2) eYes (eSeq (eProp "Table" g_Table_rows (eVar 1))) (tgN 3) eYes (eK (eOp hAdd (eVar 2) (eVar 3))) [2, 3] [3]) eANil))))))
def g_Table___mul__ : List D → Out D := gOf b_Table___mul__ [false, false] 4
def b__law_behind : SEnv → SO := (sTry errAll (sRet (eBinO "Table" (okR "Table") g_Table___mul__ (eVar 0) (eVar 1))) [("Unlike", .s (sRet (eC (.str "unlike"))))])
def g__law_behind : List D → Out D := gOf b__law_behind [false, false] 2
def b_Table___contains__ : SEnv → SO := (sRet (eAndV (eCall g_is_row [false, false, false] (eAK (eVar 1) (eAK (eFld "width" clsAll (eVar 0)) (eAK (eFld "arity" clsAll (eVar 0)) eANil)))) (eOp (h2 gIn) (eVar 1) (eFld "_rows" clsAll (eVar 0)))))
def g_Table___contains__ : List D → Out D := gOf b_Table___contains__ [false, false] 2
def b_Table___and__ : SEnv → SO := (sSeq (sIf (eOrT (eNotT (eTr (eU (hIs (ansC "Table")) (eVar 1)))) (eOrT (eTv (eOp hNeX (eFld "width" clsAll (eVar 1)) (eFld "width" clsAll (eVar 0)))) (eTv (eOp hNeX (eFld "arity" clsAll (eVar 1)) (eFld "arity" clsAll (eVar 0)))))) (sRaise0 "Unlike") sNil)
 (sRet (eMake "Table" g_Table___init__ [false, false, false] (eAK (eFld "width" clsAll (eVar 0)) (eAK (eFld "arity" clsAll (eVar 0)) (eAK (eLc (eSeq (eFld "_rows" clsAll (eVar 0))) (tgN 2) (eTv (eOp (hInO false "Table" g_Table___contains__) (eVar 2) (eVar 1))) (eK (eVar 2)) [2]) eANil))))))
def g_Table___and__ : List D → Out D := gOf b_Table___and__ [false, false] 3
def b__law_both : SEnv → SO := (sTry errAll (sRet (eBinO "Table" (okR "Table") g_Table___and__ (eVar 0) (eVar 1))) [("Unlike", .s (sRet (eC (.str "unlike"))))])
def g__law_both : List D → Out D := gOf b__law_both [false, false] 2
def b__law_pairs_right : SEnv → SO := (sSeq (sAsg (eLc (eSeq (eOp (h2 gIx) (eVar 2) (eC (.int (2))))) (tgN 4) (eTv (eOp (h2 gIn) (eVar 4) (eOp (h2 gIx) (eVar 3) (eC (.int (2)))))) (eK (eVar 4)) [4]) (tgN 5))
 (sSeq (sAsg (eOp hEqX (eSl (eVar 2) eNoP (ePt (eC (.int (2))))) (eSl (eVar 3) eNoP (ePt (eC (.int (2)))))) (tgN 6))
 (sSeq (sAsg (eCall g__law_both [false, false] (eAK (eVar 0) (eAK (eVar 1) eANil))) (tgN 7))
 (sSeq (sIf (eOrT (eAndT (eTr (eVar 6)) (eNotT (eTr (eCall g__law_is [false, false, false, false] (eAK (eVar 7) (eAK (eOp (h2 gIx) (eVar 2) (eC (.int (0)))) (eAK (eOp (h2 gIx) (eVar 2) (eC (.int (1)))) (eAK (eVar 5) eANil)))))))) (eAndT (eNotT (eTr (eVar 6))) (eTv (eOp (hOr2 hNeX (hEqO true "Table" okAll g_Table___eq__)) (eVar 7) (eC (.str "unlike")))))) (sRet (eC (.bl false))) sNil)
 (sSeq (sPar 6 8 (eCons (eAndV (eOp hEqX (eOp (h2 gIx) (eVar 2) (eC (.int (0)))) (eOp (h2 gIx) (eVar 3) (eC (.int (0))))) (eOp hLe (eOp hAdd (eOp (h2 gIx) (eVar 2) (eC (.int (1)))) (eOp (h2 gIx) (eVar 3) (eC (.int (1))))) (eC (.int (3))))) (eCons (eLst eNil) eNil)))
 (sSeq (sFor (eSeq (eOp (h2 gIx) (eVar 2) (eC (.int (2))))) (tgN 4) (sAsg (eOp hAdd (eVar 8) (eLc (eSeq (eOp (h2 gIx) (eVar 3) (eC (.int (2))))) (tgN 10) eYes (eK (eOp hAdd (eVar 4) (eVar 10))) [10])) (tgN 8)))
 (sSeq (sAsg (eCall g__law_behind [false, false] (eAK (eVar 0) (eAK (eVar 1) eANil))) (tgN 7))
 (sSeq (sIf (eOrT (eAndT (eTr (eVar 6)) (eNotT (eTr (eCall g__law_is [false, false, false, false] (eAK (eVar 7) (eAK (eOp (h2 gIx) (eVar 2) (eC (.int (0)))) (eAK (eOp hAdd (eOp (h2 gIx) (eVar 2) (eC (.int (1)))) (eOp (h2 gIx) (eVar 3) (eC (.int (1))))) (eAK (eVar 8) eANil)))))))) (eAndT (eNotT (eTr (eVar 6))) (eTv (eOp (hOr2 hNeX (hEqO true "Table" okAll g_Table___eq__)) (eVar 7) (eC (.str "unlike")))))) (sRet (eC (.bl false))) sNil)
 (sSeq (sAsg (eLst (eCons (eC .non) (eCons (eC (.int (0))) (eCons (eOp (h2 gIx) (eVar 2) (eC (.int (2)))) (eCons (eC (.str "table")) (eCons (eTup eNil) eNil)))))) (tgN 9))
 (sRet (eOp hEqX (eLc (eSeq (eVar 9)) (tgN 11) (eOrT (eTv (eOp (hOr2 hNeX (hEqO true "Table" okAll g_Table___eq__)) (eCall g__law_both [false, false] (eAK (eVar 0) (eAK (eVar 11) eANil))) (eC (.str "unlike")))) (eTv (eOp (hOr2 hNeX (hEqO true "Table" okAll g_Table___eq__)) (eCall g__law_behind [false, false] (eAK (eVar 0) (eAK (eVar 11) eANil))) (eC (.str "unlike"))))) (eK (eVar 11)) [11]) (eLst eNil))))))))))))
def g__law_pairs_right : List D → Out D := gOf b__law_pairs_right [false, false, false, false] 12
def b__law_drawn_row : SEnv → SO := (sRet (eU hTuple (eLc (eRng1 (eVar 2)) (tgN 3) eYes (eK (eCall g__law_take [true, false] (eAP (eVar 0) (eAK (eVar 1) eANil)))) [3])))
def g__law_drawn_row : List D → Out D := gOf b__law_drawn_row [true, false, false] 4
def b__law_drawn_rows : SEnv → SO := (sRet (eLc (eRng1 (eCall g__law_take [true, false] (eAP (eVar 0) (eAK (eOp hAdd (eVar 3) (eC (.int (1)))) eANil)))) (tgN 4) eYes (eK (eCall g__law_drawn_row [true, false, false] (eAP (eVar 0) (eAK (eVar 1) (eAK (eVar 2) eANil))))) [4]))
def g__law_drawn_rows : List D → Out D := gOf b__law_drawn_rows [true, false, false, false] 5
def b__law_known_tables : SEnv → SO := (sSeq (sPar 1 2 (eCons (eCall g__law_all [false, false] (eAK (eVar 0) (eAK (eC (.int (2))) eANil))) (eCons (eCall g__law_all [false, false] (eAK (eVar 0) (eAK (eC (.int (3))) eANil))) eNil)))
 (sSeq (sSetM 3 (eLst (eCons (eLst (eCons (eC (.int (2))) (eCons (eLc (eSeq (eVar 1)) (tgN 4) (eTv (eOp hLe (eOp (h2 gIx) (eVar 4) (eC (.int (0)))) (eOp (h2 gIx) (eVar 4) (eC (.int (1)))))) (eK (eVar 4)) [4]) eNil))) (eCons (eLst (eCons (eC (.int (2))) (eCons (eLc (eSeq (eVar 1)) (tgN 4) (eTv (eOp hNeX (eOp (h2 gIx) (eVar 4) (eC (.int (0)))) (eOp (h2 gIx) (eVar 4) (eC (.int (1)))))) (eK (eVar 4)) [4]) eNil))) eNil))))
 (sSeq (sSetM 3 (eOp hAdd (eVar 3) (eLst (eCons (eLst (eCons (eC (.int (2))) (eCons (eLc (eSeq (eVar 1)) (tgN 4) (eTv (eOp hEqX (eOp (h2 gIx) (eVar 4) (eC (.int (0)))) (eOp (h2 gIx) (eVar 4) (eC (.int (1)))))) (eK (eVar 4)) [4]) eNil))) (eCons (eLst (eCons (eC (.int (1))) (eCons (eLst (eCons (eTup (eCons (eC (.int (0))) eNil)) eNil)) eNil))) (eCons (eLst (eCons (eC (.int (1))) (eCons (eLst (eCons (eTup (eCons (eOp hSub (eVar 0) (eC (.int (1)))) eNil)) eNil)) eNil))) eNil))))))
 (sSeq (sEx (eApp 3 (eLst (eCons (eC (.int (2))) (eCons (eLc (eSeq (eVar 1)) (tgN 4) (eTv (eOp hEqX (eOp hMod (eU (h1 gInt) (eOp hAdd (eOp (h2 gIx) (eVar 4) (eC (.int (0)))) (eC (.int (1))))) (eVar 0)) (eOp (h2 gIx) (eVar 4) (eC (.int (1)))))) (eK (eVar 4)) [4]) eNil)))))
 (sSeq (sEx (eApp 3 (eLst (eCons (eC (.int (2))) (eCons (eLc (eSeq (eVar 1)) (tgN 4) (eTv (eOp hEqX (eU (h1 gMax) (eVar 4)) (eOp hSub (eVar 0) (eC (.int (1)))))) (eK (eVar 4)) [4]) eNil)))))
 (sSeq (sEx (eApp 3 (eLst (eCons (eC (.int (2))) (eCons (eLc (eSeq (eVar 1)) (tgN 4) (eTv (eOp hEqX (eU (h1 gMin) (eVar 4)) (eC (.int (0))))) (eK (eVar 4)) [4]) eNil)))))
 (sSeq (sEx (eApp 3 (eLst (eCons (eC (.int (3))) (eCons (eLc (eSeq (eVar 2)) (tgN 4) (eTv (eOp hLe (eCall2 (h2 (gI (fun _ _ => true) fun i j => if j < i then j else i)) (eOp (h2 gIx) (eVar 4) (eC (.int (0)))) (eOp (h2 gIx) (eVar 4) (eC (.int (1))))) (eOp (h2 gIx) (eVar 4) (eC (.int (2)))))) (eK (eVar 4)) [4]) eNil)))))
 (sSeq (sEx (eApp 3 (eLst (eCons (eC (.int (3))) (eCons (eLc (eSeq (eVar 2)) (tgN 4) (eTv (eOp hGe (eCall2 (h2 (gI (fun _ _ => true) fun i j => if j > i then j else i)) (eOp (h2 gIx) (eVar 4) (eC (.int (0)))) (eOp (h2 gIx) (eVar 4) (eC (.int (1))))) (eOp (h2 gIx) (eVar 4) (eC (.int (2)))))) (eK (eVar 4)) [4]) eNil)))))
 (sSeq (sEx (eApp 3 (eLst (eCons (eC (.int (3))) (eCons (eLc (eSeq (eVar 2)) (tgN 4) (eTv (eOp hEqX (eOp hMod (eU (h1 gInt) (eU (h1 gSum) (eVar 4))) (eVar 0)) (eC (.int (0))))) (eK (eVar 4)) [4]) eNil)))))
 (sSeq (sEx (eApp 3 (eLst (eCons (eC (.int (3))) (eCons (eLc (eSeq (eVar 2)) (tgN 4) (eTv (eOp hEqX (eU (h1 gSum) (eVar 4)) (eC (.int (1))))) (eK (eVar 4)) [4]) eNil)))))
 (sSeq (sEx (eApp 3 (eLst (eCons (eC (.int (3))) (eCons (eLc (eSeq (eVar 2)) (tgN 4) (eTv (eOp hEqX (eU (h1 gMax) (eVar 4)) (eOp hSub (eVar 0) (eC (.int (1)))))) (eK (eVar 4)) [4]) eNil)))))
 (sRet (eOp hAdd (eVar 3) (eLst (eCons (eLst (eCons (eC (.int (3))) (eCons (eLc (eSeq (eVar 2)) (tgN 4) (eTv (eOp hEqX (eU (h1 gMin) (eVar 4)) (eC (.int (0))))) (eK (eVar 4)) [4]) eNil))) (eCons (eLst (eCons (eC (.int (3))) (eCons (eLc (eSeq (eVar 2)) (tgN 4) (eTv (eOp hLt (eU (h1 gMin) (eVar 4)) (eU (h1 gMax) (eVar 4)))) (eK (eVar 4)) [4]) eNil))) eNil))))))))))))))))
def g__law_known_tables : List D → Out D := gOf b__law_known_tables [false] 5
def b__law_drawn_table : SEnv → SO := (sSeq (sAsg (eCall g__law_take [true, false] (eAP (eVar 0) (eAK (eC (.int (8))) eANil))) (tgN 3))
 (sSeq (sIf (eTv (eOp hLt (eVar 3) (eC (.int (5))))) (sRet (eCall g__law_pick [true, false] (eAP (eVar 0) (eAK (eCall g__law_known_tables [false] (eAK (eVar 1) eANil)) eANil)))) sNil)
 (sSeq (sAsg (eOp hAdd (eC (.int (1))) (eCall g__law_take [true, false] (eAP (eVar 0) (eAK (eC (.int (3))) eANil)))) (tgN 4))
 (sRet (eLst (eCons (eVar 4) (eCons (eSS (eCall g__law_drawn_rows [true, false, false, false] (eAP (eVar 0) (eAK (eVar 1) (eAK (eVar 4) (eAK (eVar 2) eANil)))))) eNil)))))))
def g__law_drawn_table : List D → Out D := gOf b__law_drawn_table [true, false, false] 5
def b__law_width : SEnv → SO := (sRet (eCall g__law_pick [true, false] (eAP (eVar 0) (eAK (eLst (eCons (eC (.int (2))) (eCons (eC (.int (2))) (eCons (eC (.int (2))) (eCons (eC (.int (3))) (eCons (eC (.int (3))) (eCons (eC (.int (1))) eNil))))))) eANil))))
def g__law_width : List D → Out D := gOf b__law_width [true] 1
def b__law_feed : SEnv → SO := (sSeqF (sAsg (eIf (eTv (eOp hLt (eVar 1) (eU (h1 gLen) (eVar 0)))) (eOp (h2 gIx) (eVar 0) (eVar 1)) (eOp hAdd (eOp hMul (eC (.int (61))) (eVar 1)) (eC (.int (17))))) (tgN 2))
 (sSeqF (sAsg (eCall2 (h2 (gI (fun _ _ => true) fun i j => if j > i then j else i)) (eC (.int (0))) (eOp hSub (eU (h1 gAbs) (eVar 2)) (eOp hPow (eC (.int (10))) (eC (.int (18)))))) (tgN 3))
 (sSeqF (sAsg (eOp hMod (eU (h1 gInt) (eOp hAdd (eOp hAdd (eOp hMul (eVar 2) (eC (.int (6364136223846793005)))) (eOp hMul (eC (.int (7919))) (eVar 1))) (eC (.int (1442695040888963407))))) (eC (.int (2305843009213693951)))) (tgN 4))
 (sRetF (eLst (eCons (eVar 3) (eCons (eVar 4) eNil)))))))
def g__law_feed : List D → Out D := gOfF b__law_feed [false, false] 5
def b_law : SEnv → SO := (sSeq (sFor (eRng1 (eCall2 (h2 (gI (fun _ _ => true) fun i j => if j > i then j else i)) (eC (.int (1))) (eCall2 (h2 (gI (fun _ _ => true) fun i j => if j < i then j else i)) (eC (.int (3))) (eU (h1 gLen) (eVar 0))))) (tgN 1) (sSeq (sSetM 2 (eCallF g__law_feed [false, false] (eAK (eVar 0) (eAK (eVar 1) eANil))))
 (sSeq (sAsg (eCall g__law_width [true] (eAP (eVar 2) eANil)) (tgN 3))
 (sSeq (sAsg (eOp hAdd (eTup (eCons (eVar 3) eNil)) (eU hTuple (eCall g__law_drawn_table [true, false, false] (eAP (eVar 2) (eAK (eVar 3) (eAK (eC (.int (7))) eANil)))))) (tgN 4))
 (sSeq (sAsg (eTup (eCons (eVar 3) (eCons (eOp (h2 gIx) (eVar 4) (eC (.int (1)))) (eCons (eSS (eCall g__law_drawn_rows [true, false, false, false] (eAP (eVar 2) (eAK (eVar 3) (eAK (eOp (h2 gIx) (eVar 4) (eC (.int (1)))) (eAK (eC (.int (9))) eANil)))))) eNil)))) (tgN 5))
 (sSeq (sIf (eTv (eOp hEqX (eCall g__law_take [true, false] (eAP (eVar 2) (eAK (eC (.int (2))) eANil))) (eC (.int (0))))) (sSeq (sAsg (eCall g__law_pick [true, false] (eAP (eVar 2) (eAK (eLst (eCons (eVar 3) (eCons (eC (.int (1))) (eCons (eC (.int (2))) (eCons (eC (.int (3))) eNil))))) eANil))) (tgN 3))
 (sAsg (eOp hAdd (eTup (eCons (eVar 3) eNil)) (eU hTuple (eCall g__law_drawn_table [true, false, false] (eAP (eVar 2) (eAK (eVar 3) (eAK (eC (.int (7))) eANil)))))) (tgN 5))) sNil)
 (sSeq (sPar 6 7 (eCons (eMake "Table" g_Table___init__ [false, false, false] (eAK (eOp (h2 gIx) (eVar 4) (eC (.int (0)))) (eAK (eOp (h2 gIx) (eVar 4) (eC (.int (1)))) (eAK (eRev (eOp (h2 gIx) (eVar 4) (eC (.int (2))))) eANil)))) (eCons (eMake "Table" g_Table___init__ [false, false, false] (eAK (eOp (h2 gIx) (eVar 5) (eC (.int (0)))) (eAK (eOp (h2 gIx) (eVar 5) (eC (.int (1)))) (eAK (eU hList (eOp (h2 gIx) (eVar 5) (eC (.int (2))))) eANil)))) eNil)))
 (sSeq (sIf (eOrT (eNotT (eTr (eCall g__law_pairs_right [false, false, false, false] (eAK (eVar 6) (eAK (eVar 7) (eAK (eVar 4) (eAK (eVar 5) eANil))))))) (eNotT (eTr (eCall g__law_pairs_right [false, false, false, false] (eAK (eVar 7) (eAK (eVar 6) (eAK (eVar 5) (eAK (eVar 4) eANil)))))))) (sRet (eC (.bl false))) sNil)
 (sSeq (sIf (eNotT (eTr (eCall g__law_one_right [true, false, false, false, false] (eAP (eVar 2) (eAK (eVar 6) (eAK (eOp (h2 gIx) (eVar 4) (eC (.int (0)))) (eAK (eOp (h2 gIx) (eVar 4) (eC (.int (1)))) (eAK (eOp (h2 gIx) (eVar 4) (eC (.int (2)))) eANil)))))))) (sRet (eC (.bl false))) sNil)
 (sSeq (sIf (eOrT (eNotT (eTr (eCall g__law_statics_right [false, false] (eAK (eOp (h2 gIx) (eVar 4) (eC (.int (0)))) (eAK (eOp (h2 gIx) (eVar 5) (eC (.int (1)))) eANil))))) (eNotT (eTr (eCall g__law_twice_right [true, false, false, false, false] (eAP (eVar 2) (eAK (eVar 6) (eAK (eOp (h2 gIx) (eVar 4) (eC (.int (0)))) (eAK (eOp (h2 gIx) (eVar 4) (eC (.int (1)))) (eAK (eOp (h2 gIx) (eVar 4) (eC (.int (2)))) eANil))))))))) (sRet (eC (.bl false))) sNil)
 (sIf (eOrT (eNotT (eTr (eCall g__law_is [false, false, false, false] (eAK (eVar 6) (eAK (eOp (h2 gIx) (eVar 4) (eC (.int (0)))) (eAK (eOp (h2 gIx) (eVar 4) (eC (.int (1)))) (eAK (eOp (h2 gIx) (eVar 4) (eC (.int (2)))) eANil))))))) (eNotT (eTr (eCall g__law_is [false, false, false, false] (eAK (eVar 7) (eAK (eOp (h2 gIx) (eVar 5) (eC (.int (0)))) (eAK (eOp (h2 gIx) (eVar 5) (eC (.int (1)))) (eAK (eOp (h2 gIx) (eVar 5) (eC (.int (2)))) eANil)))))))) (sRet (eC (.bl false))) sNil)))))))))))
 (sRet (eC (.bl true))))
def g_law : List D → Out D := gOf b_law [false] 8
def b__law_odd_rows : SEnv → SO := (sSeq (sAsg (eU (h1 gLen) (eVar 0)) (tgN 2))
 (sSeq (sAsg (eLst (eCons (eC .non) (eCons (eTup eNil) (eCons (eU hList (eVar 0)) (eCons (eOp hAdd (eVar 0) (eTup (eCons (eC (.int (0))) eNil))) (eCons (eOp hMul (eTup (eCons (eVar 1) eNil)) (eVar 2)) (eCons (eOp hMul (eTup (eCons (eU (h1 gNeg) (eC (.int (1)))) eNil)) (eVar 2)) (eCons (eOp hMul (eTup (eCons (eC (.bl true)) eNil)) (eVar 2)) (eCons (eOp hMul (eTup (eCons (eC (.str "0")) eNil)) (eVar 2)) eNil))))))))) (tgN 3))
 (sSeq (sAsg (eOp hAdd (eVar 3) (eLst (eCons (eOp hMul (eC (.str "0")) (eVar 2)) (eCons (eC (.int (0))) (eCons (eOp hMul (eTup (eCons (eTup (eCons (eC (.int (0))) eNil)) eNil)) (eVar 2)) (eCons (eOp hMul (eTup (eCons (eLst (eCons (eC (.int (0))) eNil)) eNil)) (eVar 2)) eNil)))))) (tgN 3))
 (sSeq (sAsg (eOp hAdd (eVar 3) (eLst (eCons (eOp hMul (eTup (eCons (eC .non) eNil)) (eVar 2)) (eCons (eOp hAdd (eSl (eVar 0) eNoP (ePt (eU (h1 gNeg) (eC (.int (1)))))) (eTup (eCons (eOp hPow (eC (.int (10))) (eC (.int (30)))) eNil))) (eCons (eOp hMul (eTup (eCons (eVar 0) eNil)) (eC (.int (4)))) eNil))))) (tgN 3))
 (sSeq (sFor (eSeq (eTup (eCons (eVar 1) (eCons (eU (h1 gNeg) (eC (.int (1)))) (eCons (eC (.bl true)) (eCons (eC (.bl false)) (eCons (eC .non) (eCons (eC (.str "0")) (eCons (eTup (eCons (eC (.int (0))) eNil)) (eCons (eLst (eCons (eC (.int (0))) eNil)) (eCons (eOp hPow (eC (.int (10))) (eC (.int (30)))) eNil))))))))))) (tgN 4) (sAsg (eOp hAdd (eVar 3) (eLc (eRng1 (eVar 2)) (tgN 5) eYes (eK (eOp hAdd (eOp hAdd (eSl (eVar 0) eNoP (ePt (eVar 5))) (eTup (eCons (eVar 4) eNil))) (eSl (eVar 0) (ePt (eOp hAdd (eVar 5) (eC (.int (1))))) eNoP))) [5])) (tgN 3)))
 (sSeq (sIf (eTv (eOp hGt (eVar 2) (eC (.int (1))))) (sAsg (eOp hAdd (eVar 3) (eLst (eCons (eSl (eVar 0) eNoP (ePt (eU (h1 gNeg) (eC (.int (1)))))) (eCons (eSl (eVar 0) (ePt (eC (.int (1)))) eNoP) eNil)))) (tgN 3)) sNil)
 (sRet (eOp hAdd (eVar 3) (eLst (eCons (eOp hAdd (eSl (eVar 0) eNoP (ePt (eU (h1 gNeg) (eC (.int (1)))))) (eTup (eCons (eC (.bl false)) eNil))) (eCons (eOp hAdd (eOp hAdd (eTup (eCons (eOp (h2 gIx) (eVar 0) (eC (.int (0)))) eNil)) (eOp hMul (eTup (eCons (eVar 1) eNil)) (eOp hSub (eVar 2) (eC (.int (1)))))) (eTup (eCons (eC (.int (0))) eNil))) eNil)))))))))))
def g__law_odd_rows : List D → Out D := gOf b__law_odd_rows [false, false] 6
def b__law_made : SEnv → SO := (sTry errAll (sRet (eMake "Table" g_Table___init__ [false, false, false] (eAK (eVar 0) (eAK (eVar 1) (eAK (eVar 2) eANil))))) [("BadWidth", .s (sRet (eTup (eCons (eC (.str "width")) (eCons (eC (.int (0))) eNil))))), ("BadArity", .s (sRet (eTup (eCons (eC (.str "arity")) (eCons (eC (.int (0))) eNil))))), ("NoList", .s (sRet (eTup (eCons (eC (.str "list")) (eCons (eC (.int (0))) eNil))))), ("BadRow", .r 3 "number" (fun z => some (.tup [.str "row", z])))])
def g__law_made : List D → Out D := gOf b__law_made [false, false, false] 4
def b__law_refused_right : SEnv → SO := (sSeq (sFor (eSeq (eLst (eCons (eC (.int (0))) (eCons (eC (.int (4))) (eCons (eU (h1 gNeg) (eC (.int (1)))) (eCons (eC (.bl true)) (eCons (eC .non) (eCons (eC (.str "2")) (eCons (eTup (eCons (eC (.int (2))) eNil)) (eCons (eLst (eCons (eC (.int (2))) eNil)) (eCons (eOp hPow (eC (.int (10))) (eC (.int (30)))) eNil))))))))))) (tgN 4) (sSeq (sIf (eOrT (eTv (eOp hNeX (eCall g__law_made [false, false, false] (eAK (eVar 4) (eAK (eVar 4) (eAK (eC .non) eANil)))) (eTup (eCons (eC (.str "width")) (eCons (eC (.int (0))) eNil))))) (eTv (eOp hNeX (eCall g__law_made [false, false, false] (eAK (eVar 4) (eAK (eVar 2) (eAK (eVar 3) eANil)))) (eTup (eCons (eC (.str "width")) (eCons (eC (.int (0))) eNil)))))) (sRet (eC (.bl false))) sNil)
 (sSeq (sIf (eOrT (eTv (eOp hNeX (eCall g__law_made [false, false, false] (eAK (eVar 1) (eAK (eVar 4) (eAK (eC .non) eANil)))) (eTup (eCons (eC (.str "arity")) (eCons (eC (.int (0))) eNil))))) (eTv (eOp hNeX (eCall g__law_made [false, false, false] (eAK (eVar 1) (eAK (eVar 4) (eAK (eVar 3) eANil)))) (eTup (eCons (eC (.str "arity")) (eCons (eC (.int (0))) eNil)))))) (sRet (eC (.bl false))) sNil)
 (sSeq (sIf (eTv (eOp hNeX (eCall g__law_made [false, false, false] (eAK (eVar 4) (eAK (eVar 2) (eAK (eOp hAdd (eVar 3) (eLst (eCons (eC .non) eNil))) eANil)))) (eTup (eCons (eC (.str "width")) (eCons (eC (.int (0))) eNil))))) (sRet (eC (.bl false))) sNil)
 (sIf (eTv (eOp hNeX (eCall g__law_made [false, false, false] (eAK (eVar 1) (eAK (eVar 4) (eAK (eOp hAdd (eVar 3) (eLst (eCons (eC .non) eNil))) eANil)))) (eTup (eCons (eC (.str "arity")) (eCons (eC (.int (0))) eNil))))) (sRet (eC (.bl false))) sNil)))))
 (sSeq (sFor (eSeq (eLst (eCons (eC .non) (eCons (eU hTuple (eVar 3)) (eCons (eC (.str "rows")) (eCons (eC (.int (0))) (eCons (eC (.bl true)) (eCons (eTup eNil) eNil)))))))) (tgN 4) (sIf (eTv (eOp hNeX (eCall g__law_made [false, false, false] (eAK (eVar 1) (eAK (eVar 2) (eAK (eVar 4) eANil)))) (eTup (eCons (eC (.str "list")) (eCons (eC (.int (0))) eNil))))) (sRet (eC (.bl false))) sNil))
 (sSeq (sAsg (eCall g__law_drawn_row [true, false, false] (eAP (eVar 0) (eAK (eVar 1) (eAK (eVar 2) eANil)))) (tgN 5))
 (sSeq (sFor (eSeq (eCall g__law_odd_rows [false, false] (eAK (eVar 5) (eAK (eVar 1) eANil)))) (tgN 6) (sSeq (sAsg (eCall g__law_take [true, false] (eAP (eVar 0) (eAK (eOp hAdd (eU (h1 gLen) (eVar 3)) (eC (.int (1)))) eANil))) (tgN 7))
 (sSeq (sAsg (eOp hAdd (eOp hAdd (eOp hAdd (eSl (eVar 3) eNoP (ePt (eVar 7))) (eLst (eCons (eVar 6) eNil))) (eSl (eVar 3) (ePt (eVar 7)) eNoP)) (eCall g__law_pick [true, false] (eAP (eVar 0) (eAK (eLst (eCons (eLst eNil) (eCons (eLst (eCons (eC .non) eNil)) (eCons (eLst (eCons (eVar 6) eNil)) eNil)))) eANil)))) (tgN 8))
 (sSeq (sAsg (eU (h1 gRepr) (eVar 8)) (tgN 9))
 (sIf (eOrT (eTv (eOp hNeX (eCall g__law_made [false, false, false] (eAK (eVar 1) (eAK (eVar 2) (eAK (eVar 8) eANil)))) (eTup (eCons (eC (.str "row")) (eCons (eVar 7) eNil))))) (eTv (eOp hNeX (eU (h1 gRepr) (eVar 8)) (eVar 9)))) (sRet (eC (.bl false))) sNil)))))
 (sRet (eC (.bl true)))))))
def g__law_refused_right : List D → Out D := gOf b__law_refused_right [true, false, false, false] 10
def b__law_table_right : SEnv → SO := (sSeq (sAsg (eSS (eVar 3)) (tgN 4))
 (sSeq (sSetM 5 (eProp "Table" g_Table_rows (eVar 0)))
 (sSeq (sIf (eOrT (eNotT (eTr (eU (hIs (ansB ["list"])) (eVar 5)))) (eOrT (eTv (eOp hNeX (eU (h1 gRepr) (eVar 5)) (eU (h1 gRepr) (eVar 4)))) (eTv (eOp hNeX (eU (h1 gLen) (eVar 0)) (eU (h1 gLen) (eVar 4)))))) (sRet (eC (.bl false))) sNil)
 (sSeq (sIf (eOrT (eTv (eOp hNeX (eFld "width" clsAll (eVar 0)) (eVar 1))) (eTv (eOp hNeX (eFld "arity" clsAll (eVar 0)) (eVar 2)))) (sRet (eC (.bl false))) sNil)
 (sSeq (sEx (eApp 5 (eC .non)))
 (sSeq (sEx (eL0 gReverse 5))
 (sSeq (sFor (eSeq (eCall g__law_all [false, false] (eAK (eVar 1) (eAK (eVar 2) eANil)))) (tgN 6) (sIf (eTv (eOp hNeX (eOp (h2 gIn) (eVar 6) (eVar 0)) (eOp (h2 gIn) (eVar 6) (eVar 4)))) (sRet (eC (.bl false))) sNil))
 (sRet (eOp hEqX (eU (h1 gRepr) (eProp "Table" g_Table_rows (eVar 0))) (eU (h1 gRepr) (eVar 4)))))))))))
def g__law_table_right : List D → Out D := gOf b__law_table_right [false, false, false, false] 7
def b_law_1 : SEnv → SO := (sSeq (sFor (eRng1 (eCall2 (h2 (gI (fun _ _ => true) fun i j => if j > i then j else i)) (eC (.int (1))) (eCall2 (h2 (gI (fun _ _ => true) fun i j => if j < i then j else i)) (eC (.int (3))) (eU (h1 gLen) (eVar 0))))) (tgN 1) (sSeq (sSetM 2 (eCallF g__law_feed [false, false] (eAK (eVar 0) (eAK (eVar 1) eANil))))
 (sSeq (sPar 3 4 (eCons (eOp hAdd (eC (.int (1))) (eCall g__law_take [true, false] (eAP (eVar 2) (eAK (eC (.int (3))) eANil)))) (eCons (eOp hAdd (eC (.int (1))) (eCall g__law_take [true, false] (eAP (eVar 2) (eAK (eC (.int (3))) eANil)))) eNil)))
 (sSeq (sAsg (eCall g__law_drawn_rows [true, false, false, false] (eAP (eVar 2) (eAK (eVar 3) (eAK (eVar 4) (eAK (eC (.int (12))) eANil))))) (tgN 5))
 (sSeq (sIf (eTv (eOp hEqX (eCall g__law_take [true, false] (eAP (eVar 2) (eAK (eC (.int (4))) eANil))) (eC (.int (0))))) (sAsg (eOp hAdd (eVar 5) (eCall g__law_all [false, false] (eAK (eVar 3) (eAK (eVar 4) eANil)))) (tgN 5)) sNil)
 (sSeq (sSetM 6 (eU hList (eVar 5)))
 (sSeq (sAsg (eMake "Table" g_Table___init__ [false, false, false] (eAK (eVar 3) (eAK (eVar 4) (eAK (eVar 6) eANil)))) (tgN 7))
 (sSeq (sIf (eTv (eOp hNeX (eU (h1 gRepr) (eVar 6)) (eU (h1 gRepr) (eVar 5)))) (sRet (eC (.bl false))) sNil)
 (sSeq (sEx (eL0 gClear 6))
 (sSeq (sIf (eOrT (eNotT (eTr (eCall g__law_table_right [false, false, false, false] (eAK (eVar 7) (eAK (eVar 3) (eAK (eVar 4) (eAK (eVar 5) eANil))))))) (eNotT (eTr (eCall g__law_refused_right [true, false, false, false] (eAP (eVar 2) (eAK (eVar 3) (eAK (eVar 4) (eAK (eVar 5) eANil)))))))) (sRet (eC (.bl false))) sNil)
 (sSeq (sFor (eSeq (eCall g__law_odd_rows [false, false] (eAK (eCall g__law_drawn_row [true, false, false] (eAP (eVar 2) (eAK (eVar 3) (eAK (eVar 4) eANil)))) (eAK (eVar 3) eANil)))) (tgN 8) (sIf (eTv (eOp (h2 gIn) (eVar 8) (eVar 7))) (sRet (eC (.bl false))) sNil))
 (sSeq (sAsg (eCall g__law_drawn_rows [true, false, false, false] (eAP (eVar 2) (eAK (eVar 3) (eAK (eVar 4) (eAK (eC (.int (4))) eANil))))) (tgN 9))
 (sSeq (sIf (eTv (eOp hNeX (eOp hEqX (eVar 7) (eMake "Table" g_Table___init__ [false, false, false] (eAK (eVar 3) (eAK (eVar 4) (eAK (eVar 9) eANil))))) (eOp hEqX (eSS (eVar 5)) (eSS (eVar 9))))) (sRet (eC (.bl false))) sNil)
 (sSeq (sIf (eOrT (eTv (eOp hNeX (eVar 7) (eMake "Table" g_Table___init__ [false, false, false] (eAK (eVar 3) (eAK (eVar 4) (eAK (eRev (eVar 5)) eANil)))))) (eOrT (eTv (eOp hEqX (eVar 7) (eVar 5))) (eTv (eOp hEqX (eVar 7) (eC .non))))) (sRet (eC (.bl false))) sNil)
 (sIf (eOrT (eAndT (eTv (eOp hLt (eVar 3) (eC (.int (3))))) (eTv (eOp hEqX (eVar 7) (eMake "Table" g_Table___init__ [false, false, false] (eAK (eOp hAdd (eVar 3) (eC (.int (1)))) (eAK (eVar 4) (eAK (eVar 5) eANil))))))) (eTv (eOp hEqX (eVar 7) (eMake "Table" g_Table___init__ [false, false, false] (eAK (eVar 3) (eAK (eOp hAdd (eOp hMod (eU (h1 gInt) (eVar 4)) (eC (.int (3)))) (eC (.int (1)))) (eAK (eLst eNil) eANil))))))) (sRet (eC (.bl false))) sNil)))))))))))))))
 (sRet (eC (.bl true))))
def g_law_1 : List D → Out D := gOf b_law_1 [false] 10
end EV
set_option Elab.async false
set_option linter.all false
set_option maxRecDepth 100000
set_option maxHeartbeats 4000000
/-! What the functions on data give: rules. -/
namespace EV
open PySem PySem.Spec PyProof.Rows L2 PySem.NearX
/-- f gives the value d, and may change the slots -/
def Vv (f : SEnv → Out Rv) (env : SEnv) (d : D) (env' : SEnv) : Prop := ∃ r, f env = .ok r env' ∧ (r = .v d ∨ r = .f d)
/-- f, read now, is d -/
def Rd (f : SEnv → Out Rv) (env : SEnv) (d : D) (env' : SEnv) : Prop := ∃ r, f env = .ok r env' ∧ dr env' r = some d
def Tv (f : SEnv → Out Bool) (env : SEnv) (b : Bool) (env' : SEnv) : Prop := f env = .ok b env'
def Av (f : SEnv → Out (List D)) (env : SEnv) (ds : List D) (env' : SEnv) : Prop := f env = .ok ds env'
def Rv1 (f : SEnv → Out (List Rv)) (env : SEnv) (rs : List Rv) (env' : SEnv) : Prop := f env = .ok rs env'
def Xv {α : Type} (f : SEnv → Out α) (env : SEnv) (c : Str) (d : Option (Str × D)) (env' : SEnv) : Prop := f env = .ex c d env'
theorem eB_ok {α β : Type} {f : SEnv → Out α} {k : α → SEnv → Out β} {env e1 : SEnv} {r : α} (h : f env = .ok r e1) : eB f k env = k r e1 := by
  unfold eB; rw [h]
section
variable {f g fa fb fc fo : SEnv → Out Rv} {env e1 e2 e3 : SEnv} {a b c d : D} {i : Nat} {bb : Bool} {t u : SEnv → Out Bool}
theorem Vv.rd (h : Vv f env d e1) : Rd f env d e1 := by
  obtain ⟨r, e, z⟩ := h
  refine ⟨r, e, ?_⟩
  rcases z with rfl | rfl <;> rfl
theorem Vv.k (h : Vv f env d e1) : eK f env = .ok d e1 := by
  obtain ⟨r, e, z⟩ := h
  unfold eK eB
  rw [e]
  rcases z with rfl | rfl <;> rfl
theorem Vv.var (h : env[i]? = some (.im d)) : Vv (eVar i) env d env := ⟨.v d, by unfold eVar; rw [h], .inl rfl⟩
theorem Rd.mu (h : env[i]? = some (.mu bb d)) : Rd (eVar i) env d env := ⟨.p i, by unfold eVar; rw [h], by show (match env[i]? with | some (.mu _ d) => some d | some (.im d) => some d | _ => none) = _; rw [h]⟩
theorem Vv.cst : Vv (eC d) env d env := ⟨.v d, rfl, .inl rfl⟩
/-! argument lists -/
theorem Av.nil : Av eNil env [] env := rfl
theorem Av.cons {g : SEnv → Out (List D)} {ds : List D} (h : Vv f env d e1) (r : Av g e1 ds e2) : Av (eCons f g) env (d :: ds) e2 := by
  unfold Av eCons
  show eB (eK f) _ env = _
  unfold eB
  rw [h.k]
  show eB g _ e1 = _
  unfold eB
  rw [r]
/-- x in its slot, kept from now on -/
theorem Av.consM {g : SEnv → Out (List D)} {ds : List D} (h : env[i]? = some (.mu false d)) (r : Av g (env.set i (.im d)) ds e2) : Av (eCons (eVar i) g) env (d :: ds) e2 := by
  unfold Av eCons
  show eB (eK (eVar i)) _ env = _
  unfold eB
  have : eK (eVar i) env = .ok d (env.set i (.im d)) := by
    unfold eK eB eVar
    rw [h]
    show (match fz env (.p i) with | some (d, env') => Out.ok d env' | none => .bad) = _
    rw [fz_mu h]
  rw [this]
  show eB g _ _ = _
  unfold eB
  rw [r]
theorem Vv.tup {g : SEnv → Out (List D)} {ds : List D} (h : Av g env ds e1) (l : ds.length ≤ sizeLine) : Vv (eTup g) env (.tup ds) e1 := ⟨.v (.tup ds), by
  unfold eTup eB
  rw [h]
  show (if ds.length ≤ sizeLine then _ else _) = _
  rw [if_pos l], .inl rfl⟩
theorem Vv.lst {g : SEnv → Out (List D)} {ds : List D} (h : Av g env ds e1) (l : ds.length ≤ sizeLine) : Vv (eLst g) env (.lst ds) e1 := ⟨.f (.lst ds), by
  unfold eLst eB
  rw [h]
  show (if ds.length ≤ sizeLine then _ else _) = _
  rw [if_pos l], .inr rfl⟩
/-! operators -/
/-- what the rule h makes of two data -/
def HD (h : SEnv → Rv → Rv → Option Rv) (a b c : D) : Prop := ∀ env r1 r2, dr env r1 = some a → dr env r2 = some b → h env r1 r2 = some (.v c) ∨ h env r1 r2 = some (.f c)
theorem op_eq {h : SEnv → Rv → Rv → Option Rv} {r1 r2 r : Rv} (x1 : fa env = .ok r1 e1) (x2 : fb e1 = .ok r2 e2) (z : h e2 r1 r2 = some r) : eOp h fa fb env = .ok r e2 := by
  unfold eOp
  rw [eB_ok x1]
  show eB fb _ e1 = _
  rw [eB_ok x2]
  simp only [z]
theorem Vv.op {h : SEnv → Rv → Rv → Option Rv} (ha : Rd fa env a e1) (hb : Rd fb e1 b e1) (k : HD h a b c) : Vv (eOp h fa fb) env c e1 := by
  obtain ⟨r1, x1, y1⟩ := ha
  obtain ⟨r2, x2, y2⟩ := hb
  rcases k e1 r1 r2 y1 y2 with z | z
  · exact ⟨_, op_eq x1 x2 z, .inl rfl⟩
  · exact ⟨_, op_eq x1 x2 z, .inr rfl⟩
/-- the left one a value, the right one may change the slots -/
theorem Vv.op2 {h : SEnv → Rv → Rv → Option Rv} (ha : Vv fa env a e1) (hb : Rd fb e1 b e2) (k : HD h a b c) : Vv (eOp h fa fb) env c e2 := by
  obtain ⟨r1, x1, y1⟩ := ha
  obtain ⟨r2, x2, y2⟩ := hb
  have y1' : dr e2 r1 = some a := by rcases y1 with rfl | rfl <;> rfl
  rcases k e2 r1 r2 y1' y2 with z | z
  · exact ⟨_, op_eq x1 x2 z, .inl rfl⟩
  · exact ⟨_, op_eq x1 x2 z, .inr rfl⟩
theorem HD.h2 {g : D → D → Option D} (h : g a b = some c) : HD (EV.h2 g) a b c := fun env r1 r2 h1 h2' => .inl (by unfold EV.h2; rw [h1, h2']; show (g a b).map _ = _; rw [h]; rfl)
theorem HD.addI {i j : Int} : HD hAdd (.int i) (.int j) (.int (i + j)) := fun env r1 r2 h1 h2' => .inl (by unfold hAdd; rw [h1, h2'])
theorem HD.addT {x y : List D} (l : x.length + y.length ≤ sizeLine) : HD hAdd (.tup x) (.tup y) (.tup (x ++ y)) := fun env r1 r2 h1 h2' => .inl (by unfold hAdd; rw [h1, h2']; show (if _ then _ else _) = _; rw [if_pos l])
theorem HD.addL {x y : List D} (l : x.length + y.length ≤ sizeLine) : HD hAdd (.lst x) (.lst y) (.lst (x ++ y)) := fun env r1 r2 h1 h2' => .inr (by unfold hAdd; rw [h1, h2']; show (if _ then _ else _) = _; rw [if_pos l])
theorem HD.addS {x y : Str} (l : x.length + y.length ≤ sizeLine) : HD hAdd (.str x) (.str y) (.str (x ++ y)) := fun env r1 r2 h1 h2' => .inl (by unfold hAdd; rw [h1, h2']; show (if _ then _ else _) = _; rw [if_pos l])
theorem HD.mulI {i j : Int} (h : bMul i j = true) : HD hMul (.int i) (.int j) (.int (i * j)) := fun env r1 r2 h1 h2' => .inl (by unfold hMul; rw [h1, h2']; show (if _ then _ else _) = _; rw [if_pos h])
theorem HD.mulT {x : List D} {k : Int} (h : x ≠ [] ∧ 0 ≤ k ∧ k ≤ 1000 ∧ x.length ≤ 1000) : HD hMul (.tup x) (.int k) (.tup (List.replicate k.toNat x).flatten) := fun env r1 r2 h1 h2' => .inl (by unfold hMul; rw [h1, h2']; exact if_pos h)
theorem HD.mulL {x : List D} {k : Int} (h : -(2 ^ 63) ≤ k ∧ k < 2 ^ 63 ∧ x.length * k.toNat ≤ sizeLine) : HD hMul (.lst x) (.int k) (.lst (List.replicate k.toNat x).flatten) := fun env r1 r2 h1 h2' => .inr (by unfold hMul; rw [h1, h2']; show (if _ then _ else _) = _; rw [if_pos h])
theorem HD.mulS {x : Str} {k : Int} (h : 1 ≤ k ∧ k ≤ 1000 ∧ 1 ≤ x.length ∧ x.length ≤ 1000) : HD hMul (.str x) (.int k) (.str (repS x k)) := fun env r1 r2 h1 h2' => .inl (by unfold hMul; rw [h1, h2']; show (if _ then _ else _) = _; rw [if_pos h])
theorem HD.or1 {h h' : SEnv → Rv → Rv → Option Rv} (k : HD h a b c) : HD (hOr2 h h') a b c := fun env r1 r2 h1 h2' => by
  unfold hOr2
  rcases k env r1 r2 h1 h2' with z | z
  · rw [z]; exact .inl rfl
  · rw [z]; exact .inr rfl
theorem HD.or2 {g : D → D → Option D} {h' : SEnv → Rv → Rv → Option Rv} (n : g a b = none) (k : HD h' a b c) : HD (hOr2 (EV.h2 g) h') a b c := fun env r1 r2 h1 h2' => by
  have e : EV.h2 g env r1 r2 = none := by unfold EV.h2; simp only [h1, h2', n]; rfl
  unfold hOr2
  simp only [e]
  exact k env r1 r2 h1 h2'
/-! of one value -/
def H1 (h : SEnv → Rv → Option Rv) (a c : D) : Prop := ∀ env r1, dr env r1 = some a → h env r1 = some (.v c) ∨ h env r1 = some (.f c)
theorem Vv.un {h : SEnv → Rv → Option Rv} (ha : Rd fa env a e1) (k : H1 h a c) : Vv (eU h fa) env c e1 := by
  obtain ⟨r1, x1, y1⟩ := ha
  have e : ∀ r, h e1 r1 = some r → eU h fa env = .ok r e1 := fun r z => by
    unfold eU
    rw [eB_ok x1]
    simp only [z]
  rcases k e1 r1 y1 with z | z
  · exact ⟨_, e _ z, .inl rfl⟩
  · exact ⟨_, e _ z, .inr rfl⟩
theorem H1.h1 {g : D → Option D} (h : g a = some c) : H1 (EV.h1 g) a c := fun env r1 h1' => .inl (by unfold EV.h1; rw [h1']; show (g a).map _ = _; rw [h]; rfl)
theorem H1.is {ans : Ty → Option Bool} (h : ans (tyD a) = some bb) : H1 (hIs ans) a (.bl bb) := H1.h1 (by rw [h]; rfl)
theorem H1.list {ds : List D} (h : a = .lst ds ∨ a = .tup ds) : H1 hList a (.lst ds) := fun env r1 h1' => .inr (by unfold hList; rw [h1']; rcases h with rfl | rfl <;> rfl)
theorem H1.listS {ns : List Int} : H1 hList (.scr ns) (.lst (ns.map D.int)) := fun env r1 h1' => .inr (by unfold hList; rw [h1'])
theorem H1.tupleL {ds : List D} : H1 hTuple (.lst ds) (.tup ds) := fun env r1 h1' => .inl (by unfold hTuple; rw [h1'])
theorem H1.tupleT {ds : List D} : H1 hTuple (.tup ds) (.tup ds) := fun env r1 h1' => .inl (by unfold hTuple; rw [h1'])
/-! and, or, not, tests -/
theorem Vv.and {b1 b2 : Bool} (ha : Rd fa env (.bl b1) e1) (hb : b1 = true → Vv fb e1 (.bl b2) e1) : Vv (eAndV fa fb) env (.bl (b1 && b2)) e1 := by
  obtain ⟨r1, x1, y1⟩ := ha
  cases b1 with
  | false => exact ⟨.v (.bl false), by unfold eAndV eB; rw [x1]; show (match dr e1 r1 with | some (.bl true) => _ | some (.bl false) => _ | _ => _) = _; rw [y1], .inl rfl⟩
  | true =>
    obtain ⟨r2, x2, y2⟩ := hb rfl
    exact ⟨r2, by unfold eAndV eB; rw [x1]; show (match dr e1 r1 with | some (.bl true) => _ | some (.bl false) => _ | _ => _) = _; rw [y1]; exact x2, y2⟩
theorem Vv.or {b1 b2 : Bool} (ha : Rd fa env (.bl b1) e1) (hb : b1 = false → Vv fb e1 (.bl b2) e1) : Vv (eOrV fa fb) env (.bl (b1 || b2)) e1 := by
  obtain ⟨r1, x1, y1⟩ := ha
  cases b1 with
  | true => exact ⟨.v (.bl true), by unfold eOrV eB; rw [x1]; show (match dr e1 r1 with | some (.bl true) => _ | some (.bl false) => _ | _ => _) = _; rw [y1], .inl rfl⟩
  | false =>
    obtain ⟨r2, x2, y2⟩ := hb rfl
    exact ⟨r2, by unfold eOrV eB; rw [x1]; show (match dr e1 r1 with | some (.bl true) => _ | some (.bl false) => _ | _ => _) = _; rw [y1]; exact x2, y2⟩
theorem Vv.not (ha : Rd fa env (.bl bb) e1) : Vv (eNotV fa) env (.bl (!bb)) e1 := by
  obtain ⟨r1, x1, y1⟩ := ha
  exact ⟨.v (.bl (!bb)), by unfold eNotV eB; rw [x1]; show (match dr e1 r1 with | some (.bl b) => _ | _ => _) = _; rw [y1], .inl rfl⟩
theorem Vv.if_ (hc : Tv t env bb e1) (ha : bb = true → Vv fa e1 a e2) (hb : bb = false → Vv fb e1 b e2) : Vv (eIf t fa fb) env (bif bb then a else b) e2 := by
  unfold Tv at hc
  cases bb with
  | true =>
    obtain ⟨r, x, y⟩ := ha rfl
    exact ⟨r, by unfold eIf eB; rw [hc]; exact x, y⟩
  | false =>
    obtain ⟨r, x, y⟩ := hb rfl
    exact ⟨r, by unfold eIf eB; rw [hc]; exact x, y⟩
theorem Vv.ifT (hc : Tv t env true e1) (ha : Vv fa e1 a e2) : Vv (eIf t fa fb) env a e2 := by
  unfold Tv at hc
  obtain ⟨r, x, y⟩ := ha
  exact ⟨r, by unfold eIf eB; rw [hc]; exact x, y⟩
theorem Vv.ifF (hc : Tv t env false e1) (ha : Vv fb e1 a e2) : Vv (eIf t fa fb) env a e2 := by
  unfold Tv at hc
  obtain ⟨r, x, y⟩ := ha
  exact ⟨r, by unfold eIf eB; rw [hc]; exact x, y⟩
theorem Vv.chain {g g' : D → D → Option D} {b1 b2 : Bool} (ha : Rd fa env a e1) (hb : Rd fb e1 b e1) (hc : Rd fc e1 c e1) (h : g a b = some (.bl b1)) (h' : b1 = true → g' b c = some (.bl b2)) : Vv (eChain (EV.h2 g) (EV.h2 g') fa fb fc) env (.bl (b1 && b2)) e1 := by
  obtain ⟨r1, x1, y1⟩ := ha
  obtain ⟨r2, x2, y2⟩ := hb
  obtain ⟨r3, x3, y3⟩ := hc
  have q : EV.h2 g e1 r1 r2 = some (.v (.bl b1)) := by unfold EV.h2; simp only [y1, y2, h]; rfl
  cases b1 with
  | false =>
    refine ⟨.v (.bl false), ?_, .inl rfl⟩
    unfold eChain
    rw [eB_ok x1]
    show eB fb _ e1 = _
    rw [eB_ok x2]
    simp only [q]
  | true =>
    have q2 : EV.h2 g' e1 r2 r3 = some (.v (.bl b2)) := by unfold EV.h2; simp only [y2, y3, h' rfl]; rfl
    refine ⟨.v (.bl b2), ?_, .inl rfl⟩
    unfold eChain
    rw [eB_ok x1]
    show eB fb _ e1 = _
    rw [eB_ok x2]
    simp only [q]
    rw [eB_ok x3]
    simp only [q2]
theorem Vv.isN (ha : Rd fa env a e1) : Vv (eIsN fa) env (.bl (isNon a)) e1 := by
  obtain ⟨r1, x1, y1⟩ := ha
  exact ⟨.v _, by unfold eIsN eB; rw [x1]; show (match dr e1 r1 with | some d => _ | none => _) = _; rw [y1], .inl rfl⟩
theorem Vv.notN (ha : Rd fa env a e1) : Vv (eNotN fa) env (.bl (!isNon a)) e1 := by
  obtain ⟨r1, x1, y1⟩ := ha
  exact ⟨.v _, by unfold eNotN eB; rw [x1]; show (match dr e1 r1 with | some d => _ | none => _) = _; rw [y1], .inl rfl⟩
theorem Tv.tv (ha : Rd fa env (.bl bb) e1) : Tv (eTv fa) env bb e1 := by
  obtain ⟨r1, x1, y1⟩ := ha
  unfold Tv eTv eB
  rw [x1]
  show (match dr e1 r1 with | some (.bl b) => _ | _ => _) = _
  rw [y1]
theorem Tv.tr (ha : Rd fa env a e1) (h : truD a = some bb) : Tv (eTr fa) env bb e1 := by
  obtain ⟨r1, x1, y1⟩ := ha
  unfold Tv eTr eB
  rw [x1]
  show (match (dr e1 r1).bind truD with | some b => _ | none => _) = _
  rw [y1]
  show (match truD a with | some b => _ | none => _) = _
  rw [h]
theorem Tv.and {b1 b2 : Bool} (ha : Tv t env b1 e1) (hb : b1 = true → Tv u e1 b2 e1) : Tv (eAndT t u) env (b1 && b2) e1 := by
  unfold Tv at *
  unfold eAndT eB
  rw [ha]
  cases b1 with
  | true => exact hb rfl
  | false => rfl
theorem Tv.or {b1 b2 : Bool} (ha : Tv t env b1 e1) (hb : b1 = false → Tv u e1 b2 e1) : Tv (eOrT t u) env (b1 || b2) e1 := by
  unfold Tv at *
  unfold eOrT eB
  rw [ha]
  cases b1 with
  | true => rfl
  | false => exact hb rfl
theorem Tv.not (ha : Tv t env bb e1) : Tv (eNotT t) env (!bb) e1 := by
  unfold Tv at *
  unfold eNotT eB
  rw [ha]
theorem Tv.yes : Tv eYes env true env := rfl
/-! fields, slices -/
theorem Vv.fld {x : Str} {cs : List Str} {cl : Str} {ns : List Str} {ds : List D} (ho : Rd fo env (.obj cl ns ds) e1) (hc : cl ∈ cs) (h : fldD ns ds x = some d) : Vv (eFld x cs fo) env d e1 := by
  obtain ⟨r1, x1, y1⟩ := ho
  refine ⟨.v d, ?_, .inl rfl⟩
  unfold eFld eB
  rw [x1]
  show (match dr e1 r1 with | some (.obj c ns ds) => _ | _ => _) = _
  rw [y1]
  show (if cl ∈ cs then _ else _) = _
  rw [if_pos hc, h]
def Pv (f : SEnv → Out (Option Int)) (env : SEnv) (o : Option Int) : Prop := f env = .ok o env
theorem Pv.no : Pv eNoP env none := rfl
theorem Pv.some {i : Int} (h : Rd f env (.int i) env) : Pv (ePt f) env (.some i) := by
  obtain ⟨r1, x1, y1⟩ := h
  unfold Pv ePt eB
  rw [x1]
  show (match dr env r1 with | .some (.int i) => _ | _ => _) = _
  rw [y1]
theorem Vv.slL {l u : SEnv → Out (Option Int)} {lo hi : Option Int} {ds : List D} (h : Rd f env (.lst ds) e1) (hl : Pv l e1 lo) (hu : Pv u e1 hi) : Vv (eSl f l u) env (.lst (cutL ds lo hi)) e1 := by
  obtain ⟨r1, x1, y1⟩ := h
  refine ⟨.f _, ?_, .inr rfl⟩
  unfold eSl
  rw [eB_ok x1]
  show eB l _ e1 = _
  rw [eB_ok hl]
  show eB u _ e1 = _
  rw [eB_ok hu]
  show (match dr e1 r1 with | some (.lst ds) => _ | some (.tup ds) => _ | _ => _) = _
  rw [y1]
theorem Vv.slT {l u : SEnv → Out (Option Int)} {lo hi : Option Int} {ds : List D} (h : Rd f env (.tup ds) e1) (hl : Pv l e1 lo) (hu : Pv u e1 hi) : Vv (eSl f l u) env (.tup (cutL ds lo hi)) e1 := by
  obtain ⟨r1, x1, y1⟩ := h
  refine ⟨.v _, ?_, .inl rfl⟩
  unfold eSl
  rw [eB_ok x1]
  show eB l _ e1 = _
  rw [eB_ok hl]
  show eB u _ e1 = _
  rw [eB_ok hu]
  show (match dr e1 r1 with | some (.lst ds) => _ | some (.tup ds) => _ | _ => _) = _
  rw [y1]
theorem Vv.rev {ds : List D} (h : Rd f env (.lst ds) e1) : Vv (eRev f) env (.lst ds.reverse) e1 := by
  obtain ⟨r1, x1, y1⟩ := h
  refine ⟨.f _, ?_, .inr rfl⟩
  unfold eRev eB
  rw [x1]
  show (match dr e1 r1 with | some (.lst ds) => _ | _ => _) = _
  rw [y1]
end
end EV
set_option Elab.async false
set_option linter.all false
set_option maxRecDepth 100000
set_option maxHeartbeats 4000000
/-! Calls, statements, comprehensions, loops. -/
namespace EV
open PySem PySem.Spec PyProof.Rows L2 PySem.NearX
theorem sB_ok {α : Type} {f : SEnv → Out α} {k : α → SEnv → SO} {env e1 : SEnv} {r : α} (h : f env = .ok r e1) : sB f k env = k r e1 := by
  unfold sB; rw [h]
/-- a new thing -/
def Fv (f : SEnv → Out Rv) (env : SEnv) (d : D) (env' : SEnv) : Prop := f env = .ok (.f d) env'
def Ak (f : SEnv → Out (List Rv)) (env : SEnv) (ds : List D) (env' : SEnv) : Prop := f env = .ok (ds.map Rv.v) env'
section
variable {f g fa fb fc fo : SEnv → Out Rv} {env e1 e2 e3 : SEnv} {a b c d : D} {i : Nat} {bb : Bool} {t u : SEnv → Out Bool} {ds : List D} {ga : SEnv → Out (List Rv)} {gd : List D → Out D} {ms : List Bool} {ea : SEnv} {cl m : Str} {ns : List Str} {vs : List D}
theorem Fv.v (h : Fv f env d e1) : Vv f env d e1 := ⟨_, h, .inr rfl⟩
theorem Ak.nil : Ak eANil env [] env := rfl
theorem Ak.cons (h : Vv f env d e1) (r : Ak ga e1 ds e2) : Ak (eAK f ga) env (d :: ds) e2 := by
  unfold Ak eAK
  rw [eB_ok h.k]
  show eB ga _ e1 = _
  rw [eB_ok r]
  rfl
/-! ### calls -/
theorem cts_v : ∀ {ms : List Bool} {ds : List D}, noIo ms = true → ds.length = ms.length → ctsOf env ms (ds.map Rv.v) = some ds
  | [], [], _, _ => rfl
  | false :: ms, d :: ds, h, l => by
    show (ctsOf env ms (ds.map Rv.v)).map (d :: ·) = _
    rw [cts_v (ms := ms) (ds := ds) (by simpa [noIo] using h) (by simpa using l)]
    rfl
  | true :: _, _, h, _ => by simp [noIo] at h
  | [], _ :: _, _, l => by cases l
  | false :: _, [], _, l => by cases l
theorem ptrs_v : ∀ ds : List D, ptrs (ds.map Rv.v) = []
  | [] => rfl
  | d :: ds => ptrs_v ds
theorem wbk_v : ∀ (ds : List D) (ea env : SEnv), wbk (ds.map Rv.v) ea env = env
  | [], ea, env => by cases ea <;> rfl
  | d :: ds, [], env => rfl
  | d :: ds, s :: ea, env => by
    show wbk (ds.map Rv.v) ea (wb1 (.v d) s env) = env
    rw [show wb1 (.v d) s env = env by rfl]
    exact wbk_v ds ea env
theorem callF_ok (h : noIo ms = true) (l : ds.length = ms.length) (k : gd ds = .ok d ea) : callF gd ms (ds.map Rv.v) env = .ok (.v d) env := by
  unfold callF
  rw [cts_v h l]
  show (if (ptrs (ds.map Rv.v)).Nodup then _ else _) = _
  rw [ptrs_v, if_pos List.nodup_nil, k]
  show Out.ok (Rv.v d) (wbk (ds.map Rv.v) ea env) = _
  rw [wbk_v]
theorem callF_ex {x : Option (Str × D)} (h : noIo ms = true) (l : ds.length = ms.length) (k : gd ds = .ex cl x ea) : callF gd ms (ds.map Rv.v) env = .ex cl x env := by
  unfold callF
  rw [cts_v h l]
  show (if (ptrs (ds.map Rv.v)).Nodup then _ else _) = _
  rw [ptrs_v, if_pos List.nodup_nil, k]
  show Out.ex cl x (wbk (ds.map Rv.v) ea env) = _
  rw [wbk_v]
theorem Vv.callK (hg : Ak ga env ds e1) (k : gd ds = .ok d ea) (h : noIo ms = true := by rfl) (l : ds.length = ms.length := by rfl) : Vv (eCall gd ms ga) env d e1 := ⟨.v d, by unfold eCall; rw [eB_ok hg]; exact callF_ok h l k, .inl rfl⟩
theorem Xv.callK {x : Option (Str × D)} (hg : Ak ga env ds e1) (k : gd ds = .ex cl x ea) (h : noIo ms = true := by rfl) (l : ds.length = ms.length := by rfl) : Xv (eCall gd ms ga) env cl x e1 := by unfold Xv eCall; rw [eB_ok hg]; exact callF_ex h l k
theorem Fv.callN (hg : Ak ga env ds e1) (k : gd ds = .ok d ea) (h : noIo ms = true := by rfl) (l : ds.length = ms.length := by rfl) : Fv (eCallF gd ms ga) env d e1 := by
  unfold Fv eCallF
  rw [eB_ok hg]
  show callFf gd ms _ e1 = _
  unfold callFf
  rw [cts_v h l]
  show (if (ptrs (ds.map Rv.v)).Nodup then _ else _) = _
  rw [ptrs_v, if_pos List.nodup_nil, k]
  show Out.ok (Rv.f d) (wbk (ds.map Rv.v) ea e1) = _
  rw [wbk_v]
/-- the first argument handed in to be changed -/
theorem Vv.callP {d0 d1 : D} {b b' : Bool} {ea : SEnv} (h0 : env[i]? = some (.mu b d0)) (hg : Ak ga env ds env) (k : gd (d0 :: ds) = .ok d (.mu b' d1 :: ea)) (h : noIo ms = true := by rfl) (l : ds.length = ms.length := by rfl) : Vv (eCall gd (true :: ms) (eAP (eVar i) ga)) env d (env.set i (.mu b d1)) := by
  refine ⟨.v d, ?_, .inl rfl⟩
  unfold eCall
  have e : eAP (eVar i) ga env = .ok (.p i :: ds.map Rv.v) env := by
    unfold eAP
    rw [eB_ok (r := .p i) (e1 := env) (by unfold eVar; rw [h0])]
    show eB ga _ env = _
    rw [eB_ok hg]
  rw [eB_ok e]
  show callF gd (true :: ms) (.p i :: ds.map Rv.v) env = _
  unfold callF
  have ec : ctsOf env (true :: ms) (.p i :: ds.map Rv.v) = some (d0 :: ds) := by
    show (match env[i]? with | some (.mu _ d) => (ctsOf env ms (ds.map Rv.v)).map (d :: ·) | _ => none) = _
    rw [h0]
    show (ctsOf env ms (ds.map Rv.v)).map (d0 :: ·) = _
    rw [cts_v h l]
    rfl
  rw [ec]
  show (if (i :: ptrs (ds.map Rv.v)).Nodup then _ else _) = _
  rw [ptrs_v, if_pos (by simp), k]
  show Out.ok (Rv.v d) (wbk (ds.map Rv.v) ea (wb1 (.p i) (.mu b' d1) env)) = _
  rw [wbk_v]
  show Out.ok (Rv.v d) (setMu env i d1) = _
  unfold setMu
  rw [h0]
theorem Vv.meth (ho : Vv fo env (.obj cl ns vs) e1) (hm : m ∉ ns) (hg : Ak ga e1 ds e2) (k : gd (.obj cl ns vs :: ds) = .ok d ea) (h : noIo ms = true := by rfl) (l : ds.length = ms.length := by rfl) : Vv (eMeth cl m gd ms fo ga) env d e2 := by
  refine ⟨.v d, ?_, .inl rfl⟩
  unfold eMeth
  rw [eB_ok ho.k]
  show (if cl = cl ∧ m ∉ ns then _ else _) = _
  rw [if_pos ⟨rfl, hm⟩, eB_ok hg]
  exact callF_ok (ds := .obj cl ns vs :: ds) (ms := false :: ms) (by simpa [noIo] using h) (by simpa using l) k
theorem Xv.meth {x : Option (Str × D)} {ce : Str} (ho : Vv fo env (.obj cl ns vs) e1) (hm : m ∉ ns) (hg : Ak ga e1 ds e2) (k : gd (.obj cl ns vs :: ds) = .ex ce x ea) (h : noIo ms = true := by rfl) (l : ds.length = ms.length := by rfl) : Xv (eMeth cl m gd ms fo ga) env ce x e2 := by
  unfold Xv eMeth
  rw [eB_ok ho.k]
  show (if cl = cl ∧ m ∉ ns then _ else _) = _
  rw [if_pos ⟨rfl, hm⟩, eB_ok hg]
  exact callF_ex (ds := .obj cl ns vs :: ds) (ms := false :: ms) (by simpa [noIo] using h) (by simpa using l) k
theorem Vv.prop (ho : Vv fo env (.obj cl ns vs) e1) (k : gd [.obj cl ns vs] = .ok d ea) : Vv (eProp cl gd fo) env d e1 := by
  refine ⟨.v d, ?_, .inl rfl⟩
  unfold eProp
  rw [eB_ok ho.k]
  show (if cl = cl then _ else _) = _
  rw [if_pos rfl]
  have e : callF gd [false] [.v (.obj cl ns vs)] e1 = .ok (.v d) e1 := callF_ok (ds := [.obj cl ns vs]) (ms := [false]) rfl rfl k
  simp only [e]
theorem Fv.make {cl' : Str} {b' : Bool} (hg : Ak ga env ds e1) (k : gd (.obj cl [] [] :: ds) = .ok .non (.mu b' (.obj cl' ns vs) :: ea)) (h : noIo ms = true := by rfl) (l : ds.length = ms.length := by rfl) : Fv (eMake cl gd ms ga) env (.obj cl' ns vs) e1 := by
  unfold Fv eMake
  rw [eB_ok hg]
  show makeF cl gd ms _ e1 = _
  unfold makeF
  rw [cts_v h l]
  simp only [k]
theorem Xv.make {x : Option (Str × D)} {ce : Str} (hg : Ak ga env ds e1) (k : gd (.obj cl [] [] :: ds) = .ex ce x ea) (h : noIo ms = true := by rfl) (l : ds.length = ms.length := by rfl) : Xv (eMake cl gd ms ga) env ce x e1 := by
  unfold Xv eMake
  rw [eB_ok hg]
  show makeF cl gd ms _ e1 = _
  unfold makeF
  rw [cts_v h l]
  simp only [k]
theorem Vv.binO {okt : Ty → Bool} (ha : Vv fa env (.obj cl ns vs) e1) (hb : Vv fb e1 b e2) (ht : okt (tyD b) = true) (k : gd [.obj cl ns vs, b] = .ok d ea) : Vv (eBinO cl okt gd fa fb) env d e2 := by
  refine ⟨.v d, ?_, .inl rfl⟩
  unfold eBinO
  rw [eB_ok ha.k]
  show eB (eK fb) _ e1 = _
  rw [eB_ok hb.k]
  show (if cl = cl ∧ okt (tyD b) = true then _ else _) = _
  rw [if_pos ⟨rfl, ht⟩]
  exact callF_ok (ds := [.obj cl ns vs, b]) (ms := [false, false]) rfl rfl k
theorem Xv.binO {okt : Ty → Bool} {x : Option (Str × D)} {ce : Str} (ha : Vv fa env (.obj cl ns vs) e1) (hb : Vv fb e1 b e2) (ht : okt (tyD b) = true) (k : gd [.obj cl ns vs, b] = .ex ce x ea) : Xv (eBinO cl okt gd fa fb) env ce x e2 := by
  unfold Xv eBinO
  rw [eB_ok ha.k]
  show eB (eK fb) _ e1 = _
  rw [eB_ok hb.k]
  show (if cl = cl ∧ okt (tyD b) = true then _ else _) = _
  rw [if_pos ⟨rfl, ht⟩]
  exact callF_ex (ds := [.obj cl ns vs, b]) (ms := [false, false]) rfl rfl k
theorem HD.inO {neg : Bool} (k : gd [.obj cl ns vs, a] = .ok (.bl bb) ea) : HD (hInO neg cl gd) a (.obj cl ns vs) (.bl (if neg = true then !bb else bb)) := fun env r1 r2 h1 h2' => .inl (by
  unfold hInO
  simp only [h1, h2', if_true, k, okD])
theorem HD.eqO {neg : Bool} {okt : Ty → Bool} (ht : okt (tyD b) = true) (k : gd [.obj cl ns vs, b] = .ok (.bl bb) ea) : HD (hEqO neg cl okt gd) (.obj cl ns vs) b (.bl (if neg = true then !bb else bb)) := fun env r1 r2 h1 h2' => .inl (by
  unfold hEqO
  simp only [h1, h2']
  rw [if_pos ⟨trivial, ht⟩]
  simp only [k, okD])
theorem Vv.listG {gg : List D → Option (List D)} {fA : SEnv → Out (List D)} {ys : List D} (ha : Av fA env ds e1) (l : ds.length = ms.length) (k : gg ds = some ys) : Vv (eListG gg ms fA) env (.lst ys) e1 := ⟨.f (.lst ys), by
  unfold eListG
  rw [eB_ok ha]
  show (if ds.length = ms.length then _ else _) = _
  rw [if_pos l, k], .inr rfl⟩
/-! ### statements -/
theorem S.ret (h : Vv f env d e1) : sRet f env = .rt d e1 := by unfold sRet; rw [sB_ok h.k]
theorem S.retM (h : env[i]? = some (.mu false d)) : sRet (eVar i) env = .rt d (env.set i (.im d)) := by
  unfold sRet
  rw [sB_ok (r := d) (e1 := env.set i (.im d)) (by
    unfold eK
    rw [eB_ok (r := .p i) (e1 := env) (by unfold eVar; rw [h])]
    show (match fz env (.p i) with | some (d, env') => Out.ok d env' | none => .bad) = _
    rw [fz_mu h])]
theorem S.retF (h : Fv f env d e1) : sRetF f env = .rt d e1 := by unfold sRetF; rw [sB_ok h]
theorem S.asg {tg : D → SEnv → Option SEnv} (h : Vv f env d e1) (ht : tg d e1 = some e2) : sAsg f tg env = .nx e2 := by
  unfold sAsg
  rw [sB_ok h.k]
  simp only [ht]
theorem S.setF (h : Fv f env d e1) (hf : free e1 i = true) : sSetM i f env = .nx (e1.set i (.mu false d)) := by
  unfold sSetM
  rw [sB_ok h]
  simp only [hf, if_true]
theorem S.ex (h : Vv f env d e1) : sEx f env = .nx e1 := by
  obtain ⟨r, e, _⟩ := h
  unfold sEx
  rw [sB_ok e]
theorem S.par {i j : Nat} {gA : SEnv → Out (List D)} (h : Av gA env [a, b] e1) (h1 : free e1 i = true) (h2 : free e1 j = true) (n : i ≠ j) : sPar i j gA env = .nx ((e1.set i (.im a)).set j (.im b)) := by
  unfold sPar
  rw [sB_ok h]
  show (if _ then _ else _) = _
  rw [if_pos ⟨h1, h2, n⟩]
theorem S.if_ {fs gs : SEnv → SO} {o : SO} (hc : Tv t env bb e1) (h1 : bb = true → fs e1 = o) (h2 : bb = false → gs e1 = o) : sIf t fs gs env = o := by
  unfold sIf
  rw [sB_ok hc]
  cases bb with
  | true => exact h1 rfl
  | false => exact h2 rfl
theorem S.ifT {fs gs : SEnv → SO} {o : SO} (hc : Tv t env true e1) (h1 : fs e1 = o) : sIf t fs gs env = o := S.if_ hc (fun _ => h1) fun z => nomatch z
theorem S.ifF {fs gs : SEnv → SO} {o : SO} (hc : Tv t env false e1) (h1 : gs e1 = o) : sIf t fs gs env = o := S.if_ hc (fun z => nomatch z) fun _ => h1
theorem S.seq {fs gs : SEnv → SO} {o : SO} (h1 : fs env = .nx e1) (h2 : gs e1 = o) : sSeq fs gs env = o := by
  unfold sSeq; rw [h1]; exact h2
theorem S.seqF {fs gs : SEnv → SO} {o : SO} (h1 : fs env = .nx e1) (h2 : gs e1 = o) : sSeqF fs gs env = o := by
  unfold sSeqF; rw [h1]; exact h2
theorem S.rt {fs gs : SEnv → SO} (h1 : fs env = .rt d e1) : sSeq fs gs env = .rt d e1 := by
  unfold sSeq; rw [h1]
theorem S.exc {fs gs : SEnv → SO} {x : Option (Str × D)} (h1 : fs env = .ex cl x e1) : sSeq fs gs env = .ex cl x e1 := by
  unfold sSeq; rw [h1]
theorem S.retX {x : Option (Str × D)} (h : Xv f env cl x e1) : sRet f env = .ex cl x e1 := by unfold sRet sB eK eB; rw [h]
theorem S.exX {x : Option (Str × D)} (h : Xv f env cl x e1) : sEx f env = .ex cl x e1 := by unfold sEx sB; rw [h]
theorem S.raiseI {nm : Str} (h : Vv f env d e1) (n : numB d = true) : sRaiseI cl nm f env = .ex cl (some (nm, d)) e1 := by
  unfold sRaiseI
  rw [sB_ok h.k]
  show (if numB d = true then _ else _) = _
  rw [if_pos n]
theorem S.fld {x : Str} {cs : List Str} (h : Vv f env d e1) (hi : e1[i]? = some (.mu bb (.obj cl ns vs))) (hc : cl ∈ cs) (l : ns.length < 1000) : sFldS x cs i f env = .nx (e1.set i (.mu bb (.obj cl (putD x d ns vs).1 (putD x d ns vs).2))) := by
  unfold sFldS
  rw [sB_ok h.k]
  simp only [hi]
  rw [if_pos ⟨hc, l⟩]
/-! ### defs -/
theorem g_rt {fs : SEnv → SO} {n : Nat} (h : fs (mkE ms ds ++ List.replicate (n - ms.length) .no) = .rt d e1) : gOf fs ms n ds = .ok d (back ms ds e1) := by unfold gOf; rw [h]
theorem g_nx {fs : SEnv → SO} {n : Nat} (h : fs (mkE ms ds ++ List.replicate (n - ms.length) .no) = .nx e1) : gOf fs ms n ds = .ok .non (back ms ds e1) := by unfold gOf; rw [h]
theorem g_ex {fs : SEnv → SO} {n : Nat} {x : Option (Str × D)} (h : fs (mkE ms ds ++ List.replicate (n - ms.length) .no) = .ex cl x e1) : gOf fs ms n ds = .ex cl x (back ms ds e1) := by unfold gOf; rw [h]
theorem g_rtF {fs : SEnv → SO} {n : Nat} (h : fs (mkE ms ds ++ List.replicate (n - ms.length) .no) = .rt d e1) : gOfF fs ms n ds = .ok d (back ms ds e1) := by unfold gOfF; rw [h]
end
/-! ### comprehensions -/
theorem resE_wipeE (env : SEnv) (vs : List Nat) : resE env (wipeE env vs) vs = env := by
  refine List.ext_getElem? fun j => ?_
  by_cases hj : j ∈ vs
  · by_cases hl : j < env.length
    · rw [resE_in _ _ hj (by rw [wipeE_len]; exact hl), List.getD_eq_getElem?_getD, List.getElem?_eq_getElem hl]
      rfl
    · rw [List.getElem?_eq_none (by rw [resE_len, wipeE_len]; omega), List.getElem?_eq_none (by omega)]
  · rw [resE_out _ _ hj, wipeE_out _ hj]
theorem wipeE_set (env : SEnv) {vs : List Nat} {i : Nat} {s : Sl} (h : i ∉ vs) : wipeE (env.set i s) vs = (wipeE env vs).set i s := by
  refine List.ext_getElem? fun j => ?_
  by_cases hj : j ∈ vs
  · have ne : i ≠ j := fun z => h (by rw [z]; exact hj)
    rw [List.getElem?_set_ne ne]
    by_cases hl : j < env.length
    · rw [wipeE_in _ hj (by rw [List.length_set]; exact hl), wipeE_in _ hj hl]
    · rw [List.getElem?_eq_none (by rw [wipeE_len, List.length_set]; omega), List.getElem?_eq_none (by rw [wipeE_len]; omega)]
  · rw [wipeE_out _ hj, List.getElem?_set, List.getElem?_set, wipeE_out _ hj, wipeE_len]
theorem resE_set (env : SEnv) {vs : List Nat} {i : Nat} {s : Sl} (h : i ∉ vs) : resE env (wipeE (env.set i s) vs) vs = env.set i s := by
  have := resE_wipeE (env.set i s) vs
  refine Eq.trans ?_ this
  refine List.ext_getElem? fun j => ?_
  by_cases hj : j ∈ vs
  · have ne : i ≠ j := fun z => h (by rw [z]; exact hj)
    by_cases hl : j < env.length
    · rw [resE_in _ _ hj (by rw [wipeE_len, List.length_set]; exact hl), resE_in _ _ hj (by rw [wipeE_len, List.length_set]; exact hl), List.getD_eq_getElem?_getD, List.getD_eq_getElem?_getD, List.getElem?_set_ne ne]
    · rw [List.getElem?_eq_none (by rw [resE_len, wipeE_len, List.length_set]; omega), List.getElem?_eq_none (by rw [resE_len, wipeE_len, List.length_set]; omega)]
  · rw [resE_out _ _ hj, resE_out _ _ hj]
section
variable {α : Type} {fi : SEnv → Out (List D)} {tg : D → SEnv → Option SEnv} {c : SEnv → Out Bool} {fe : SEnv → Out Rv} {vs is : List Nat} {env e1 : SEnv}
theorem compF_pure (emb : α → D) (p : α → Bool) (y : α → D) (E : SEnv) (ho : TgOff is tg) (hs : ∀ i ∈ is, i ∈ vs) (hE : wipeE E vs = E) : ∀ (xs : List α) (acc : List D), (∀ x ∈ xs, ∃ e2, tg (emb x) E = some e2 ∧ Tv c e2 (p x) e2 ∧ (p x = true → Vv fe e2 (y x) e2)) → acc.length + xs.length ≤ sizeLine →
    compF tg c (eK fe) vs (xs.map emb) acc E = .ok (acc ++ (xs.filter p).map y) E
  | [], acc, _, _ => by simp [compF]
  | x :: xs, acc, h, l => by
    obtain ⟨e2, h1, h2, h3⟩ := h x (List.mem_cons_self ..)
    obtain ⟨k1, k2⟩ := ho _ _ _ h1
    have hw : wipeE e2 vs = E := by rw [wipeE_tg hs k1 k2, hE]
    have ih := fun acc l => compF_pure emb p y E ho hs hE xs acc (fun z hz => h z (List.mem_cons_of_mem _ hz)) l
    rw [List.length_cons] at l
    rw [List.map_cons]
    unfold compF
    simp only [h1]
    have h2' : c e2 = .ok (p x) e2 := h2
    cases hp : p x with
    | false =>
      rw [hp] at h2'
      simp only [h2', hw]
      rw [ih acc (by omega), List.filter_cons_of_neg (by rw [hp]; exact Bool.false_ne_true)]
    | true =>
      rw [hp] at h2'
      simp only [h2', (h3 hp).k]
      rw [if_pos (by omega), hw, ih (acc ++ [y x]) (by rw [List.length_append]; simp; omega), List.filter_cons_of_pos hp, List.map_cons, List.append_assoc]
      rfl
theorem Fv.lc (emb : α → D) (xs : List α) (p : α → Bool) (y : α → D) (ho : TgOff is tg) (hs : ∀ i ∈ is, i ∈ vs) (hi : Av fi env (xs.map emb) e1) (hw : okW e1 vs = true) (l : xs.length ≤ sizeLine) (h : ∀ x ∈ xs, ∃ e2, tg (emb x) (wipeE e1 vs) = some e2 ∧ Tv c e2 (p x) e2 ∧ (p x = true → Vv fe e2 (y x) e2)) :
    Fv (eLc fi tg c (eK fe) vs) env (.lst ((xs.filter p).map y)) e1 := by
  unfold Fv eLc
  rw [eB_ok hi]
  show (if okW e1 vs = true then _ else _) = _
  rw [if_pos hw]
  have := compF_pure (fe := fe) (c := c) emb p y (wipeE e1 vs) ho hs (wipeE_sub _ fun _ h => h) xs [] h (by simpa using l)
  simp only [this, List.nil_append, resE_wipeE]
theorem Fv.lcY (emb : α → D) (xs : List α) (y : α → D) (ho : TgOff is tg) (hs : ∀ i ∈ is, i ∈ vs) (hi : Av fi env (xs.map emb) e1) (hw : okW e1 vs = true) (l : xs.length ≤ sizeLine) (h : ∀ x ∈ xs, ∃ e2, tg (emb x) (wipeE e1 vs) = some e2 ∧ Vv fe e2 (y x) e2) :
    Fv (eLc fi tg eYes (eK fe) vs) env (.lst (xs.map y)) e1 := by
  have := Fv.lc (fe := fe) (c := eYes) emb xs (fun _ => true) y ho hs hi hw l fun x hx => let ⟨e2, a, b⟩ := h x hx; ⟨e2, a, Tv.yes, fun _ => b⟩
  rw [List.filter_eq_self.mpr fun _ _ => rfl] at this
  exact this
/-- with a state that goes along -/
def runY {σ : Type} (y : σ → α → D) (nx : σ → α → σ) : σ → List α → List D
  | _, [] => []
  | s, x :: xs => y s x :: runY y nx (nx s x) xs
def runS {σ : Type} (nx : σ → α → σ) : σ → List α → σ
  | s, [] => s
  | s, x :: xs => runS nx (nx s x) xs
theorem runY_len {σ : Type} {y : σ → α → D} {nx : σ → α → σ} : ∀ (xs : List α) (s : σ), (runY y nx s xs).length = xs.length
  | [], _ => rfl
  | x :: xs, s => by show (runY y nx (nx s x) xs).length + 1 = _; rw [runY_len xs, List.length_cons]
theorem compF_st {σ : Type} (emb : α → D) (y : σ → α → D) (nx : σ → α → σ) (E : σ → SEnv) : ∀ (xs : List α) (s : σ) (acc : List D), (∀ s, ∀ x ∈ xs, ∃ e2 e3, tg (emb x) (E s) = some e2 ∧ Vv fe e2 (y s x) e3 ∧ wipeE e3 vs = E (nx s x)) → acc.length + xs.length ≤ sizeLine →
    compF tg eYes (eK fe) vs (xs.map emb) acc (E s) = .ok (acc ++ runY y nx s xs) (E (runS nx s xs))
  | [], s, acc, _, _ => by simp [compF, runY, runS]
  | x :: xs, s, acc, h, l => by
    obtain ⟨e2, e3, h1, h2, h3⟩ := h s x (List.mem_cons_self ..)
    rw [List.length_cons] at l
    rw [List.map_cons]
    unfold compF
    simp only [h1, eYes, h2.k]
    rw [if_pos (by omega), h3, show eYes = fun env => Out.ok true env from rfl] 
    have := compF_st emb y nx E xs (nx s x) (acc ++ [y s x]) (fun s z hz => h s z (List.mem_cons_of_mem _ hz)) (by rw [List.length_append]; simp; omega)
    rw [show (fun env => Out.ok true env) = eYes from rfl, this, List.append_assoc]
    rfl
theorem Fv.lcS {σ : Type} (emb : α → D) (xs : List α) (y : σ → α → D) (nx : σ → α → σ) (E : σ → SEnv) (s0 : σ) (hi : Av fi env (xs.map emb) (E s0)) (hw : okW (E s0) vs = true) (l : xs.length ≤ sizeLine)
    (h : ∀ s, ∀ x ∈ xs, ∃ e2 e3, tg (emb x) (wipeE (E s) vs) = some e2 ∧ Vv fe e2 (y s x) e3 ∧ wipeE e3 vs = wipeE (E (nx s x)) vs) (hr : ∀ s, resE (E s0) (wipeE (E s) vs) vs = E s) :
    Fv (eLc fi tg eYes (eK fe) vs) env (.lst (runY y nx s0 xs)) (E (runS nx s0 xs)) := by
  unfold Fv eLc
  rw [eB_ok hi]
  show (if okW (E s0) vs = true then _ else _) = _
  rw [if_pos hw]
  have := compF_st (fe := fe) (tg := tg) (vs := vs) emb y nx (fun s => wipeE (E s) vs) xs s0 [] h (by simpa using l)
  simp only [this, List.nil_append, hr]
end
/-! ### loops -/
theorem for_inv {tg : D → SEnv → Option SEnv} {fb : SEnv → SO} (I : Nat → SEnv → Prop) : ∀ (ds : List D) (n : Nat) (env : SEnv), I n env → (∀ k d e, ds[k]? = some d → I (n + k) e → ∃ e1 e2, tg d e = some e1 ∧ fb e1 = .nx e2 ∧ I (n + k + 1) e2) →
    ∃ e, forF tg fb ds env = .nx e ∧ I (n + ds.length) e
  | [], n, env, h0, _ => ⟨env, by unfold forF; rfl, h0⟩
  | d :: ds, n, env, h0, hs => by
    obtain ⟨e1, e2, h1, h2, h3⟩ := hs 0 d env rfl h0
    obtain ⟨e, k1, k2⟩ := for_inv I ds (n + 1) e2 h3 fun k d e hd hI => by
      have := hs (k + 1) d e (by simpa using hd) (by rw [show n + (k + 1) = n + 1 + k by omega]; exact hI)
      rw [show n + (k + 1) + 1 = n + 1 + k + 1 by omega] at this
      exact this
    refine ⟨e, ?_, by rw [List.length_cons, show n + (ds.length + 1) = n + 1 + ds.length by omega]; exact k2⟩
    unfold forF
    simp only [h1, h2]
    exact k1
theorem S.for_ {fi : SEnv → Out (List D)} {tg : D → SEnv → Option SEnv} {fb : SEnv → SO} {ds : List D} {env e1 : SEnv} (I : Nat → SEnv → Prop) (hi : Av fi env ds e1) (h0 : I 0 e1) (hs : ∀ k d e, ds[k]? = some d → I k e → ∃ e1 e2, tg d e = some e1 ∧ fb e1 = .nx e2 ∧ I (k + 1) e2) :
    ∃ e, sFor fi tg fb env = .nx e ∧ I ds.length e := by
  obtain ⟨e, k1, k2⟩ := for_inv I ds 0 e1 h0 fun k d e hd hI => by
    rw [Nat.zero_add] at hI ⊢
    exact hs k d e hd hI
  rw [Nat.zero_add] at k2
  refine ⟨e, ?_, k2⟩
  unfold sFor
  rw [sB_ok hi]
  exact k1
/-! ### what is walked -/
section
variable {f g h : SEnv → Out Rv} {env e1 : SEnv} {ds : List D}
theorem I.seqL (k : Vv f env (.lst ds) e1) : Av (eSeq f) env ds e1 := by unfold Av eSeq; rw [eB_ok k.k]; rfl
theorem I.seqT (k : Vv f env (.tup ds) e1) : Av (eSeq f) env ds e1 := by unfold Av eSeq; rw [eB_ok k.k]; rfl
theorem I.seqS {ns : List Int} (k : Vv f env (.scr ns) e1) : Av (eSeq f) env (ns.map .int) e1 := by unfold Av eSeq; rw [eB_ok k.k]; rfl
theorem I.rng1 {j : Int} (k : Rd f env (.int j) e1) (h1 : -(2 ^ 62) ≤ j ∧ j < 2 ^ 62) : Av (eRng1 f) env ((List.range j.toNat).map fun (i : Nat) => .int i) e1 := by
  obtain ⟨r, x, y⟩ := k
  unfold Av eRng1
  rw [eB_ok x]
  simp only [y]
  rw [if_pos h1]
theorem I.rng2 {i j : Int} (k : Rd f env (.int i) env) (k2 : Rd g env (.int j) env) (h1 : -(2 ^ 62) ≤ i ∧ i < 2 ^ 62 ∧ -(2 ^ 62) ≤ j ∧ j < 2 ^ 62) : Av (eRng2 f g) env ((List.range (j - i).toNat).map fun (k : Nat) => .int (i + k)) env := by
  obtain ⟨r, x, y⟩ := k
  obtain ⟨r2, x2, y2⟩ := k2
  unfold Av eRng2
  rw [eB_ok x]
  show eB g _ env = _
  rw [eB_ok x2]
  simp only [y, y2]
  rw [if_pos h1]
theorem I.rng3 {i j : Int} (k : Rd f env (.int i) env) (k2 : Rd g env (.int j) env) (k3 : Rd h env (.int (-1)) env) (h1 : -(2 ^ 62) ≤ i ∧ i < 2 ^ 62 ∧ -(2 ^ 62) ≤ j ∧ j < 2 ^ 62) : Av (eRng3 f g h) env ((List.range (i - j).toNat).map fun (k : Nat) => .int (i + k * (-1))) env := by
  obtain ⟨r, x, y⟩ := k
  obtain ⟨r2, x2, y2⟩ := k2
  obtain ⟨r3, x3, y3⟩ := k3
  unfold Av eRng3
  rw [eB_ok x]
  show eB g _ env = _
  rw [eB_ok x2]
  show eB h _ env = _
  rw [eB_ok x3]
  simp only [y, y2, y3]
  rw [if_pos ⟨trivial, h1⟩]
theorem I.enum (k : Vv f env (.lst ds) e1) : Av (eEnum f) env (enumF 0 ds) e1 := by unfold Av eEnum; rw [eB_ok k.k]
end
end EV
set_option Elab.async false
set_option linter.all false
set_option maxRecDepth 100000
set_option maxHeartbeats 4000000
/-! Promises in short; a tactic for expressions. -/
namespace EV
open PySem PySem.Spec PyProof.Rows L2 PySem.NearX
/-- the def tells d -/
def Gv (g : List D → Out D) (ds : List D) (d : D) : Prop := ∃ ea, g ds = .ok d ea
/-- it raises -/
def Gx (g : List D → Out D) (ds : List D) (c : Str) (x : Option (Str × D)) : Prop := ∃ ea, g ds = .ex c x ea
/-- it tells d and leaves d1 where its first argument stood -/
def Gp (g : List D → Out D) (ds : List D) (d d1 : D) : Prop := ∃ b ea, g ds = .ok d (.mu b d1 :: ea)
section
variable {f g fa fb fc fo : SEnv → Out Rv} {env e1 e2 e3 : SEnv} {a b c d d' : D} {i : Nat} {bb : Bool} {t u : SEnv → Out Bool} {ds : List D} {ga : SEnv → Out (List Rv)} {gd : List D → Out D} {ms : List Bool} {ea : SEnv} {cl m : Str} {ns : List Str} {vs : List D} {ce : Str} {x : Option (Str × D)}
theorem Tv.to {b b2 : Bool} (h : Tv t env b e1) (e : b = b2) : Tv t env b2 e1 := by subst e; exact h
theorem Vv.to (h : Vv f env d e1) (e : d = d') : Vv f env d' e1 := by subst e; exact h
theorem Vv.call (hg : Ak ga env ds e1) (k : Gv gd ds d) (h : noIo ms = true := by rfl) (l : ds.length = ms.length := by rfl) : Vv (eCall gd ms ga) env d e1 := let ⟨_, k⟩ := k; Vv.callK hg k h l
theorem Xv.call (hg : Ak ga env ds e1) (k : Gx gd ds ce x) (h : noIo ms = true := by rfl) (l : ds.length = ms.length := by rfl) : Xv (eCall gd ms ga) env ce x e1 := let ⟨_, k⟩ := k; Xv.callK hg k h l
theorem Fv.call (hg : Ak ga env ds e1) (k : Gv gd ds d) (h : noIo ms = true := by rfl) (l : ds.length = ms.length := by rfl) : Fv (eCallF gd ms ga) env d e1 := let ⟨_, k⟩ := k; Fv.callN hg k h l
theorem Vv.io {d0 d1 : D} (h0 : env[i]? = some (.mu bb d0)) (hg : Ak ga env ds env) (k : Gp gd (d0 :: ds) d d1) (h : noIo ms = true := by rfl) (l : ds.length = ms.length := by rfl) : Vv (eCall gd (true :: ms) (eAP (eVar i) ga)) env d (env.set i (.mu bb d1)) := let ⟨_, _, k⟩ := k; Vv.callP h0 hg k h l
theorem Vv.method (ho : Vv fo env (.obj cl ns vs) e1) (hm : m ∉ ns) (hg : Ak ga e1 ds e2) (k : Gv gd (.obj cl ns vs :: ds) d) (h : noIo ms = true := by rfl) (l : ds.length = ms.length := by rfl) : Vv (eMeth cl m gd ms fo ga) env d e2 := let ⟨_, k⟩ := k; Vv.meth ho hm hg k h l
theorem Xv.method (ho : Vv fo env (.obj cl ns vs) e1) (hm : m ∉ ns) (hg : Ak ga e1 ds e2) (k : Gx gd (.obj cl ns vs :: ds) ce x) (h : noIo ms = true := by rfl) (l : ds.length = ms.length := by rfl) : Xv (eMeth cl m gd ms fo ga) env ce x e2 := let ⟨_, k⟩ := k; Xv.meth ho hm hg k h l
theorem Vv.property (ho : Vv fo env (.obj cl ns vs) e1) (k : Gv gd [.obj cl ns vs] d) : Vv (eProp cl gd fo) env d e1 := let ⟨_, k⟩ := k; Vv.prop ho k
theorem Fv.mk {cl' : Str} (hg : Ak ga env ds e1) (k : Gp gd (.obj cl [] [] :: ds) .non (.obj cl' ns vs)) (h : noIo ms = true := by rfl) (l : ds.length = ms.length := by rfl) : Fv (eMake cl gd ms ga) env (.obj cl' ns vs) e1 := let ⟨_, _, k⟩ := k; Fv.make hg k h l
theorem Xv.mk (hg : Ak ga env ds e1) (k : Gx gd (.obj cl [] [] :: ds) ce x) (h : noIo ms = true := by rfl) (l : ds.length = ms.length := by rfl) : Xv (eMake cl gd ms ga) env ce x e1 := let ⟨_, k⟩ := k; Xv.make hg k h l
theorem Vv.ownBin {okt : Ty → Bool} (ha : Vv fa env (.obj cl ns vs) e1) (hb : Vv fb e1 b e2) (ht : okt (tyD b) = true) (k : Gv gd [.obj cl ns vs, b] d) : Vv (eBinO cl okt gd fa fb) env d e2 := let ⟨_, k⟩ := k; Vv.binO ha hb ht k
theorem Xv.ownBin {okt : Ty → Bool} (ha : Vv fa env (.obj cl ns vs) e1) (hb : Vv fb e1 b e2) (ht : okt (tyD b) = true) (k : Gx gd [.obj cl ns vs, b] ce x) : Xv (eBinO cl okt gd fa fb) env ce x e2 := let ⟨_, k⟩ := k; Xv.binO ha hb ht k
theorem HD.ownIn {neg : Bool} (k : Gv gd [.obj cl ns vs, a] (.bl bb)) : HD (hInO neg cl gd) a (.obj cl ns vs) (.bl (if neg = true then !bb else bb)) := let ⟨_, k⟩ := k; HD.inO k
theorem HD.ownEq {neg : Bool} {okt : Ty → Bool} (ht : okt (tyD b) = true) (k : Gv gd [.obj cl ns vs, b] (.bl bb)) : HD (hEqO neg cl okt gd) (.obj cl ns vs) b (.bl (if neg = true then !bb else bb)) := let ⟨_, k⟩ := k; HD.eqO ht k
theorem Vv.mk {cl' : Str} (hg : Ak ga env ds e1) (k : Gp gd (.obj cl [] [] :: ds) .non (.obj cl' ns vs)) (h : noIo ms = true) (l : ds.length = ms.length) : Vv (eMake cl gd ms ga) env (.obj cl' ns vs) e1 := (Fv.mk hg k h l).v
/-! ### a def by its body -/
theorem Gv.rt {fs : SEnv → SO} {n : Nat} (h : ∃ e1, fs (mkE ms ds ++ List.replicate (n - ms.length) .no) = .rt d e1) : Gv (gOf fs ms n) ds d := let ⟨_, h⟩ := h; ⟨_, g_rt h⟩
theorem Gv.nx {fs : SEnv → SO} {n : Nat} (h : ∃ e1, fs (mkE ms ds ++ List.replicate (n - ms.length) .no) = .nx e1) : Gv (gOf fs ms n) ds .non := let ⟨_, h⟩ := h; ⟨_, g_nx h⟩
theorem Gx.ex {fs : SEnv → SO} {n : Nat} (h : ∃ e1, fs (mkE ms ds ++ List.replicate (n - ms.length) .no) = .ex cl x e1) : Gx (gOf fs ms n) ds cl x := let ⟨_, h⟩ := h; ⟨_, g_ex h⟩
theorem Gv.rtF {fs : SEnv → SO} {n : Nat} (h : ∃ e1, fs (mkE ms ds ++ List.replicate (n - ms.length) .no) = .rt d e1) : Gv (gOfF fs ms n) ds d := let ⟨_, h⟩ := h; ⟨_, g_rtF h⟩
theorem Gp.rt {fs : SEnv → SO} {n : Nat} {d0 d1 : D} {b0 : Bool} {ms : List Bool} {ds : List D} (h : ∃ e1, fs (mkE (true :: ms) (d0 :: ds) ++ List.replicate (n - (ms.length + 1)) .no) = .rt d (.mu b0 d1 :: e1)) : Gp (gOf fs (true :: ms) n) (d0 :: ds) d d1 := let ⟨_, h⟩ := h; ⟨_, _, g_rt (ms := true :: ms) h⟩
theorem Gp.nx {fs : SEnv → SO} {n : Nat} {d0 d1 : D} {b0 : Bool} {ms : List Bool} {ds : List D} (h : ∃ e1, fs (mkE (true :: ms) (d0 :: ds) ++ List.replicate (n - (ms.length + 1)) .no) = .nx (.mu b0 d1 :: e1)) : Gp (gOf fs (true :: ms) n) (d0 :: ds) .non d1 := let ⟨_, h⟩ := h; ⟨_, _, g_nx (ms := true :: ms) h⟩
/-! ### operators by name -/
theorem HD.sub {i j : Int} : HD hSub (.int i) (.int j) (.int (i - j)) := HD.h2 rfl
theorem HD.mod {i j : Int} (h : 0 < j) : HD hMod (.int i) (.int j) (.int (i % j)) := HD.h2 (by show (if decide (0 < j) = true then _ else _) = _; rw [if_pos (decide_eq_true h)])
theorem HD.div {i j : Int} (h : 0 < j ∧ j < 1073741824) : HD hDiv (.int i) (.int j) (.int (i / j)) := HD.h2 (by show (if decide (0 < j ∧ j < 1073741824) = true then _ else _) = _; rw [if_pos (decide_eq_true h)])
theorem HD.pow {i j : Int} (h : bPow i j = true) : HD hPow (.int i) (.int j) (.int (i ^ j.toNat)) := HD.h2 (by show (if bPow i j = true then _ else _) = _; rw [if_pos h])
theorem HD.lt {i j : Int} : HD hLt (.int i) (.int j) (.bl (decide (i < j))) := HD.h2 rfl
theorem HD.le {i j : Int} : HD hLe (.int i) (.int j) (.bl (decide (i ≤ j))) := HD.h2 rfl
theorem HD.gt {i j : Int} : HD hGt (.int i) (.int j) (.bl (decide (j < i))) := HD.h2 rfl
theorem HD.ge {i j : Int} : HD hGe (.int i) (.int j) (.bl (decide (j ≤ i))) := HD.h2 rfl
theorem eqD_int {i j : Int} : eqD (.int i) (.int j) = some (decide (i = j)) := by
  have : PyData.eqv (.int i) (.int j) = decide (i = j) := by rw [PyData.eqv]; rfl
  show (if SeqAt.shaped (.int i) = true ∧ SeqAt.shaped (.int j) = true then some (PyData.eqv (.int i) (.int j)) else none) = _
  rw [if_pos ⟨rfl, rfl⟩, this]
theorem HD.eqS {x y : Str} : HD hEqX (.str x) (.str y) (.bl (decide (x = y))) := HD.or1 (HD.h2 rfl)
theorem HD.neS {x y : Str} : HD hNeX (.str x) (.str y) (.bl (!decide (x = y))) := HD.or1 (HD.h2 rfl)
theorem HD.eqX (n : gEqS a b = none) (h : eqD a b = some bb) : HD hEqX a b (.bl bb) := HD.or2 n (HD.h2 (by show (eqD a b).map _ = _; rw [h]; rfl))
theorem HD.neX (n : gNeS a b = none) (h : eqD a b = some bb) : HD hNeX a b (.bl (!bb)) := HD.or2 n (HD.h2 (by show (eqD a b).map _ = _; rw [h]; rfl))
theorem HD.eqI {i j : Int} : HD hEqX (.int i) (.int j) (.bl (decide (i = j))) := HD.eqX rfl eqD_int
theorem HD.neI {i j : Int} : HD hNeX (.int i) (.int j) (.bl (!decide (i = j))) := HD.neX rfl eqD_int
theorem HD.eqO2 {h' : SEnv → Rv → Rv → Option Rv} (n : gEqS a b = none) (n2 : eqD a b = none) (k : HD h' a b c) : HD (hOr2 hEqX h') a b c := fun env r1 r2 h1 h2' => by
  have e : hEqX env r1 r2 = none := by
    unfold hEqX hOr2 EV.h2
    simp only [h1, h2', n, gEq, n2]
    rfl
  unfold hOr2
  simp only [e]
  exact k env r1 r2 h1 h2'
theorem HD.neO2 {h' : SEnv → Rv → Rv → Option Rv} (n : gNeS a b = none) (n2 : eqD a b = none) (k : HD h' a b c) : HD (hOr2 hNeX h') a b c := fun env r1 r2 h1 h2' => by
  have e : hNeX env r1 r2 = none := by
    unfold hNeX hOr2 EV.h2
    simp only [h1, h2', n, gNe, n2]
    rfl
  unfold hOr2
  simp only [e]
  exact k env r1 r2 h1 h2'
theorem Vv.chainLL {i j k : Int} (ha : Rd fa env (.int i) e1) (hb : Rd fb e1 (.int j) e1) (hc : Rd fc e1 (.int k) e1) : Vv (eChain hLe hLe fa fb fc) env (.bl (decide (i ≤ j) && decide (j ≤ k))) e1 := Vv.chain ha hb hc rfl fun _ => rfl
theorem Vv.chainLl {i j k : Int} (ha : Rd fa env (.int i) e1) (hb : Rd fb e1 (.int j) e1) (hc : Rd fc e1 (.int k) e1) : Vv (eChain hLe hLt fa fb fc) env (.bl (decide (i ≤ j) && decide (j < k))) e1 := Vv.chain ha hb hc rfl fun _ => rfl
end
section
variable {fa fb : SEnv → Out Rv} {env e1 : SEnv} {d : D} {t u : SEnv → Out Bool}
theorem Vv.andF (ha : Rd fa env (.bl false) e1) : Vv (eAndV fa fb) env (.bl false) e1 := by
  have := Vv.and (fb := fb) (b2 := false) ha fun z => nomatch z
  exact this
theorem Vv.orT (ha : Rd fa env (.bl true) e1) : Vv (eOrV fa fb) env (.bl true) e1 := by
  have := Vv.or (fb := fb) (b2 := false) ha fun z => nomatch z
  exact this
theorem Tv.andF (ha : Tv t env false e1) : Tv (eAndT t u) env false e1 := by
  have := Tv.and (u := u) (b2 := false) ha fun z => nomatch z
  exact this
theorem Tv.orT (ha : Tv t env true e1) : Tv (eOrT t u) env true e1 := by
  have := Tv.or (u := u) (b2 := false) ha fun z => nomatch z
  exact this
theorem Vv.notT (ha : Rd fa env (.bl true) e1) : Vv (eNotV fa) env (.bl false) e1 := Vv.not ha
theorem Vv.notF (ha : Rd fa env (.bl false) e1) : Vv (eNotV fa) env (.bl true) e1 := Vv.not ha
theorem Tv.notT (ha : Tv t env true e1) : Tv (eNotT t) env false e1 := Tv.not ha
theorem Tv.notF (ha : Tv t env false e1) : Tv (eNotT t) env true e1 := Tv.not ha
/-! ### kinds of things -/
def isI : D → Bool
  | .int _ => true
  | .bl _ => true
  | _ => false
def isB : D → Bool
  | .bl _ => true
  | _ => false
def isL : D → Bool
  | .lst _ => true
  | .scr _ => true
  | _ => false
def isT : D → Bool
  | .tup _ => true
  | _ => false
def isO (c0 : Str) : D → Bool
  | .obj c _ _ => decide (c = c0)
  | _ => false
theorem ans_int (h : okAll (tyD d) = true) : ansB ["int", "bool"] (tyD d) = some (isI d) := by
  cases d with
  | obj c ns vs => exact if_pos (of_decide_eq_true h)
  | _ => first | (show ansB _ (.b _) = some true; decide +kernel) | (show ansB _ (.b _) = some false; decide +kernel)
theorem ans_bool (h : okAll (tyD d) = true) : ansB ["bool"] (tyD d) = some (isB d) := by
  cases d with
  | obj c ns vs => exact if_pos (of_decide_eq_true h)
  | _ => first | (show ansB _ (.b _) = some true; decide +kernel) | (show ansB _ (.b _) = some false; decide +kernel)
theorem ans_list (h : okAll (tyD d) = true) : ansB ["list"] (tyD d) = some (isL d) := by
  cases d with
  | obj c ns vs => exact if_pos (of_decide_eq_true h)
  | _ => first | (show ansB _ (.b _) = some true; decide +kernel) | (show ansB _ (.b _) = some false; decide +kernel)
theorem ans_tuple (h : okAll (tyD d) = true) : ansB ["tuple"] (tyD d) = some (isT d) := by
  cases d with
  | obj c ns vs => exact if_pos (of_decide_eq_true h)
  | _ => first | (show ansB _ (.b _) = some true; decide +kernel) | (show ansB _ (.b _) = some false; decide +kernel)
theorem ansC_b {c0 : Str} {n : String} (h : n ∈ tyNames) : ansC c0 (.b n) = some false := if_pos h
theorem ans_cls {c0 : Str} (h : okAll (tyD d) = true) : ansC c0 (tyD d) = some (isO c0 d) := by
  cases d with
  | obj c ns vs => exact if_pos (of_decide_eq_true h)
  | _ => first
    | exact ansC_b (n := "NoneType") (by decide +kernel)
    | exact ansC_b (n := "bool") (by decide +kernel)
    | exact ansC_b (n := "int") (by decide +kernel)
    | exact ansC_b (n := "str") (by decide +kernel)
    | exact ansC_b (n := "list") (by decide +kernel)
    | exact ansC_b (n := "tuple") (by decide +kernel)
    | exact ansC_b (n := "dict") (by decide +kernel)
theorem ok_tup {ds : List D} : okAll (tyD (.tup ds)) = true := by show okAll (.b "tuple") = true; decide +kernel
theorem ok_lst {ds : List D} : okAll (tyD (.lst ds)) = true := by show okAll (.b "list") = true; decide +kernel
theorem ok_int {i : Int} : okAll (tyD (.int i)) = true := by show okAll (.b "int") = true; decide +kernel
theorem ok_bl {b : Bool} : okAll (tyD (.bl b)) = true := by show okAll (.b "bool") = true; decide +kernel
theorem ok_non : okAll (tyD .non) = true := by decide +kernel
theorem ok_str {x : Str} : okAll (tyD (.str x)) = true := by show okAll (.b "str") = true; decide +kernel
theorem ok_tab {ns : List Str} {vs : List D} : okAll (tyD (.obj "Table" ns vs)) = true := by show okAll (.o "Table") = true; decide +kernel
end
section
variable {a : D} {b : Bool}
theorem H1.isInt (h : okAll (tyD a) = true) (e : isI a = b) : H1 (hIs (ansB ["int", "bool"])) a (.bl b) := H1.is (by rw [ans_int h, e])
theorem H1.isBool (h : okAll (tyD a) = true) (e : isB a = b) : H1 (hIs (ansB ["bool"])) a (.bl b) := H1.is (by rw [ans_bool h, e])
theorem H1.isList (h : okAll (tyD a) = true) (e : isL a = b) : H1 (hIs (ansB ["list"])) a (.bl b) := H1.is (by rw [ans_list h, e])
theorem H1.isTup (h : okAll (tyD a) = true) (e : isT a = b) : H1 (hIs (ansB ["tuple"])) a (.bl b) := H1.is (by rw [ans_tuple h, e])
theorem H1.isCls {c0 : Str} (h : okAll (tyD a) = true) (e : isO c0 a = b) : H1 (hIs (ansC c0)) a (.bl b) := H1.is (by rw [ans_cls h, e])
end
/-! ### the tactic -/
local macro_rules | `(tactic| walk_at "ev_ok") => `(tactic| first | assumption | exact ok_tup | exact ok_lst | exact ok_int | exact ok_bl | exact ok_non | exact ok_str | exact ok_tab)
/-- what a call, an item, a length asks -/
local macro_rules | `(tactic| walk_at "ev_side") => `(tactic| assumption)
local macro_rules | `(tactic| walk_at "ev_av") => `(tactic| first | with_reducible exact Av.nil | ((with_reducible apply Av.cons); (focus walk_at "ev"); (focus walk_at "ev_av")))
local macro_rules | `(tactic| walk_at "ev_ak") => `(tactic| first | with_reducible exact Ak.nil | ((with_reducible apply Ak.cons); (focus walk_at "ev"); (focus walk_at "ev_ak")))
local macro_rules | `(tactic| walk_at "ev_rd") => `(tactic| first | ((with_reducible apply Rd.mu); rfl) | (apply Vv.rd; walk_at "ev"))
local macro_rules | `(tactic| walk_at "ev_hd") => `(tactic| first | with_reducible exact HD.addI | with_reducible exact HD.sub | with_reducible exact HD.lt | with_reducible exact HD.le | with_reducible exact HD.gt | with_reducible exact HD.ge | with_reducible exact HD.eqI | with_reducible exact HD.neI | with_reducible exact HD.eqS | with_reducible exact HD.neS | ((with_reducible apply HD.addT); walk_at "ev_side") | ((with_reducible apply HD.addL); walk_at "ev_side") | ((with_reducible apply HD.mod); walk_at "ev_side") | ((with_reducible apply HD.div); walk_at "ev_side") | ((with_reducible apply HD.mulI); walk_at "ev_side") | ((with_reducible apply HD.mulT); walk_at "ev_side") | ((with_reducible apply HD.mulL); walk_at "ev_side") | ((with_reducible apply HD.mulS); walk_at "ev_side") | ((with_reducible apply HD.or1); walk_at "ev_hd") | ((with_reducible apply HD.h2); first | rfl | walk_at "ev_side") | ((with_reducible apply HD.eqX); (focus rfl); (focus walk_at "ev_side")) | ((with_reducible apply HD.neX); (focus rfl); (focus walk_at "ev_side")))
local macro_rules | `(tactic| walk_at "ev_h1") => `(tactic| first | ((with_reducible apply H1.isInt); (focus walk_at "ev_ok"); (focus rfl)) | ((with_reducible apply H1.isBool); (focus walk_at "ev_ok"); (focus rfl)) | ((with_reducible apply H1.isList); (focus walk_at "ev_ok"); (focus rfl)) | ((with_reducible apply H1.isTup); (focus walk_at "ev_ok"); (focus rfl)) | ((with_reducible apply H1.isCls); (focus walk_at "ev_ok"); (focus rfl)) | with_reducible exact H1.listS | with_reducible exact H1.list (.inl rfl) | with_reducible exact H1.list (.inr rfl) | with_reducible exact H1.tupleL | with_reducible exact H1.tupleT | ((with_reducible apply H1.h1); first | rfl | walk_at "ev_side"))
local macro_rules | `(tactic| walk_at "ev_tv") => `(tactic| first | with_reducible exact Tv.yes | ((with_reducible apply Tv.tv); walk_at "ev_rd") | ((with_reducible apply Tv.tr); (focus walk_at "ev_rd"); (first | rfl | walk_at "ev_side")) | ((with_reducible apply Tv.notT); walk_at "ev_tv") | ((with_reducible apply Tv.notF); walk_at "ev_tv") | ((with_reducible apply Tv.not); walk_at "ev_tv") | ((with_reducible apply Tv.andF); (focus walk_at "ev_tv")) | ((with_reducible apply Tv.orT); (focus walk_at "ev_tv")) | ((with_reducible apply Tv.and); (focus walk_at "ev_tv"); (focus (intro _; walk_at "ev_tv"))) | ((with_reducible apply Tv.or); (focus walk_at "ev_tv"); (focus (intro _; walk_at "ev_tv"))))
local macro_rules | `(tactic| walk_at "ev") => `(tactic| first | ((with_reducible apply Vv.var); rfl) | with_reducible exact Vv.cst | ((with_reducible apply Vv.op); (focus walk_at "ev_rd"); (focus walk_at "ev_rd"); (focus walk_at "ev_hd")) | ((with_reducible apply Vv.un); (focus walk_at "ev_rd"); (focus walk_at "ev_h1")) | ((with_reducible apply Vv.tup); (focus walk_at "ev_av"); (first | exact Nat.le_of_ble_eq_true rfl | walk_at "ev_side")) | ((with_reducible apply Vv.lst); (focus walk_at "ev_av"); (first | exact Nat.le_of_ble_eq_true rfl | walk_at "ev_side")) | ((with_reducible apply Vv.fld); (focus walk_at "ev_rd"); (focus decide); (focus rfl)) | ((with_reducible apply Vv.call); (focus walk_at "ev_ak"); (focus walk_at "ev_side"); (focus rfl); (focus rfl)) | ((with_reducible apply Vv.property); (focus walk_at "ev"); (focus walk_at "ev_side")) | ((with_reducible apply Vv.method); (focus walk_at "ev"); (focus decide); (focus walk_at "ev_ak"); (focus walk_at "ev_side"); (focus rfl); (focus rfl)) | ((with_reducible apply Vv.mk); (focus walk_at "ev_ak"); (focus walk_at "ev_side"); (focus rfl); (focus rfl)) | ((with_reducible apply Vv.andF); (focus walk_at "ev_rd")) | ((with_reducible apply Vv.orT); (focus walk_at "ev_rd")) | ((with_reducible apply Vv.and); (focus walk_at "ev_rd"); (focus (intro _; walk_at "ev"))) | ((with_reducible apply Vv.or); (focus walk_at "ev_rd"); (focus (intro _; walk_at "ev"))) | ((with_reducible apply Vv.notT); walk_at "ev_rd") | ((with_reducible apply Vv.notF); walk_at "ev_rd") | ((with_reducible apply Vv.not); walk_at "ev_rd") | ((with_reducible apply Vv.isN); walk_at "ev_rd") | ((with_reducible apply Vv.notN); walk_at "ev_rd") | ((with_reducible apply Vv.chainLL); (focus walk_at "ev_rd"); (focus walk_at "ev_rd"); (focus walk_at "ev_rd")) | ((with_reducible apply Vv.chainLl); (focus walk_at "ev_rd"); (focus walk_at "ev_rd"); (focus walk_at "ev_rd")) | ((with_reducible apply Vv.rev); walk_at "ev_rd") | walk_at "ev_side")
/-! Tables: what is checked, what is made. -/
def inBD (lo hi : Int) : D → Bool
  | .int i => decide (lo ≤ i) && decide (i ≤ hi)
  | _ => false
def isRowD (w l : Int) : D → Bool
  | .tup ds => decide ((ds.length : Int) = l) && ds.all (inBD 0 (w - 1))
  | _ => false
/-- plain at the top, few parts, plain -/
structure Ok2 (d : D) : Prop where
  top : okAll (tyD d) = true
  few : ∀ ds, d = .tup ds ∨ d = .lst ds → ds.length ≤ 1000 ∧ ∀ p ∈ ds, okAll (tyD p) = true
theorem small {n : Nat} (h : n ≤ 1000) : n ≤ sizeLine := Nat.le_trans h (by decide)
theorem p_is_between {d : D} {lo hi : Int} (h : okAll (tyD d) = true) : Gv g_is_between [d, .int lo, .int hi] (.bl (inBD lo hi d)) := by
  cases d <;> refine Gv.rt ⟨_, S.ret (Vv.to (by walk_at "ev") ?_)⟩ <;> rfl
local macro_rules | `(tactic| walk_at "ev_side") => `(tactic| ((with_reducible apply p_is_between); walk_at "ev_ok"))
theorem p_is_below {d : D} {n : Int} (h : okAll (tyD d) = true) : Gv g_is_below [d, .int n] (.bl (inBD 0 (n - 1) d)) :=
  Gv.rt ⟨_, S.ret (Vv.to (by walk_at "ev") rfl)⟩
local macro_rules | `(tactic| walk_at "ev_side") => `(tactic| ((with_reducible apply p_is_below); walk_at "ev_ok"))
theorem bls_map {α : Type} (f : α → Bool) : ∀ xs : List α, blsOf (xs.map fun x => D.bl (f x)) = some (xs.map f)
  | [] => rfl
  | x :: xs => by rw [List.map_cons, blsOf, bls_map f xs]; rfl
theorem all_map {α : Type} (f : α → Bool) (xs : List α) : gAll (.lst (xs.map fun x => D.bl (f x))) = some (.bl (xs.all f)) := by
  show (blsOf _).map _ = _
  rw [bls_map]
  show some (D.bl ((xs.map f).all id)) = _
  rw [List.all_map]
  rfl
section
variable {fi : SEnv → Out (List D)} {tg : D → SEnv → Option SEnv} {c : SEnv → Out Bool} {fe : SEnv → Out Rv} {vs is : List Nat} {env e1 : SEnv}
theorem Fv.lcD (ds : List D) (y : D → D) (ho : TgOff is tg) (hs : ∀ i ∈ is, i ∈ vs) (hi : Av fi env ds e1) (hw : okW e1 vs = true) (l : ds.length ≤ sizeLine) (h : ∀ x ∈ ds, ∃ e2, tg x (wipeE e1 vs) = some e2 ∧ Vv fe e2 (y x) e2) : Fv (eLc fi tg eYes (eK fe) vs) env (.lst (ds.map y)) e1 :=
  Fv.lcY id ds y ho hs (by rw [List.map_id]; exact hi) hw l h
end
theorem p_is_row {d : D} {w l : Int} (h : Ok2 d) : Gv g_is_row [d, .int w, .int l] (.bl (isRowD w l d)) := by
  cases d with
  | tup ds =>
    obtain ⟨h1, h2⟩ := h.few ds (.inl rfl)
    refine Gv.rt ⟨_, S.ret (Vv.to (Vv.and (b1 := true) (by walk_at "ev_rd") fun _ => Vv.and (b1 := decide ((ds.length : Int) = l)) (by walk_at "ev_rd") fun _ => Vv.un (Vv.rd (Fv.lcD ds (fun p => .bl (inBD 0 (w - 1) p)) off_N (by decide) (I.seqT (Vv.var rfl)) rfl (small h1) fun p hp => ⟨_, rfl, ?_⟩).v) (H1.h1 (all_map _ _))) rfl)⟩
    have := h2 p hp
    walk_at "ev"
  | _ =>
    have := h.top
    refine Gv.rt ⟨_, S.ret (Vv.to (by walk_at "ev") ?_)⟩
    rfl
local macro_rules | `(tactic| walk_at "ev_side") => `(tactic| ((with_reducible apply p_is_row); assumption))
/-! ### what is refused -/
theorem p_check_width {d : D} (h : okAll (tyD d) = true) (k : inBD 1 3 d = true) : Gv g_check_width [d] .non := by
  refine Gv.nx ⟨_, S.ifF (Tv.to (by walk_at "ev_tv") (by show (!inBD 1 3 d) = false; rw [k]; rfl)) rfl⟩
theorem x_check_width {d : D} (h : okAll (tyD d) = true) (k : inBD 1 3 d = false) : Gx g_check_width [d] "BadWidth" none := by
  refine Gx.ex ⟨_, S.ifT (Tv.to (by walk_at "ev_tv") (by show (!inBD 1 3 d) = true; rw [k]; rfl)) rfl⟩
/-! Tables made. -/
theorem p_check_arity {d : D} {g : Int} (h : okAll (tyD d) = true) (k : inBD 1 g d = true) : Gv g_check_arity [d, .int g] .non := by
  refine Gv.nx ⟨_, S.ifF (Tv.to (by walk_at "ev_tv") (by show (!inBD 1 g d) = false; rw [k]; rfl)) rfl⟩
theorem x_check_arity {d : D} {g : Int} (h : okAll (tyD d) = true) (k : inBD 1 g d = false) : Gx g_check_arity [d, .int g] "BadArity" none := by
  refine Gx.ex ⟨_, S.ifT (Tv.to (by walk_at "ev_tv") (by show (!inBD 1 g d) = true; rw [k]; rfl)) rfl⟩
/-- rows of a table -/
structure RowsOk (w a : Int) (rs : List (List Int)) : Prop where
  all : ∀ r ∈ rs, (r.length : Int) = a ∧ ∀ m ∈ r, 0 ≤ m ∧ m < w
  few : rs.length < 64
structure Dims (w a : Int) : Prop where
  w1 : 1 ≤ w
  w3 : w ≤ 3
  a1 : 1 ≤ a
  a3 : a ≤ 3
def tabD (w a : Int) (rs : List (List Int)) : D := .obj "Table" ["width", "arity", "_rows"] [.int w, .int a, rowsT rs]
theorem okAll_of {d : D} {n : String} (h : tyD d = .b n) (k : n ∈ tyNames) : okAll (tyD d) = true := by rw [h]; exact decide_eq_true k
theorem ok2_row {r : List Int} (h : r.length ≤ 1000) : Ok2 (rowT r) := ⟨ok_tup, fun ds e => by
  have e : ds = r.map D.int := by
    rcases e with e | e
    · cases e; rfl
    · cases e
  subst e
  refine ⟨by rw [List.length_map]; exact h, fun p hp => ?_⟩
  obtain ⟨m, _, rfl⟩ := List.mem_map.mp hp
  exact ok_int⟩
theorem row_true {w a : Int} {r : List Int} (h1 : (r.length : Int) = a) (h2 : ∀ m ∈ r, 0 ≤ m ∧ m < w) : isRowD w a (rowT r) = true := by
  show (decide (((r.map D.int).length : Int) = a) && (r.map D.int).all (inBD 0 (w - 1))) = true
  rw [List.length_map, decide_eq_true h1, Bool.true_and, List.all_map, List.all_eq_true]
  intro m hm
  obtain ⟨k1, k2⟩ := h2 m hm
  show (decide (0 ≤ m) && decide (m ≤ w - 1)) = true
  rw [decide_eq_true k1, decide_eq_true (by omega)]
  rfl
theorem rowT_get {rs : List (List Int)} {k : Nat} {d : D} (h : (enumF 0 (rs.map rowT))[k]? = some d) : ∃ r, rs[k]? = some r ∧ d = .tup [.int (k : Nat), rowT r] := by
  obtain ⟨d', h1, h2⟩ := enumF_get _ 0 k d h
  rw [List.getElem?_map] at h1
  obtain ⟨r, h3, rfl⟩ := Option.map_eq_some_iff.mp h1
  exact ⟨r, h3, by rw [h2, Nat.zero_add]⟩
theorem rowsB_of {w a : Int} {rs : List (List Int)} (d : Dims w a) (h : RowsOk w a rs) : rowsB rs = true := by
  unfold rowsB
  rw [decide_eq_true h.few, Bool.true_and, List.all_eq_true]
  intro r hr
  obtain ⟨h1, h2⟩ := h.all r hr
  have e : (rs.headD []).length = r.length := by
    cases rs with
    | nil => cases hr
    | cons x xs =>
      have := (h.all x (List.mem_cons_self ..)).1
      show x.length = r.length
      omega
  have := d.a1
  rw [decide_eq_true (by omega), decide_eq_true e.symm, List.all_eq_true.mpr fun m hm => decide_eq_true (h2 m hm).1]
  rfl
theorem Fv.ss {f : SEnv → Out Rv} {env e1 : SEnv} {rs : List (List Int)} (h : Rd f env (rowsT rs) e1) (b : rowsB rs = true) : Fv (eSS f) env (rowsT (sortR rs)) e1 := by
  obtain ⟨r, x, y⟩ := h
  unfold Fv eSS
  rw [eB_ok x]
  have y' : dr e1 r = some (.lst (rs.map rowT)) := y
  simp only [y', rowsOf_map, b, if_true]
theorem inB_of {lo hi i : Int} (h1 : lo ≤ i) (h2 : i ≤ hi) : inBD lo hi (.int i) = true := by
  show (decide (lo ≤ i) && decide (i ≤ hi)) = true
  rw [decide_eq_true h1, decide_eq_true h2]; rfl
theorem p_init {w a : Int} {rs : List (List Int)} (d : Dims w a) (h : RowsOk w a rs) : Gp g_Table___init__ [.obj "Table" [] [], .int w, .int a, rowsT rs] .non (tabD w a (sortR rs)) := by
  refine Gp.nx (b0 := true) ?_
  show ∃ e1, b_Table___init__ [.mu true (.obj "Table" [] []), .im (.int w), .im (.int a), .im (rowsT rs), .no, .no] = .nx (.mu true (tabD w a (sortR rs)) :: e1)
  obtain ⟨e, he, hI⟩ := S.for_ (fi := eEnum (eVar 3)) (tg := tgT (tgsCons (tgN 4) (tgsCons (tgN 5) tgsNil))) (fb := sIf (eNotT (eTr (eCall g_is_row [false, false, false] (eAK (eVar 5) (eAK (eVar 1) (eAK (eVar 2) eANil)))))) (sRaiseI "BadRow" "number" (eVar 4)) sNil)
    (env := [.mu true (.obj "Table" [] []), .im (.int w), .im (.int a), .im (rowsT rs), .no, .no])
    (fun k e => ∃ s t, e = [.mu true (.obj "Table" [] []), .im (.int w), .im (.int a), .im (rowsT rs), s, t] ∧ ((s = .no ∧ t = .no) ∨ ∃ x y, s = .im x ∧ t = .im y)) (I.enum (Vv.var rfl)) ⟨_, _, rfl, .inl ⟨rfl, rfl⟩⟩ (by
      rintro k x e hx ⟨s, t, rfl, hs⟩
      obtain ⟨r, hr, rfl⟩ := rowT_get hx
      obtain ⟨h1, h2⟩ := h.all r (List.mem_of_getElem? hr)
      have d3 := d.a3
      have o2 : Ok2 (rowT r) := ok2_row (by omega)
      have ht : tgT (tgsCons (tgN 4) (tgsCons (tgN 5) tgsNil)) (.tup [.int k, rowT r]) [.mu true (.obj "Table" [] []), .im (.int w), .im (.int a), .im (rowsT rs), s, t] = some [.mu true (.obj "Table" [] []), .im (.int w), .im (.int a), .im (rowsT rs), .im (.int k), .im (rowT r)] := by
        rcases hs with ⟨rfl, rfl⟩ | ⟨x, y, rfl, rfl⟩ <;> rfl
      refine ⟨_, _, ht, S.ifF (Tv.to (by walk_at "ev_tv") (by show (!isRowD w a (rowT r)) = false; rw [row_true h1 h2]; rfl)) rfl, _, _, rfl, .inr ⟨_, _, rfl, rfl⟩⟩)
  obtain ⟨s, t, rfl, _⟩ := hI
  exact ⟨_, S.seq (S.ex (Vv.call (by walk_at "ev_ak") (p_check_width ok_int (inB_of d.w1 d.w3)))) (S.seq (S.ex (Vv.call (by walk_at "ev_ak") (p_check_arity ok_int (inB_of d.a1 d.a3)))) (S.seq (S.ifF (Tv.to (by walk_at "ev_tv") rfl) rfl) (S.seq he
    (S.seq (S.fld (Vv.var rfl) rfl (by decide) (Nat.le_of_ble_eq_true rfl)) (S.seq (S.fld (Vv.var rfl) rfl (by decide) (Nat.le_of_ble_eq_true rfl)) (Eq.trans (S.fld (Fv.v (Fv.ss (Vv.rd (Vv.var rfl)) (rowsB_of d h))) rfl (by decide) (Nat.le_of_ble_eq_true rfl)) rfl))))))⟩
/-! ### what a table tells -/
section
variable {w a : Int} {rs : List (List Int)}
theorem p_rows : Gv g_Table_rows [tabD w a rs] (rowsT rs) := by
  refine Gv.rt ⟨_, S.ret (Vv.to (by walk_at "ev") ?_)⟩
  rfl
end
/-! Fine data: what may be compared, and told as text. -/
def rowP (r : List Int) : PyData := .tuple (r.map PyData.int)
theorem toPs_ints : ∀ r : List Int, toPs (r.map D.int) = some (r.map PyData.int)
  | [] => rfl
  | m :: r => by rw [List.map_cons, toPs, toPs_ints r]; rfl
theorem toP_row (r : List Int) : toP (rowT r) = some (rowP r) := by
  show toP (.tup (r.map D.int)) = _
  rw [toP, toPs_ints]; rfl
theorem toPs_rows : ∀ rs : List (List Int), toPs (rs.map rowT) = some (rs.map rowP)
  | [] => rfl
  | r :: rs => by rw [List.map_cons, toPs, toP_row, toPs_rows rs]; rfl
theorem eqv_ints : ∀ r s : List Int, PyData.eqvAll (r.map PyData.int) (s.map PyData.int) = decide (r = s)
  | [], [] => by rw [List.map_nil, PyData.eqvAll]; rfl
  | [], _ :: _ => by rw [List.map_nil, List.map_cons, PyData.eqvAll]; rfl
  | _ :: _, [] => by rw [List.map_nil, List.map_cons, PyData.eqvAll]; rfl
  | m :: r, n :: s => by
    rw [List.map_cons, List.map_cons, PyData.eqvAll, eqv_ints r s, PyData.eqv]
    by_cases h : m = n
    · subst h; by_cases k : r = s <;> simp [k]
    · simp [h]
theorem eqv_row (r s : List Int) : PyData.eqv (rowP r) (rowP s) = decide (r = s) := by
  show PyData.eqv (.tuple _) (.tuple _) = _
  rw [PyData.eqv, eqv_ints]
theorem eqv_rows : ∀ rs ss : List (List Int), PyData.eqvAll (rs.map rowP) (ss.map rowP) = decide (rs = ss)
  | [], [] => by rw [List.map_nil, PyData.eqvAll]; rfl
  | [], _ :: _ => by rw [List.map_nil, List.map_cons, PyData.eqvAll]; rfl
  | _ :: _, [] => by rw [List.map_nil, List.map_cons, PyData.eqvAll]; rfl
  | m :: r, n :: s => by
    rw [List.map_cons, List.map_cons, PyData.eqvAll, eqv_rows r s, eqv_row]
    by_cases h : m = n
    · subst h; by_cases k : r = s <;> simp [k]
    · simp [h]
/-! ### fine data -/
structure Fine (d : PyData) : Prop where
  s : d.showable = true
  n : d.hasDict = false
  h : SeqAt.shaped d = true
  l : d.leavesShort 40 = true
  w : d.weight ≤ 400
  p : d.depth ≤ 10
def fineB (d : PyData) : Bool := d.showable && !d.hasDict && SeqAt.shaped d && d.leavesShort 40 && decide (d.weight ≤ 400) && decide (d.depth ≤ 10)
theorem fine_of {d : PyData} (h : fineB d = true) : Fine d := by
  unfold fineB at h
  simp only [Bool.and_eq_true, Bool.not_eq_true', decide_eq_true_eq] at h
  exact ⟨h.1.1.1.1.1, h.1.1.1.1.2, h.1.1.1.2, h.1.1.2, h.1.2, h.2⟩
theorem fine_all : ∀ {ds : List PyData}, (∀ d ∈ ds, Fine d) → PyData.showableAll ds = true ∧ PyData.hasDictAll ds = false ∧ PyData.canLayAll0 ds = true ∧ PyData.leavesShortAll 40 ds = true ∧ PyData.weightAll ds ≤ 401 * ds.length ∧ PyData.depthAll ds ≤ 10
  | [], _ => by refine ⟨?_, ?_, ?_, ?_, ?_, ?_⟩ <;> simp [PyData.showableAll, PyData.hasDictAll, PyData.canLayAll0, PyData.leavesShortAll, PyData.weightAll, PyData.depthAll]
  | d :: ds, h => by
    obtain ⟨a, b, c, e, f, g⟩ := fine_all (ds := ds) fun x hx => h x (List.mem_cons_of_mem _ hx)
    have k := h d (List.mem_cons_self ..)
    have kc := SeqAt.canLay_of_shaped k.h
    have kw := k.w
    have kp := k.p
    refine ⟨?_, ?_, ?_, ?_, ?_, ?_⟩
    · simp [PyData.showableAll, a, k.s]
    · simp [PyData.hasDictAll, b, k.n]
    · simp [PyData.canLayAll0, c, kc]
    · simp [PyData.leavesShortAll, e, k.l]
    · simp only [PyData.weightAll, List.length_cons]
      omega
    · simp only [PyData.depthAll]
      omega
theorem fine_list {ds : List PyData} (h : ∀ d ∈ ds, Fine d) (hn : ds.length ≤ 120) : PyData.showable (.list ds) = true ∧ PyData.hasDict (.list ds) = false ∧ (PyData.shown (.list ds)).length ≤ sizeLine ∧ PyData.depth (.list ds) ≤ 60 ∧ SeqAt.shaped (.list ds) = true := by
  obtain ⟨a, b, c, e, f, g⟩ := fine_all h
  have hd : PyData.depth (.list ds) ≤ 60 := by
    simp only [PyData.depth]
    omega
  refine ⟨by simpa [PyData.showable] using a, by simpa [PyData.hasDict] using b, ?_, hd, ?_⟩
  · have := PyData.shown_le 40 (by decide) (.list ds) (by simpa [PyData.leavesShort] using e)
    have hw : PyData.weight (.list ds) ≤ 401 * 120 := by
      simp only [PyData.weight]
      omega
    rw [sizeLine_eq]
    omega
  · show (PyData.canLay0 (.list ds) && decide (PyData.depth (.list ds) ≤ 64)) = true
    rw [Bool.and_eq_true]
    exact ⟨by simp only [PyData.canLay0]; exact c, decide_eq_true (by omega)⟩
def ext (w : Int) (one : List Int) : List (List Int) := (List.range w.toNat).map fun (v : Nat) => one ++ [(v : Int)]
def allRows (w : Int) : Nat → List (List Int)
  | 0 => [[]]
  | n + 1 => (allRows w n).flatMap (ext w)
theorem row_in {w : Int} : ∀ (n : Nat) (r : List Int), r.length = n → (∀ m ∈ r, 0 ≤ m ∧ m < w) → r ∈ allRows w n
  | 0, r, h, _ => by
    rw [List.eq_nil_of_length_eq_zero h]
    exact List.mem_singleton.mpr rfl
  | n + 1, r, h, hb => by
    rcases List.eq_nil_or_concat r with rfl | ⟨s, x, rfl⟩
    · cases h
    · rw [List.concat_eq_append] at h hb ⊢
      have hl : s.length = n := by rw [List.length_append] at h; simpa using h
      refine List.mem_flatMap.mpr ⟨s, row_in n s hl fun m hm => hb m (List.mem_append_left _ hm), ?_⟩
      have hx := hb x (List.mem_append_right _ (List.mem_singleton.mpr rfl))
      refine List.mem_map.mpr ⟨x.toNat, List.mem_range.mpr (by omega), ?_⟩
      rw [Int.toNat_of_nonneg hx.1]
theorem rows_fine : ([1, 2, 3] : List Int).all (fun w => ([1, 2, 3] : List Nat).all fun n => (allRows w n).all fun r => fineB (rowP r)) = true := by decide +kernel
theorem fine_row {w a : Int} {r : List Int} (d : Dims w a) (h1 : (r.length : Int) = a) (h2 : ∀ m ∈ r, 0 ≤ m ∧ m < w) : Fine (rowP r) := by
  obtain ⟨w1, w3, a1, a3⟩ := d
  have k1 := List.all_eq_true.mp rows_fine w (by
    have : w = 1 ∨ w = 2 ∨ w = 3 := by omega
    rcases this with rfl | rfl | rfl <;> decide)
  have k2 := List.all_eq_true.mp k1 r.length (by
    have : r.length = 1 ∨ r.length = 2 ∨ r.length = 3 := by omega
    rcases this with e | e | e <;> rw [e] <;> decide)
  exact fine_of (List.all_eq_true.mp k2 r (row_in _ r rfl h2))
theorem fine_rows {w a : Int} {rs : List (List Int)} (d : Dims w a) (h : RowsOk w a rs) : ∀ p ∈ rs.map rowP, Fine p := fun p hp => by
  obtain ⟨r, hr, rfl⟩ := List.mem_map.mp hp
  exact fine_row d (h.all r hr).1 (h.all r hr).2
/-- r in rs -/
theorem in_rows {w a : Int} {rs : List (List Int)} {r : List Int} (d : Dims w a) (h : RowsOk w a rs) (h1 : (r.length : Int) = a) (h2 : ∀ m ∈ r, 0 ≤ m ∧ m < w) : inD (rowT r) (rowsT rs) = some (decide (r ∈ rs)) := by
  have f := fine_row d h1 h2
  have fl := fine_list (fine_rows d h) (by rw [List.length_map]; have := h.few; omega)
  show (match toP (rowT r), toPs (rs.map rowT) with | some p, some ps => _ | _, _ => _) = _
  rw [toP_row, toPs_rows]
  show (if SeqAt.shaped (rowP r) = true ∧ SeqAt.shaped (.list (rs.map rowP)) = true then some ((rs.map rowP).any fun z => PyData.eqv z (rowP r)) else none) = _
  rw [if_pos ⟨f.h, fl.2.2.2.2⟩]
  congr 1
  rw [List.any_map, Bool.eq_iff_iff, List.any_eq_true, decide_eq_true_eq]
  constructor
  · rintro ⟨x, hx, e⟩
    have e' : PyData.eqv (rowP x) (rowP r) = true := e
    rw [eqv_row, decide_eq_true_eq] at e'
    rw [← e']; exact hx
  · intro hr
    exact ⟨r, hr, by show PyData.eqv (rowP r) (rowP r) = true; rw [eqv_row]; exact decide_eq_true rfl⟩
theorem toP_rows (rs : List (List Int)) : toP (rowsT rs) = some (.list (rs.map rowP)) := by
  show toP (.lst (rs.map rowT)) = _
  rw [toP, toPs_rows]; rfl
theorem eq_rows {w a : Int} {rs ss : List (List Int)} (d : Dims w a) (h : RowsOk w a rs) (k : RowsOk w a ss) : eqD (rowsT rs) (rowsT ss) = some (decide (rs = ss)) := by
  have f1 := fine_list (fine_rows d h) (by rw [List.length_map]; have := h.few; omega)
  have f2 := fine_list (fine_rows d k) (by rw [List.length_map]; have := k.few; omega)
  unfold eqD
  rw [toP_rows, toP_rows]
  show (if _ then some (PyData.eqv (.list (rs.map rowP)) (.list (ss.map rowP))) else none) = _
  rw [if_pos ⟨f1.2.2.2.2, f2.2.2.2.2⟩, PyData.eqv, eqv_rows]
/-- the text of rows -/
theorem repr_rows {w a : Int} {rs : List (List Int)} (d : Dims w a) (h : RowsOk w a rs) : ∃ t, gRepr (rowsT rs) = some (.str t) := by
  obtain ⟨f1, f2, f3, f4, f5⟩ := fine_list (fine_rows d h) (by rw [List.length_map]; have := h.few; omega)
  refine ⟨(PyData.list (rs.map rowP)).shown, ?_⟩
  unfold gRepr
  rw [toP_rows]
  show (if reprB (.list (rs.map rowP)) = true then _ else _) = _
  rw [if_pos (by unfold reprB; rw [f1, f2, decide_eq_true f3, decide_eq_true f4]; rfl)]
/-! ### sorted rows -/
theorem rows_bdd {w a : Int} {rs : List (List Int)} (h : RowsOk w a rs) : ∀ r ∈ rs, Bdd w a.toNat r := fun r hr => ⟨by have := (h.all r hr).1; omega, (h.all r hr).2⟩
theorem sortR_nodup {w a : Int} {rs : List (List Int)} (d : Dims w a) (h : RowsOk w a rs) : (sortR rs).Nodup := (sortR_srt d.w1 rs (rows_bdd h)).imp fun {x y} h z => by rw [z] at h; omega
theorem sortR_ext {w a : Int} {rs ss : List (List Int)} (d : Dims w a) (h : RowsOk w a rs) (k : RowsOk w a ss) (e : ∀ x, x ∈ rs ↔ x ∈ ss) : sortR rs = sortR ss :=
  sort_uniq d.w1 (rows_bdd k) (sortR_nodup d h) (fun x => by rw [sortR_mem, e]) ((sortR_srt d.w1 rs (rows_bdd h)).imp fun {x y} h => Int.le_of_lt h)
theorem insR_len (x : List Int) : ∀ ys : List (List Int), (insR x ys).length ≤ ys.length + 1
  | [] => Nat.le_refl _
  | y :: ys => by
    have ih := insR_len x ys
    unfold insR
    split
    · simp
    · split
      · simp
      · simp only [List.length_cons]; omega
theorem sortR_len : ∀ rs : List (List Int), (sortR rs).length ≤ rs.length
  | [] => Nat.le_refl _
  | r :: rs => by
    have h1 := insR_len r (sortR rs)
    have h2 := sortR_len rs
    show (insR r (sortR rs)).length ≤ _
    simp only [List.length_cons]; omega
theorem rowsOk_sort {w a : Int} {rs : List (List Int)} (d : Dims w a) (h : RowsOk w a rs) : RowsOk w a (sortR rs) := ⟨fun r hr => h.all r ((sortR_mem r rs).mp hr), Nat.lt_of_le_of_lt (sortR_len rs) h.few⟩
theorem sort_sort {w a : Int} {rs : List (List Int)} (d : Dims w a) (h : RowsOk w a rs) : sortR (sortR rs) = sortR rs := sortR_ext d (rowsOk_sort d h) h fun x => sortR_mem x rs
/-! Tables made of tables. -/
theorem okAll_tab {w a : Int} {rs : List (List Int)} : okAll (tyD (tabD w a rs)) = true := ok_tab
local macro_rules | `(tactic| walk_at "ev_ok") => `(tactic| exact okAll_tab)
/-- a made table, told -/
theorem Vv.table {fa : SEnv → Out (List Rv)} {env e1 : SEnv} {w a : Int} {rs : List (List Int)} (d : Dims w a) (h : RowsOk w a rs) (hg : Ak fa env [.int w, .int a, rowsT rs] e1) : Vv (eMake "Table" g_Table___init__ [false, false, false] fa) env (tabD w a (sortR rs)) e1 := (Fv.mk hg (p_init d h)).v
/-- a row in a table -/
theorem p_has {w a : Int} {rs : List (List Int)} {r : List Int} (d : Dims w a) (h : RowsOk w a rs) (h1 : (r.length : Int) = a) (h2 : ∀ m ∈ r, 0 ≤ m ∧ m < w) : Gv g_Table___contains__ [tabD w a rs, rowT r] (.bl (decide (r ∈ rs))) := by
  have d3 := d.a3
  have o2 : Ok2 (rowT r) := ok2_row (by omega)
  refine Gv.rt ⟨_, S.ret (Vv.to (Vv.and (b1 := true) (Vv.rd (Vv.to (by walk_at "ev") (by rw [row_true h1 h2]))) fun _ => Vv.op (by walk_at "ev_rd") (by walk_at "ev_rd") (HD.h2 (by show (inD _ _).map _ = _; rw [in_rows d h h1 h2]; rfl))) ?_)⟩
  rfl
/-! ### & -/
theorem x_and {w a : Int} {rs : List (List Int)} {d : D} (ho : okAll (tyD d) = true) (hn : isO "Table" d = false) : Gx g_Table___and__ [tabD w a rs, d] "Unlike" none := by
  refine Gx.ex ⟨_, S.exc (S.ifT (Tv.orT (Tv.notF (Tv.tr (Vv.rd (Vv.un (Vv.rd (Vv.var rfl)) (H1.isCls ho hn))) rfl))) rfl)⟩
theorem x_and2 {w a w' a' : Int} {rs rs' : List (List Int)} (hn : ¬ (w' = w ∧ a' = a)) : Gx g_Table___and__ [tabD w a rs, tabD w' a' rs'] "Unlike" none := by
  refine Gx.ex ⟨_, S.exc (S.ifT (Tv.to (by walk_at "ev_tv") ?_) rfl)⟩
  show ((false || ((!decide (w' = w)) || (!decide (a' = a)))) = true)
  by_cases h : w' = w
  · have : ¬ a' = a := fun z => hn ⟨h, z⟩
    simp [this]
  · simp [h]
theorem p_and {w a : Int} {rs rs' : List (List Int)} (d : Dims w a) (h : RowsOk w a rs) (h' : RowsOk w a rs') : Gv g_Table___and__ [tabD w a rs, tabD w a rs'] (tabD w a (sortR (rs.filter fun r => decide (r ∈ rs')))) := by
  have ok : RowsOk w a (rs.filter fun r => decide (r ∈ rs')) := ⟨fun r hr => h.all r (List.mem_filter.mp hr).1, Nat.lt_of_le_of_lt (List.length_filter_le _ _) h.few⟩
  have f := h.few
  refine Gv.rt ⟨_, S.seq (S.ifF (Tv.to (by walk_at "ev_tv") (by show (false || ((!decide (w = w)) || (!decide (a = a)))) = false; simp)) rfl) (S.ret (Vv.table d ok (Ak.cons (by walk_at "ev") (Ak.cons (by walk_at "ev") (Ak.cons (Fv.v (Fv.lc rowT rs (fun r => decide (r ∈ rs')) rowT off_N (by decide) (I.seqL (by walk_at "ev")) rfl (small (by omega)) fun r hr => ?_)) Ak.nil)))))⟩
  have hr' := h.all r hr
  refine ⟨_, rfl, Tv.tv (Vv.rd (Vv.op (Vv.rd (Vv.var rfl)) (Vv.rd (Vv.var rfl)) (HD.ownIn (neg := false) (p_has d h' hr'.1 hr'.2)))), fun _ => Vv.var rfl⟩
/-! ### * -/
section
variable {α β : Type} {fi fi1 : SEnv → Out (List D)} {tg tg1 : D → SEnv → Option SEnv} {fe : SEnv → Out Rv} {vs vs1 is is1 : List Nat} {env e1 : SEnv}
theorem comp2_pure (emb : α → D) (emb1 : β → D) (ys : List β) (z : α → β → D) (E : SEnv) (ho : TgOff is tg) (hs : ∀ i ∈ is, i ∈ vs) (ho1 : TgOff is1 tg1) (hs1 : ∀ i ∈ is1, i ∈ vs1) (hv : ∀ i ∈ vs1, i ∈ vs) (hE : wipeE E vs = E) :
    ∀ (xs : List α) (acc : List D), (∀ x ∈ xs, ∃ e2, tg (emb x) E = some e2 ∧ Av fi1 e2 (ys.map emb1) e2 ∧ ∀ y ∈ ys, ∃ e3, tg1 (emb1 y) (wipeE e2 vs1) = some e3 ∧ Vv fe e3 (z x y) e3) → acc.length + xs.length * ys.length ≤ sizeLine →
    comp2F tg eYes fi1 tg1 eYes (eK fe) vs vs1 (xs.map emb) acc E = .ok (acc ++ xs.flatMap fun x => ys.map (z x)) E
  | [], acc, _, _ => by simp [comp2F]
  | x :: xs, acc, h, l => by
    obtain ⟨e2, h1, h2, h3⟩ := h x (List.mem_cons_self ..)
    obtain ⟨k1, k2⟩ := ho _ _ _ h1
    have hw : wipeE e2 vs = E := by rw [wipeE_tg hs k1 k2, hE]
    rw [List.length_cons, Nat.add_mul, Nat.one_mul] at l
    have inner := compF_pure (fe := fe) (c := eYes) emb1 (fun _ => true) (z x) (wipeE e2 vs1) ho1 hs1 (wipeE_sub _ fun _ h => h) ys acc (fun y hy => let ⟨e3, a, b⟩ := h3 y hy; ⟨e3, a, Tv.yes, fun _ => b⟩) (by omega)
    rw [List.filter_eq_self.mpr fun _ _ => rfl] at inner
    have ih := comp2_pure emb emb1 ys z E ho hs ho1 hs1 hv hE xs (acc ++ ys.map (z x)) (fun w hw => h w (List.mem_cons_of_mem _ hw)) (by rw [List.length_append, List.length_map]; omega)
    rw [List.map_cons]
    unfold comp2F
    have h2' : fi1 e2 = .ok (ys.map emb1) e2 := h2
    have hy : eYes e2 = .ok true e2 := rfl
    simp only [h1, hy, h2', inner]
    rw [wipeE_sub _ hv, hw, ih, List.flatMap_cons, List.append_assoc]
theorem Fv.lc2 (emb : α → D) (xs : List α) (emb1 : β → D) (ys : List β) (z : α → β → D) (ho : TgOff is tg) (hs : ∀ i ∈ is, i ∈ vs) (ho1 : TgOff is1 tg1) (hs1 : ∀ i ∈ is1, i ∈ vs1) (hv : ∀ i ∈ vs1, i ∈ vs) (hi : Av fi env (xs.map emb) e1) (hw : okW e1 vs = true) (l : xs.length * ys.length ≤ sizeLine)
    (h : ∀ x ∈ xs, ∃ e2, tg (emb x) (wipeE e1 vs) = some e2 ∧ Av fi1 e2 (ys.map emb1) e2 ∧ ∀ y ∈ ys, ∃ e3, tg1 (emb1 y) (wipeE e2 vs1) = some e3 ∧ Vv fe e3 (z x y) e3) :
    Fv (eLc2 fi tg eYes fi1 tg1 eYes (eK fe) vs vs1) env (.lst (xs.flatMap fun x => ys.map (z x))) e1 := by
  unfold Fv eLc2
  rw [eB_ok hi]
  show (if okW e1 vs = true then _ else _) = _
  rw [if_pos hw]
  have := comp2_pure (fe := fe) emb emb1 ys z (wipeE e1 vs) ho hs ho1 hs1 hv (wipeE_sub _ fun _ h => h) xs [] h (by simpa using l)
  simp only [this, List.nil_append, resE_wipeE]
end
def prodR (rs rs' : List (List Int)) : List (List Int) := rs.flatMap fun r => rs'.map fun s => r ++ s
theorem prod_rowT (rs rs' : List (List Int)) : (rs.flatMap fun r => rs'.map fun s => rowT (r ++ s)) = (prodR rs rs').map rowT := by
  unfold prodR
  rw [List.map_flatMap]
  congr 1
  funext r
  rw [List.map_map]
  rfl
theorem prodR_len (rs rs' : List (List Int)) : (prodR rs rs').length = rs.length * rs'.length := by
  unfold prodR
  induction rs with
  | nil => simp
  | cons r rs ih => rw [List.flatMap_cons, List.length_append, List.length_map, ih, List.length_cons, Nat.add_mul, Nat.one_mul, Nat.add_comm]
theorem prodR_ok {w a a' : Int} {rs rs' : List (List Int)} (h : RowsOk w a rs) (h' : RowsOk w a' rs') (l : rs.length * rs'.length < 64) : RowsOk w (a + a') (prodR rs rs') := by
  refine ⟨fun x hx => ?_, by rw [prodR_len]; exact l⟩
  obtain ⟨r, hr, hx⟩ := List.mem_flatMap.mp hx
  obtain ⟨s, hs, rfl⟩ := List.mem_map.mp hx
  obtain ⟨a1, a2⟩ := h.all r hr
  obtain ⟨b1, b2⟩ := h'.all s hs
  refine ⟨by rw [List.length_append]; omega, fun m hm => ?_⟩
  rcases List.mem_append.mp hm with hm | hm
  · exact a2 m hm
  · exact b2 m hm
theorem x_mul {w a : Int} {rs : List (List Int)} {d : D} (ho : okAll (tyD d) = true) (hn : isO "Table" d = false) : Gx g_Table___mul__ [tabD w a rs, d] "Unlike" none := by
  refine Gx.ex ⟨_, S.exc (S.ifT (Tv.orT (Tv.notF (Tv.tr (Vv.rd (Vv.un (Vv.rd (Vv.var rfl)) (H1.isCls ho hn))) rfl))) rfl)⟩
theorem x_mul2 {w a w' a' : Int} {rs rs' : List (List Int)} (hn : ¬ (w' = w ∧ a + a' ≤ 3)) : Gx g_Table___mul__ [tabD w a rs, tabD w' a' rs'] "Unlike" none := by
  refine Gx.ex ⟨_, S.exc (S.ifT (Tv.to (by walk_at "ev_tv") ?_) rfl)⟩
  show ((false || ((!decide (w' = w)) || (decide (3 < a + a')))) = true)
  by_cases h : w' = w
  · have : 3 < a + a' := by
      have : ¬ a + a' ≤ 3 := fun z => hn ⟨h, z⟩
      omega
    simp [this]
  · simp [h]
theorem p_mul {w a a' : Int} {rs rs' : List (List Int)} (d : Dims w a) (d' : Dims w a') (h3 : a + a' ≤ 3) (h : RowsOk w a rs) (h' : RowsOk w a' rs') (l : rs.length * rs'.length < 64) : Gv g_Table___mul__ [tabD w a rs, tabD w a' rs'] (tabD w (a + a') (sortR (prodR rs rs'))) := by
  have ok := prodR_ok h h' l
  have hd : Dims w (a + a') := ⟨d.w1, d.w3, by have := d.a1; have := d'.a1; omega, h3⟩
  have d3 := d.a3
  have d3' := d'.a3
  have hl : Fv (eLc2 (eSeq (eFld "_rows" clsAll (eVar 0))) (tgN 2) eYes (eSeq (eProp "Table" g_Table_rows (eVar 1))) (tgN 3) eYes (eK (eOp hAdd (eVar 2) (eVar 3))) [2, 3] [3]) [.im (tabD w a rs), .im (tabD w a' rs'), .no, .no] (rowsT (prodR rs rs')) [.im (tabD w a rs), .im (tabD w a' rs'), .no, .no] := by
    have := Fv.lc2 (fe := eOp hAdd (eVar 2) (eVar 3)) (fi := eSeq (eFld "_rows" clsAll (eVar 0))) (fi1 := eSeq (eProp "Table" g_Table_rows (eVar 1))) (env := [.im (tabD w a rs), .im (tabD w a' rs'), .no, .no]) (vs := [2, 3]) (vs1 := [3]) rowT rs rowT rs' (fun r s => rowT (r ++ s)) (off_N (i := 2)) (by decide) (off_N (i := 3)) (by decide) (by decide) (I.seqL (by walk_at "ev")) rfl (small (by omega)) fun r hr => by
      refine ⟨_, rfl, I.seqL (Vv.property (Vv.var rfl) p_rows), fun s hs => ⟨_, rfl, ?_⟩⟩
      have e : rowT (r ++ s) = .tup (r.map D.int ++ s.map D.int) := by rw [rowT, List.map_append]
      rw [e]
      have l1 := (h.all r hr).1
      have l2 := (h'.all s hs).1
      exact Vv.op (Vv.rd (Vv.var rfl)) (Vv.rd (Vv.var rfl)) (HD.addT (by rw [List.length_map, List.length_map]; exact small (by omega)))
    rw [prod_rowT] at this
    exact this
  refine Gv.rt ?_
  show ∃ e1, b_Table___mul__ [.im (tabD w a rs), .im (tabD w a' rs'), .no, .no] = .rt _ e1
  refine ⟨_, S.seq (S.ifF (Tv.to (by walk_at "ev_tv") (by show (false || ((!decide (w = w)) || (decide (3 < a + a')))) = false; rw [decide_eq_false (show ¬ 3 < a + a' by omega)]; simp)) rfl) (S.ret (Vv.table hd ok (Ak.cons (by walk_at "ev") (Ak.cons (by walk_at "ev") (Ak.cons hl.v Ak.nil)))))⟩
/-! Rows seen at positions, with equal values, renamed; one value, equal pairs. -/
def getI (r : List Int) (i : Int) : Int := r.getD i.toNat 0
theorem atI_map {α : Type} {r : List Int} {f : Int → α} {i : Int} (h0 : 0 ≤ i) (h1 : i < r.length) : L2.atI (r.map f) i = some (f (getI r i)) := by
  obtain ⟨k, rfl⟩ : ∃ k : Nat, i = k := ⟨i.toNat, by omega⟩
  have hk : k < r.length := by omega
  unfold L2.atI
  have e : ixN r.length (k : Int) = some k := by
    unfold ixN
    rw [if_pos (by omega), if_pos (by omega)]
    simp
  rw [List.length_map, e]
  show (r.map f)[k]? = _
  rw [List.getElem?_map, List.getElem?_eq_getElem hk, getI, Int.toNat_natCast, List.getD_eq_getElem?_getD, List.getElem?_eq_getElem hk]
  rfl
theorem ix_row {r : List Int} {i : Int} (h0 : 0 ≤ i) (h1 : i < r.length) : gIx (rowT r) (.int i) = some (.int (getI r i)) := atI_map h0 h1
theorem ix_lst {r : List Int} {i : Int} (h0 : 0 ≤ i) (h1 : i < r.length) : gIx (.lst (r.map D.int)) (.int i) = some (.int (getI r i)) := atI_map h0 h1
theorem getI_mem {r : List Int} {i : Int} (h0 : 0 ≤ i) (h1 : i < r.length) : getI r i ∈ r := by
  have hk : i.toNat < r.length := by omega
  rw [getI, List.getD_eq_getElem?_getD, List.getElem?_eq_getElem hk]
  exact List.getElem_mem hk
theorem inB_int {lo hi : Int} {d : D} (h : inBD lo hi d = true) : ∃ i, d = .int i ∧ lo ≤ i ∧ i ≤ hi := by
  cases d with
  | int i =>
    have h : (decide (lo ≤ i) && decide (i ≤ hi)) = true := h
    rw [Bool.and_eq_true, decide_eq_true_eq, decide_eq_true_eq] at h
    exact ⟨i, rfl, h⟩
  | _ => cases h
theorem isRow_inv {w l : Int} {d : D} (h : isRowD w l d = true) : ∃ r : List Int, d = rowT r ∧ (r.length : Int) = l ∧ ∀ m ∈ r, 0 ≤ m ∧ m < w := by
  cases d with
  | tup ds =>
    have h : (decide ((ds.length : Int) = l) && ds.all (inBD 0 (w - 1))) = true := h
    rw [Bool.and_eq_true, decide_eq_true_eq, List.all_eq_true] at h
    obtain ⟨h1, h2⟩ := h
    have key : ∀ ds : List D, (∀ x ∈ ds, inBD 0 (w - 1) x = true) → ∃ r : List Int, ds = r.map D.int ∧ ∀ m ∈ r, 0 ≤ m ∧ m < w := by
      intro ds
      induction ds with
      | nil => exact fun _ => ⟨[], rfl, fun _ h => nomatch h⟩
      | cons x xs ih =>
        intro h
        obtain ⟨r, e, k⟩ := ih fun z hz => h z (List.mem_cons_of_mem _ hz)
        obtain ⟨i, rfl, k1, k2⟩ := inB_int (h x (List.mem_cons_self ..))
        refine ⟨i :: r, by rw [e]; rfl, fun m hm => ?_⟩
        rcases List.mem_cons.mp hm with rfl | hm
        · omega
        · exact k m hm
    obtain ⟨r, rfl, k⟩ := key ds h2
    exact ⟨r, rfl, by rw [← h1, List.length_map], k⟩
  | _ => cases h
/-! ### glued -/
def glueOk (a : Int) (d1 d2 : D) : Bool := inBD 0 (a - 1) d1 && inBD 0 (a - 1) d2
theorem x_glued {w a : Int} {rs : List (List Int)} {d1 d2 : D} (h1 : okAll (tyD d1) = true) (h2 : okAll (tyD d2) = true) (n : glueOk a d1 d2 = false) : Gx g_Table_glued [tabD w a rs, d1, d2] "BadSpots" none := by
  refine Gx.ex ⟨_, S.exc (S.ifT (Tv.to (by walk_at "ev_tv") ?_) rfl)⟩
  show (!inBD 0 (a - 1) d1 || !inBD 0 (a - 1) d2) = true
  unfold glueOk at n
  rw [← Bool.not_and, n]
  rfl
theorem p_glued {w a i j : Int} {rs : List (List Int)} (d : Dims w a) (h : RowsOk w a rs) (hi : 0 ≤ i ∧ i < a) (hj : 0 ≤ j ∧ j < a) : Gv g_Table_glued [tabD w a rs, .int i, .int j] (tabD w a (sortR (rs.filter fun r => decide (getI r i = getI r j)))) := by
  have ok : RowsOk w a (rs.filter fun r => decide (getI r i = getI r j)) := ⟨fun r hr => h.all r (List.mem_filter.mp hr).1, Nat.lt_of_le_of_lt (List.length_filter_le _ _) h.few⟩
  have f := h.few
  have b1 := inB_of (lo := 0) (hi := a - 1) hi.1 (by omega)
  have b2 := inB_of (lo := 0) (hi := a - 1) hj.1 (by omega)
  refine Gv.rt ⟨_, S.seq (S.ifF (Tv.to (by walk_at "ev_tv") (by show (!inBD 0 (a - 1) (.int i) || !inBD 0 (a - 1) (.int j)) = false; rw [b1, b2]; rfl)) rfl) (S.ret (Vv.table d ok (Ak.cons (by walk_at "ev") (Ak.cons (by walk_at "ev") (Ak.cons (Fv.v (Fv.lc rowT rs (fun r => decide (getI r i = getI r j)) rowT off_N (by decide) (I.seqL (by walk_at "ev")) rfl (small (by omega)) fun r hr => ?_)) Ak.nil)))))⟩
  have hr' := (h.all r hr).1
  exact ⟨_, rfl, Tv.tv (Vv.rd (Vv.op (Vv.rd (Vv.op (Vv.rd (Vv.var rfl)) (Vv.rd (Vv.var rfl)) (HD.h2 (ix_row hi.1 (by omega))))) (Vv.rd (Vv.op (Vv.rd (Vv.var rfl)) (Vv.rd (Vv.var rfl)) (HD.h2 (ix_row hj.1 (by omega))))) HD.eqI)), fun _ => Vv.var rfl⟩
/-! ### seen -/
def seenOk (a : Int) : D → Bool
  | .tup ds => inBD 1 3 (.int ds.length) && isRowD a ds.length (.tup ds)
  | _ => false
theorem x_seen {w a : Int} {rs : List (List Int)} {d : D} (h : Ok2 d) (n : seenOk a d = false) : Gx g_Table_seen [tabD w a rs, d] "BadSpots" none := by
  have ht := h.top
  cases d with
  | tup ds =>
    by_cases k : inBD 1 3 (.int ds.length) = true
    · have n : (inBD 1 3 (.int ds.length) && isRowD a ds.length (.tup ds)) = false := n
      rw [k, Bool.true_and] at n
      refine Gx.ex ⟨_, S.seq (S.ifF (Tv.to (by walk_at "ev_tv") ?_) rfl) (S.exc (S.ifT (Tv.to (by walk_at "ev_tv") ?_) rfl))⟩
      · show (false || !inBD 1 3 (.int ds.length)) = false
        rw [k]; rfl
      · show (!isRowD a ds.length (.tup ds)) = true
        rw [n]; rfl
    · rw [Bool.not_eq_true] at k
      refine Gx.ex ⟨_, S.exc (S.ifT (Tv.to (by walk_at "ev_tv") ?_) rfl)⟩
      show (false || !inBD 1 3 (.int ds.length)) = true
      rw [k]; rfl
  | _ => exact Gx.ex ⟨_, S.exc (S.ifT (Tv.orT (Tv.notF (Tv.tr (Vv.rd (Vv.un (Vv.rd (Vv.var rfl)) (H1.isTup ht rfl))) rfl))) rfl)⟩
def seenR (rs : List (List Int)) (sp : List Int) : List (List Int) := rs.map fun r => sp.map (getI r)
theorem seenR_ok {w a : Int} {rs : List (List Int)} {sp : List Int} (h : RowsOk w a rs) (hs : ∀ m ∈ sp, 0 ≤ m ∧ m < a) : RowsOk w sp.length (seenR rs sp) := by
  refine ⟨fun x hx => ?_, by rw [seenR, List.length_map]; exact h.few⟩
  obtain ⟨r, hr, rfl⟩ := List.mem_map.mp hx
  obtain ⟨h1, h2⟩ := h.all r hr
  refine ⟨by rw [List.length_map], fun m hm => ?_⟩
  obtain ⟨i, hi, rfl⟩ := List.mem_map.mp hm
  have := hs i hi
  exact h2 _ (getI_mem this.1 (by omega))
theorem p_seen {w a : Int} {rs : List (List Int)} {sp : List Int} (d : Dims w a) (h : RowsOk w a rs) (l : 1 ≤ sp.length ∧ sp.length ≤ 3) (hs : ∀ m ∈ sp, 0 ≤ m ∧ m < a) : Gv g_Table_seen [tabD w a rs, rowT sp] (tabD w sp.length (sortR (seenR rs sp))) := by
  have ok := seenR_ok h hs
  have hd : Dims w sp.length := ⟨d.w1, d.w3, by omega, by omega⟩
  have f := h.few
  have o2 : Ok2 (rowT sp) := ok2_row (by omega)
  have b1 : inBD 1 3 (.int ((sp.map D.int).length)) = true := inB_of (by rw [List.length_map]; omega) (by rw [List.length_map]; omega)
  have b2 : isRowD a ((sp.map D.int).length) (rowT sp) = true := row_true (by rw [List.length_map]) hs
  have hl : ∀ env : SEnv, env = [.im (tabD w a rs), .im (rowT sp), .no, .no] → Fv (eLc (eSeq (eFld "_rows" clsAll (eVar 0))) (tgN 2) eYes (eK (eU hTuple (eLc (eSeq (eVar 1)) (tgN 3) eYes (eK (eOp (h2 gIx) (eVar 2) (eVar 3))) [3]))) [2]) env (rowsT (seenR rs sp)) env := by
    rintro env rfl
    have := Fv.lcY (fe := eU hTuple (eLc (eSeq (eVar 1)) (tgN 3) eYes (eK (eOp (h2 gIx) (eVar 2) (eVar 3))) [3])) (fi := eSeq (eFld "_rows" clsAll (eVar 0))) (env := [.im (tabD w a rs), .im (rowT sp), .no, .no]) (vs := [2]) rowT rs (fun r => rowT (sp.map (getI r))) (off_N (i := 2)) (by decide) (I.seqL (by walk_at "ev")) rfl (small (by omega)) fun r hr => by
      refine ⟨_, rfl, Vv.to (Vv.un (Vv.rd (Fv.v (Fv.lcY D.int sp (fun i => .int (getI r i)) off_N (by decide) (I.seqT (Vv.var rfl)) rfl (small (by omega)) fun i hi => ⟨_, rfl, ?_⟩))) H1.tupleL) ?_⟩
      · have := hs i hi
        exact Vv.op (Vv.rd (Vv.var rfl)) (Vv.rd (Vv.var rfl)) (HD.h2 (ix_row this.1 (by have := (h.all r hr).1; omega)))
      · rw [rowT, List.map_map]; rfl
    have e : (rs.map fun r => rowT (sp.map (getI r))) = (seenR rs sp).map rowT := by rw [seenR, List.map_map]; rfl
    rw [e] at this
    exact this
  refine Gv.rt ?_
  show ∃ e1, b_Table_seen [.im (tabD w a rs), .im (rowT sp), .no, .no] = .rt _ e1
  refine ⟨_, S.seq (S.ifF (Tv.to (by walk_at "ev_tv") ?_) rfl) (S.seq (S.ifF (Tv.to (by walk_at "ev_tv") ?_) rfl) (S.ret (Vv.table hd ok (Ak.cons (by walk_at "ev") (Ak.cons (Vv.to (by walk_at "ev") (by show D.int ((sp.map D.int).length) = _; rw [List.length_map])) (Ak.cons (hl _ rfl).v Ak.nil))))))⟩
  · show (false || !inBD 1 3 (.int ((sp.map D.int).length))) = false
    rw [b1]; rfl
  · show (!isRowD a ((sp.map D.int).length) (rowT sp)) = false
    rw [b2]; rfl
/-! ### renamed -/
def orderOk (w : Int) : D → Bool
  | .lst ds => isRowD w w (.tup ds) && (match intsOf ds with
    | some ns => decide (w ≤ ((ddI ns).length : Int))
    | none => false)
  | _ => false
theorem ok2_tup {ds : List D} (h : Ok2 (.lst ds)) : Ok2 (.tup ds) := ⟨ok_tup, fun es e => h.few es (e.symm.imp (fun z => by cases z) (fun z => by cases z; rfl))⟩
theorem lenSet_ints {r : List Int} (h : r.length < 1000) : gLenSet (.lst (r.map D.int)) = some (.int (ddI r).length) := by
  show (intsOf (r.map D.int)).bind _ = _
  rw [intsOf_map]
  show (if r.length < 1000 then _ else _) = _
  rw [if_pos h]
theorem x_check_order {w : Int} {d : D} (h : Ok2 d) (hw : w ≤ 3) (ns : ∀ ms, d ≠ .scr ms) (n : orderOk w d = false) : Gx g_check_order [d, .int w] "BadOrder" none := by
  have ht := h.top
  cases d with
  | lst ds =>
    have o2 := ok2_tup h
    by_cases k : isRowD w w (.tup ds) = true
    · obtain ⟨r, e, h1, h2⟩ := isRow_inv k
      have e : ds = r.map D.int := by cases e; rfl
      subst e
      have n : (isRowD w w (rowT r) && (match intsOf (r.map D.int) with | some ns => decide (w ≤ ((ddI ns).length : Int)) | none => false)) = false := n
      rw [intsOf_map] at n
      have k' : isRowD w w (rowT r) = true := k
      rw [k', Bool.true_and] at n
      have n' : decide (w ≤ ((ddI r).length : Int)) = false := n
      have hl : gLenSet (.lst (r.map D.int)) = some (.int (ddI r).length) := lenSet_ints (by omega)
      refine Gx.ex ⟨_, S.ifT (Tv.to (by walk_at "ev_tv") ?_) rfl⟩
      show (false || (!isRowD w w (.tup (r.map D.int)) || decide (((ddI r).length : Int) < w))) = true
      rw [k]
      have : ((ddI r).length : Int) < w := by have := of_decide_eq_false n'; omega
      rw [decide_eq_true this]; rfl
    · rw [Bool.not_eq_true] at k
      refine Gx.ex ⟨_, S.ifT (Tv.to (Tv.or (b1 := false) (Tv.not (Tv.tr (Vv.rd (Vv.un (Vv.rd (Vv.var rfl)) (H1.isList ht rfl))) rfl)) fun _ => Tv.orT (Tv.to (by walk_at "ev_tv") ?_)) rfl) rfl⟩
      show (!isRowD w w (.tup ds)) = true
      rw [k]; rfl
  | scr ms => exact absurd rfl (ns ms)
  | _ => exact Gx.ex ⟨_, S.ifT (Tv.orT (Tv.notF (Tv.tr (Vv.rd (Vv.un (Vv.rd (Vv.var rfl)) (H1.isList ht rfl))) rfl))) rfl⟩
theorem dd_len {r : List Int} (h : r.Nodup) : (ddI r).length = r.length := by
  have pm : (ddI r).Perm r := (List.perm_ext_iff_of_nodup (dd_nodup r) h).mpr fun k => dd_mem r k
  exact pm.length_eq
theorem p_check_order {w : Int} {o : List Int} (hw : w ≤ 3) (l : (o.length : Int) = w) (hb : ∀ m ∈ o, 0 ≤ m ∧ m < w) (nd : o.Nodup) : Gv g_check_order [.lst (o.map D.int), .int w] .non := by
  have o2 : Ok2 (rowT o) := ok2_row (by omega)
  have o2' : Ok2 (.tup (o.map D.int)) := o2
  have hl : gLenSet (.lst (o.map D.int)) = some (.int (ddI o).length) := lenSet_ints (by omega)
  have k : isRowD w w (.tup (o.map D.int)) = true := row_true l hb
  refine Gv.nx ⟨_, S.ifF (Tv.to (by walk_at "ev_tv") ?_) rfl⟩
  show (false || (!isRowD w w (.tup (o.map D.int)) || decide (((ddI o).length : Int) < w))) = false
  rw [k, dd_len nd, decide_eq_false (by omega)]; rfl
def renR (rs : List (List Int)) (o : List Int) : List (List Int) := rs.map fun r => r.map (getI o)
theorem renR_ok {w a : Int} {rs : List (List Int)} {o : List Int} (h : RowsOk w a rs) (l : (o.length : Int) = w) (hb : ∀ m ∈ o, 0 ≤ m ∧ m < w) : RowsOk w a (renR rs o) := by
  refine ⟨fun x hx => ?_, by rw [renR, List.length_map]; exact h.few⟩
  obtain ⟨r, hr, rfl⟩ := List.mem_map.mp hx
  obtain ⟨h1, h2⟩ := h.all r hr
  refine ⟨by rw [List.length_map]; exact h1, fun m hm => ?_⟩
  obtain ⟨i, hi, rfl⟩ := List.mem_map.mp hm
  have := h2 i hi
  exact hb _ (getI_mem this.1 (by omega))
theorem p_renamed {w a : Int} {rs : List (List Int)} {o : List Int} (d : Dims w a) (h : RowsOk w a rs) (l : (o.length : Int) = w) (hb : ∀ m ∈ o, 0 ≤ m ∧ m < w) (nd : o.Nodup) : Gv g_Table_renamed [tabD w a rs, .lst (o.map D.int)] (tabD w a (sortR (renR rs o))) := by
  have ok := renR_ok h l hb
  have f := h.few
  have d3 := d.a3
  have hl : ∀ env : SEnv, env = [.im (tabD w a rs), .im (.lst (o.map D.int)), .no, .no] → Fv (eLc (eSeq (eFld "_rows" clsAll (eVar 0))) (tgN 2) eYes (eK (eU hTuple (eLc (eSeq (eVar 2)) (tgN 3) eYes (eK (eOp (h2 gIx) (eVar 1) (eVar 3))) [3]))) [2]) env (rowsT (renR rs o)) env := by
    rintro env rfl
    have := Fv.lcY (fe := eU hTuple (eLc (eSeq (eVar 2)) (tgN 3) eYes (eK (eOp (h2 gIx) (eVar 1) (eVar 3))) [3])) (fi := eSeq (eFld "_rows" clsAll (eVar 0))) (env := [.im (tabD w a rs), .im (.lst (o.map D.int)), .no, .no]) (vs := [2]) rowT rs (fun r => rowT (r.map (getI o))) (off_N (i := 2)) (by decide) (I.seqL (by walk_at "ev")) rfl (small (by omega)) fun r hr => by
      have hr1 := (h.all r hr).1
      refine ⟨_, rfl, Vv.to (Vv.un (Vv.rd (Fv.v (Fv.lcY D.int r (fun i => .int (getI o i)) off_N (by decide) (I.seqT (Vv.var rfl)) rfl (small (by omega)) fun i hi => ⟨_, rfl, ?_⟩))) H1.tupleL) ?_⟩
      · have := (h.all r hr).2 i hi
        exact Vv.op (Vv.rd (Vv.var rfl)) (Vv.rd (Vv.var rfl)) (HD.h2 (ix_lst this.1 (by omega)))
      · rw [rowT, List.map_map]; rfl
    have e : (rs.map fun r => rowT (r.map (getI o))) = (renR rs o).map rowT := by rw [renR, List.map_map]; rfl
    rw [e] at this
    exact this
  refine Gv.rt ?_
  show ∃ e1, b_Table_renamed [.im (tabD w a rs), .im (.lst (o.map D.int)), .no, .no] = .rt _ e1
  exact ⟨_, S.seq (S.ex (Vv.call (by walk_at "ev_ak") (p_check_order d.w3 l hb nd))) (S.ret (Vv.table d ok (Ak.cons (by walk_at "ev") (Ak.cons (by walk_at "ev") (Ak.cons (hl _ rfl).v Ak.nil)))))⟩
theorem x_renamed {w a : Int} {rs : List (List Int)} {d : D} (hw : w ≤ 3) (h : Ok2 d) (ns : ∀ ms, d ≠ .scr ms) (n : orderOk w d = false) : Gx g_Table_renamed [tabD w a rs, d] "BadOrder" none :=
  Gx.ex ⟨_, S.exc (S.exX (Xv.call (by walk_at "ev_ak") (x_check_order h hw ns n)))⟩
/-! ### one value, equal pairs -/
theorem x_init_w {dw da dr : D} (h : okAll (tyD dw) = true) (k : inBD 1 3 dw = false) : Gx g_Table___init__ [.obj "Table" [] [], dw, da, dr] "BadWidth" none :=
  Gx.ex ⟨_, S.exc (S.exX (Xv.call (by walk_at "ev_ak") (x_check_width h k)))⟩
theorem x_init_row {w a : Int} {d : D} (dm : Dims w a) (h : Ok2 d) (k : isRowD w a d = false) : Gx g_Table___init__ [.obj "Table" [] [], .int w, .int a, .lst [d]] "BadRow" (some ("number", .int 0)) := by
  have hfor : sFor (eEnum (eVar 3)) (tgT (tgsCons (tgN 4) (tgsCons (tgN 5) tgsNil))) (sIf (eNotT (eTr (eCall g_is_row [false, false, false] (eAK (eVar 5) (eAK (eVar 1) (eAK (eVar 2) eANil)))))) (sRaiseI "BadRow" "number" (eVar 4)) sNil) [.mu true (.obj "Table" [] []), .im (.int w), .im (.int a), .im (.lst [d]), .no, .no] =
      .ex "BadRow" (some ("number", .int 0)) [.mu true (.obj "Table" [] []), .im (.int w), .im (.int a), .im (.lst [d]), .im (.int 0), .im d] := by
    unfold sFor
    rw [sB_ok (I.enum (ds := [d]) (Vv.var rfl))]
    show forF _ _ [.tup [.int 0, d]] _ = _
    unfold forF
    have ht : tgT (tgsCons (tgN 4) (tgsCons (tgN 5) tgsNil)) (.tup [.int 0, d]) [.mu true (.obj "Table" [] []), .im (.int w), .im (.int a), .im (.lst [d]), .no, .no] = some [.mu true (.obj "Table" [] []), .im (.int w), .im (.int a), .im (.lst [d]), .im (.int 0), .im d] := rfl
    simp only [ht]
    have hb : sIf (eNotT (eTr (eCall g_is_row [false, false, false] (eAK (eVar 5) (eAK (eVar 1) (eAK (eVar 2) eANil)))))) (sRaiseI "BadRow" "number" (eVar 4)) sNil [.mu true (.obj "Table" [] []), .im (.int w), .im (.int a), .im (.lst [d]), .im (.int 0), .im d] = .ex "BadRow" (some ("number", .int 0)) [.mu true (.obj "Table" [] []), .im (.int w), .im (.int a), .im (.lst [d]), .im (.int 0), .im d] :=
      S.ifT (Tv.to (by walk_at "ev_tv") (by show (!isRowD w a d) = true; rw [k]; rfl)) (S.raiseI (Vv.var rfl) rfl)
    simp only [hb]
  refine Gx.ex ?_
  show ∃ e1, b_Table___init__ [.mu true (.obj "Table" [] []), .im (.int w), .im (.int a), .im (.lst [d]), .no, .no] = .ex _ _ e1
  exact ⟨_, S.seq (S.ex (Vv.call (by walk_at "ev_ak") (p_check_width ok_int (inB_of dm.w1 dm.w3)))) (S.seq (S.ex (Vv.call (by walk_at "ev_ak") (p_check_arity ok_int (inB_of dm.a1 dm.a3)))) (S.seq (S.ifF (Tv.to (by walk_at "ev_tv") rfl) rfl) (S.exc hfor)))⟩
theorem p_only {w i : Int} (w1 : 1 ≤ w) (w3 : w ≤ 3) (hi : 0 ≤ i ∧ i < w) : Gv g_Table_only [.int w, .int i] (tabD w 1 (sortR [[i]])) := by
  have d : Dims w 1 := ⟨w1, w3, by decide, by decide⟩
  have ok : RowsOk w 1 [[i]] := ⟨fun r hr => by
    rw [List.mem_singleton.mp hr]
    exact ⟨rfl, fun m hm => by rw [List.mem_singleton.mp hm]; exact hi⟩, by show 1 < 64; decide⟩
  exact Gv.rt ⟨_, S.ret (Vv.table d ok (Ak.cons (by walk_at "ev") (Ak.cons (by walk_at "ev") (Ak.cons (Vv.to (by walk_at "ev") (by rfl)) Ak.nil))))⟩
theorem x_only_w {d v : D} (h : okAll (tyD d) = true) (k : inBD 1 3 d = false) : Gx g_Table_only [d, v] "BadWidth" none :=
  Gx.ex ⟨_, S.retX (Xv.mk (Ak.cons (by walk_at "ev") (Ak.cons (by walk_at "ev") (Ak.cons (by walk_at "ev") Ak.nil))) (x_init_w h k))⟩
theorem x_only {w : Int} {v : D} (w1 : 1 ≤ w) (w3 : w ≤ 3) (h : okAll (tyD v) = true) (k : inBD 0 (w - 1) v = false) : Gx g_Table_only [.int w, v] "BadRow" (some ("number", .int 0)) := by
  have o2 : Ok2 (.tup [v]) := ⟨ok_tup, fun ds e => by
    have e : ds = [v] := by
      rcases e with e | e
      · cases e; rfl
      · cases e
    subst e
    exact ⟨by show 1 ≤ 1000; decide, fun p hp => by rw [List.mem_singleton.mp hp]; exact h⟩⟩
  have hr : isRowD w 1 (.tup [v]) = false := by
    show (decide (((1 : Nat) : Int) = 1) && ([v].all (inBD 0 (w - 1)))) = false
    simp [k]
  exact Gx.ex ⟨_, S.retX (Xv.mk (Ak.cons (by walk_at "ev") (Ak.cons (by walk_at "ev") (Ak.cons (by walk_at "ev") Ak.nil))) (x_init_row ⟨w1, w3, by decide, by decide⟩ o2 hr))⟩
def eqR (w : Int) : List (List Int) := (List.range w.toNat).map fun (v : Nat) => [(v : Int), (v : Int)]
theorem p_equal {w : Int} (w1 : 1 ≤ w) (w3 : w ≤ 3) : Gv g_Table_equal [.int w] (tabD w 2 (sortR (eqR w))) := by
  have d : Dims w 2 := ⟨w1, w3, by decide, by decide⟩
  have ok : RowsOk w 2 (eqR w) := ⟨fun r hr => by
    obtain ⟨v, hv, rfl⟩ := List.mem_map.mp hr
    have := List.mem_range.mp hv
    exact ⟨rfl, fun m hm => by
      have : m = (v : Int) := by simpa using hm
      omega⟩, by rw [eqR, List.length_map, List.length_range]; omega⟩
  have hl : ∀ env : SEnv, env = [.im (.int w), .no] → Fv (eLc (eRng1 (eVar 0)) (tgN 1) eYes (eK (eTup (eCons (eVar 1) (eCons (eVar 1) eNil)))) [1]) env (rowsT (eqR w)) env := by
    rintro env rfl
    have := Fv.lcY (fe := eTup (eCons (eVar 1) (eCons (eVar 1) eNil))) (fi := eRng1 (eVar 0)) (env := [.im (.int w), .no]) (vs := [1]) (fun (k : Nat) => D.int k) (List.range w.toNat) (fun k => rowT [(k : Int), (k : Int)]) (off_N (i := 1)) (by decide) (I.rng1 (Vv.rd (Vv.var rfl)) (by omega)) rfl (small (by rw [List.length_range]; omega)) fun k hk => ⟨_, rfl, Vv.to (by walk_at "ev") (by rfl)⟩
    have e : ((List.range w.toNat).map fun (k : Nat) => rowT [(k : Int), (k : Int)]) = (eqR w).map rowT := by rw [eqR, List.map_map]; rfl
    rw [e] at this
    exact this
  refine Gv.rt ?_
  show ∃ e1, b_Table_equal [.im (.int w), .no] = .rt _ e1
  exact ⟨_, S.seq (S.ex (Vv.call (by walk_at "ev_ak") (p_check_width ok_int (inB_of w1 w3)))) (S.ret (Vv.table d ok (Ak.cons (by walk_at "ev") (Ak.cons (by walk_at "ev") (Ak.cons (hl _ rfl).v Ak.nil)))))⟩
theorem x_equal {d : D} (h : okAll (tyD d) = true) (k : inBD 1 3 d = false) : Gx g_Table_equal [d] "BadWidth" none :=
  Gx.ex ⟨_, S.exc (S.exX (Xv.call (by walk_at "ev_ak") (x_check_width h k)))⟩
/-! What is drawn. -/
theorem S.sub {fe fi : SEnv → Out Rv} {env e1 : SEnv} {i j : Nat} {k : Int} {b : Bool} {d : D} {ds : List D} (h0 : (lstAt env i).isSome = true) (he : Vv fe env d e1) (hi : Rd fi e1 (.int k) e1) (hl : e1[i]? = some (.mu b (.lst ds))) (hj : ixN ds.length k = some j) : sSub i fe fi env = .nx (e1.set i (.mu b (.lst (ds.set j d)))) := by
  obtain ⟨r, x, y⟩ := hi
  unfold sSub
  rw [if_pos h0, sB_ok he.k]
  show sB fi _ e1 = _
  rw [sB_ok x]
  unfold sSub1
  have : lstAt e1 i = some (b, ds) := by unfold lstAt; rw [hl]
  simp only [y, this, hj]
theorem S.subE {fe fi : SEnv → Out Rv} {env e1 e2 : SEnv} {i j : Nat} {k : Int} {b : Bool} {d : D} {ds : List D} (h0 : (lstAt env i).isSome = true) (he : Vv fe env d e1) (hi : Rd fi e1 (.int k) e1) (hl : e1[i]? = some (.mu b (.lst ds))) (hj : ixN ds.length k = some j) (e : e1.set i (.mu b (.lst (ds.set j d))) = e2) : sSub i fe fi env = .nx e2 := by
  subst e; exact S.sub h0 he hi hl hj
abbrev Fd := Int × Int
def feedD (f : Fd) : D := .lst [.int f.1, .int f.2]
def fstep (s : Int) : Int := (s * 6364136223846793005 + 1442695040888963407) % 2305843009213693951
def takeV (f : Fd) (m : Int) : Int := if 0 < f.1 then f.1 % m else (fstep f.2 / 65536) % m
def takeN (f : Fd) (m : Int) : Fd := if 0 < f.1 then (f.1 / m, f.2) else (f.1, fstep f.2)
theorem takeV_lt {f : Fd} {m : Int} (h : 0 < m) : 0 ≤ takeV f m ∧ takeV f m < m := by
  unfold takeV
  split
  · exact ⟨Int.emod_nonneg _ (by omega), Int.emod_lt_of_pos _ h⟩
  · exact ⟨Int.emod_nonneg _ (by omega), Int.emod_lt_of_pos _ h⟩
theorem bMul_r {i j : Int} (h : -(2 ^ 64) < j ∧ j < 2 ^ 64) : bMul i j = true := decide_eq_true (.inr h)
theorem bMul_l {i j : Int} (h : -(2 ^ 64) < i ∧ i < 2 ^ 64) : bMul i j = true := decide_eq_true (.inl h)
theorem p_take {f : Fd} {m : Int} (h : 0 < m) (h2 : m < 1073741824) : Gp g__law_take [feedD f, .int m] (.int (takeV f m)) (feedD (takeN f m)) := by
  obtain ⟨a, b⟩ := f
  refine Gp.rt (b0 := true) ?_
  show ∃ e1, b__law_take [.mu true (.lst [.int a, .int b]), .im (.int m), .no] = .rt _ (.mu true (feedD (takeN (a, b) m)) :: e1)
  by_cases c : 0 < a
  · refine ⟨[.im (.int m), .im (.int (a % m))], ?_⟩
    have e1 : takeV (a, b) m = a % m := if_pos c
    have e2 : takeN (a, b) m = (a / m, b) := if_pos c
    rw [e1, e2]
    refine S.rt (S.ifT (Tv.to (by walk_at "ev_tv") (decide_eq_true c)) (S.seq (S.asg (Vv.op (Vv.rd (Vv.un (Vv.rd (Vv.op (Rd.mu rfl) (Vv.rd Vv.cst) (HD.h2 (by rfl)))) (H1.h1 (by rfl)))) (Vv.rd (Vv.var rfl)) (HD.mod h)) (by rfl)) (S.seq (S.sub rfl (Vv.op (Vv.rd (Vv.op (Rd.mu rfl) (Vv.rd Vv.cst) (HD.h2 (by rfl)))) (Vv.rd (Vv.var rfl)) (HD.div ⟨h, h2⟩)) (Vv.rd Vv.cst) (by rfl) (by rfl)) (S.ret (Vv.var rfl)))))
  · refine ⟨[.im (.int m), .no], ?_⟩
    have e1 : takeV (a, b) m = (fstep b / 65536) % m := if_neg c
    have e2 : takeN (a, b) m = (a, fstep b) := if_neg c
    rw [e1, e2]
    refine S.seq (S.ifF (Tv.to (by walk_at "ev_tv") (decide_eq_false c)) rfl) (S.seq (e1 := [.mu true (.lst [.int a, .int (fstep b)]), .im (.int m), .no]) (S.subE rfl (Vv.op (Vv.rd (Vv.un (Vv.rd (Vv.op (Vv.rd (Vv.op (Vv.rd (Vv.op (Rd.mu rfl) (Vv.rd Vv.cst) (HD.h2 (by rfl)))) (Vv.rd Vv.cst) (HD.mulI (bMul_r (by decide))))) (Vv.rd Vv.cst) HD.addI)) (H1.h1 (by rfl)))) (Vv.rd Vv.cst) (HD.mod (by decide))) (Vv.rd Vv.cst) (by rfl) (by rfl) (by rfl)) (S.ret (Vv.op (Vv.rd (Vv.un (Vv.rd (Vv.op (Vv.rd (Vv.op (Rd.mu (by rfl)) (Vv.rd Vv.cst) (HD.h2 (by rfl)))) (Vv.rd Vv.cst) (HD.div (by decide)))) (H1.h1 (by rfl)))) (Vv.rd (Vv.var rfl)) (HD.mod h))))
/-- a draw in an expression -/
theorem Vv.take {env : SEnv} {i : Nat} {b : Bool} {f : Fd} {m : Int} {fa : SEnv → Out Rv} (h0 : env[i]? = some (.mu b (feedD f))) (ha : Vv fa env (.int m) env) (h : 0 < m) (h2 : m < 1073741824) : Vv (eCall g__law_take [true, false] (eAP (eVar i) (eAK fa eANil))) env (.int (takeV f m)) (env.set i (.mu b (feedD (takeN f m)))) :=
  Vv.io h0 (Ak.cons ha Ak.nil) (p_take h h2)
/-! ### one of a list -/
def pickV (f : Fd) (ds : List D) : D := ds.getD (takeV f ds.length).toNat .non
theorem pick_mem {f : Fd} {ds : List D} (h : ds ≠ []) : pickV f ds ∈ ds := by
  have hl : 0 < ds.length := List.length_pos_iff.mpr h
  obtain ⟨h1, h2⟩ := takeV_lt (f := f) (m := (ds.length : Int)) (by omega)
  have hk : (takeV f ds.length).toNat < ds.length := by omega
  rw [pickV, List.getD_eq_getElem?_getD, List.getElem?_eq_getElem hk]
  exact List.getElem_mem hk
theorem atI_pick {f : Fd} {ds : List D} (h : ds ≠ []) : L2.atI ds (takeV f ds.length) = some (pickV f ds) := by
  have hl : 0 < ds.length := List.length_pos_iff.mpr h
  obtain ⟨h1, h2⟩ := takeV_lt (f := f) (m := (ds.length : Int)) (by omega)
  obtain ⟨k, hk⟩ : ∃ k : Nat, takeV f ds.length = k := ⟨(takeV f ds.length).toNat, by omega⟩
  have hk' : k < ds.length := by omega
  unfold L2.atI
  have e : ixN ds.length (takeV f ds.length) = some k := by
    unfold ixN
    rw [hk, if_pos (by omega), if_pos (by omega)]
    simp
  rw [e]
  show ds[k]? = _
  rw [List.getElem?_eq_getElem hk', pickV, hk, Int.toNat_natCast, List.getD_eq_getElem?_getD, List.getElem?_eq_getElem hk']
  rfl
theorem p_pick {f : Fd} {ds : List D} (h : ds ≠ []) (l : ds.length ≤ 1000) : Gp g__law_pick [feedD f, .lst ds] (pickV f ds) (feedD (takeN f ds.length)) := by
  have hl : 0 < ds.length := List.length_pos_iff.mpr h
  refine Gp.rt (b0 := true) ?_
  show ∃ e1, b__law_pick [.mu true (feedD f), .im (.lst ds)] = .rt _ (.mu true (feedD (takeN f ds.length)) :: e1)
  exact ⟨[.im (.lst ds)], S.ret (Vv.op2 (Vv.var rfl) (Vv.rd (Vv.take (b := true) (f := f) (m := (ds.length : Int)) rfl (Vv.un (Vv.rd (Vv.var rfl)) (H1.h1 rfl)) (by omega) (by omega))) (HD.h2 (atI_pick h)))⟩
theorem Vv.pick {env : SEnv} {i : Nat} {b : Bool} {f : Fd} {ds : List D} {fa : SEnv → Out Rv} (h0 : env[i]? = some (.mu b (feedD f))) (ha : Vv fa env (.lst ds) env) (h : ds ≠ []) (l : ds.length ≤ 1000) : Vv (eCall g__law_pick [true, false] (eAP (eVar i) (eAK fa eANil))) env (pickV f ds) (env.set i (.mu b (feedD (takeN f ds.length)))) :=
  Vv.io h0 (Ak.cons ha Ak.nil) (p_pick h l)
/-! ### rows -/
def rowV (f : Fd) (w : Int) : Nat → List Int
  | 0 => []
  | n + 1 => takeV f w :: rowV (takeN f w) w n
def rowN (f : Fd) (w : Int) : Nat → Fd
  | 0 => f
  | n + 1 => rowN (takeN f w) w n
theorem rowV_len (w : Int) : ∀ (n : Nat) (f : Fd), (rowV f w n).length = n
  | 0, _ => rfl
  | n + 1, f => by rw [rowV, List.length_cons, rowV_len w n]
theorem rowV_bd {w : Int} (h : 0 < w) : ∀ (n : Nat) (f : Fd), ∀ m ∈ rowV f w n, 0 ≤ m ∧ m < w
  | 0, _, m, hm => by cases hm
  | n + 1, f, m, hm => by
    rcases List.mem_cons.mp hm with rfl | hm
    · exact takeV_lt h
    · exact rowV_bd h n _ m hm
theorem run_row (w : Int) : ∀ (xs : List Nat) (f : Fd), runY (fun f _ => D.int (takeV f w)) (fun f _ => takeN f w) f xs = (rowV f w xs.length).map D.int ∧ runS (fun f (_ : Nat) => takeN f w) f xs = rowN f w xs.length
  | [], f => ⟨rfl, rfl⟩
  | x :: xs, f => by
    obtain ⟨h1, h2⟩ := run_row w xs (takeN f w)
    refine ⟨?_, h2⟩
    show D.int (takeV f w) :: runY _ _ (takeN f w) xs = _
    rw [h1]; rfl
theorem p_drow {f : Fd} {w a : Int} (hw : 0 < w) (w3 : w ≤ 3) (ha : 0 ≤ a) (a3 : a ≤ 1000) : Gp g__law_drawn_row [feedD f, .int w, .int a] (rowT (rowV f w a.toNat)) (feedD (rowN f w a.toNat)) := by
  refine Gp.rt (b0 := true) ?_
  show ∃ e1, b__law_drawn_row [.mu true (feedD f), .im (.int w), .im (.int a), .no] = .rt _ (.mu true (feedD (rowN f w a.toNat)) :: e1)
  have key := Fv.lcS (fi := eRng1 (eVar 2)) (tg := tgN 3) (fe := eCall g__law_take [true, false] (eAP (eVar 0) (eAK (eVar 1) eANil))) (vs := [3]) (env := [.mu true (feedD f), .im (.int w), .im (.int a), .no]) (fun (k : Nat) => D.int k) (List.range a.toNat) (fun f _ => D.int (takeV f w)) (fun f _ => takeN f w) (fun f => [.mu true (feedD f), .im (.int w), .im (.int a), .no]) f
    (I.rng1 (Vv.rd (Vv.var rfl)) (by omega)) rfl (small (by rw [List.length_range]; omega)) (fun s x hx => ⟨_, _, rfl, Vv.take (b := true) (f := s) rfl (Vv.var rfl) hw (by omega), rfl⟩) (fun s => rfl)
  obtain ⟨h1, h2⟩ := run_row w (List.range a.toNat) f
  rw [h1, h2, List.length_range] at key
  exact ⟨_, S.ret (Vv.un (Vv.rd key.v) H1.tupleL)⟩
/-! Drawn rows, known tables. -/
def rowsV (f : Fd) (w : Int) (a : Nat) : Nat → List (List Int)
  | 0 => []
  | n + 1 => rowV f w a :: rowsV (rowN f w a) w a n
def rowsN (f : Fd) (w : Int) (a : Nat) : Nat → Fd
  | 0 => f
  | n + 1 => rowsN (rowN f w a) w a n
theorem rowsV_len (w : Int) (a : Nat) : ∀ (n : Nat) (f : Fd), (rowsV f w a n).length = n
  | 0, _ => rfl
  | n + 1, f => by rw [rowsV, List.length_cons, rowsV_len w a n]
theorem rowsV_ok {w : Int} {a : Nat} (h : 0 < w) : ∀ (n : Nat) (f : Fd), ∀ r ∈ rowsV f w a n, (r.length : Int) = a ∧ ∀ m ∈ r, 0 ≤ m ∧ m < w
  | 0, _, r, hr => by cases hr
  | n + 1, f, r, hr => by
    rcases List.mem_cons.mp hr with rfl | hr
    · exact ⟨by rw [rowV_len], rowV_bd h a f⟩
    · exact rowsV_ok h n _ r hr
theorem run_rows (w : Int) (a : Nat) : ∀ (xs : List Nat) (f : Fd), runY (fun f _ => rowT (rowV f w a)) (fun f _ => rowN f w a) f xs = (rowsV f w a xs.length).map rowT ∧ runS (fun f (_ : Nat) => rowN f w a) f xs = rowsN f w a xs.length
  | [], f => ⟨rfl, rfl⟩
  | x :: xs, f => by
    obtain ⟨h1, h2⟩ := run_rows w a xs (rowN f w a)
    refine ⟨?_, h2⟩
    show rowT (rowV f w a) :: runY _ _ (rowN f w a) xs = _
    rw [h1]; rfl
/-- how many -/
def manyV (f : Fd) (most : Int) : Nat := (takeV f (most + 1)).toNat
theorem p_drows {f : Fd} {w a most : Int} (hw : 0 < w) (w3 : w ≤ 3) (ha : 0 ≤ a) (a3 : a ≤ 1000) (h0 : 0 ≤ most) (hm : most ≤ 500) : Gp g__law_drawn_rows [feedD f, .int w, .int a, .int most] (rowsT (rowsV (takeN f (most + 1)) w a.toNat (manyV f most))) (feedD (rowsN (takeN f (most + 1)) w a.toNat (manyV f most))) := by
  refine Gp.rt (b0 := true) ?_
  show ∃ e1, b__law_drawn_rows [.mu true (feedD f), .im (.int w), .im (.int a), .im (.int most), .no] = .rt _ (.mu true (feedD (rowsN (takeN f (most + 1)) w a.toNat (manyV f most))) :: e1)
  obtain ⟨t1, t2⟩ := takeV_lt (f := f) (m := most + 1) (by omega)
  have key := Fv.lcS (fi := eRng1 (eCall g__law_take [true, false] (eAP (eVar 0) (eAK (eOp hAdd (eVar 3) (eC (.int (1)))) eANil)))) (tg := tgN 4) (fe := eCall g__law_drawn_row [true, false, false] (eAP (eVar 0) (eAK (eVar 1) (eAK (eVar 2) eANil)))) (vs := [4]) (env := [.mu true (feedD f), .im (.int w), .im (.int a), .im (.int most), .no]) (fun (k : Nat) => D.int k) (List.range (manyV f most)) (fun f _ => rowT (rowV f w a.toNat)) (fun f _ => rowN f w a.toNat) (fun f => [.mu true (feedD f), .im (.int w), .im (.int a), .im (.int most), .no]) (takeN f (most + 1))
    (I.rng1 (Vv.rd (Vv.take (b := true) (f := f) rfl (by walk_at "ev") (by omega) (by omega))) (by omega)) rfl (small (by rw [List.length_range]; unfold manyV; omega)) (fun s x hx => ⟨_, _, rfl, Vv.io (bb := true) rfl (Ak.cons (Vv.var rfl) (Ak.cons (Vv.var rfl) Ak.nil)) (p_drow hw w3 ha a3), rfl⟩) (fun s => rfl)
  obtain ⟨h1, h2⟩ := run_rows w a.toNat (List.range (manyV f most)) (takeN f (most + 1))
  rw [h1, h2, List.length_range] at key
  exact ⟨_, S.ret key.v⟩
theorem drows_ok {f : Fd} {w a most : Int} (d : Dims w a) (h0 : 0 ≤ most) (hm : most ≤ 60) : RowsOk w a (rowsV (takeN f (most + 1)) w a.toNat (manyV f most)) := by
  obtain ⟨t1, t2⟩ := takeV_lt (f := f) (m := most + 1) (by omega)
  refine ⟨fun r hr => ?_, by rw [rowsV_len]; unfold manyV; omega⟩
  have := rowsV_ok (by have := d.w1; omega) _ _ r hr
  have d1 := d.a1
  refine ⟨by rw [this.1]; omega, this.2⟩
/-! ### all rows, known tables: so few that they may be looked at -/
def knownOf : D → Option (List (Int × List (List Int)))
  | .lst ds => ds.mapM fun d => match d with
    | .lst [.int a, .lst rs] => (rowsOf rs).map fun r => (a, r)
    | _ => none
  | _ => none
/-- told rows -/
def okRows (o : Out D) (rs : List (List Int)) : Bool := match o with
  | .ok (.lst ds) _ => rowsOf ds == some rs
  | _ => false
theorem okRows_inv {o : Out D} {rs : List (List Int)} (h : okRows o rs = true) : ∃ ea, o = .ok (rowsT rs) ea := by
  unfold okRows at h
  split at h
  · have := eq_of_beq h
    rw [rowsOf_inv this]
    exact ⟨_, rfl⟩
  · cases h
def okRowsG (o : Option (List D)) (rs : List (List Int)) : Bool := match o with
  | some ds => rowsOf ds == some rs
  | none => false
theorem okRowsG_inv {o : Option (List D)} {rs : List (List Int)} (h : okRowsG o rs = true) : o = some (rs.map rowT) := by
  unfold okRowsG at h
  split at h
  · have := eq_of_beq h
    rw [rowsOf_inv this]
  · cases h
/-- so many rows there are -/
def cap (w a : Int) : Nat := (allRows w a.toNat).length
def okKnown (w : Int) (o : Out D) : Bool := match o with
  | .ok d _ => (match knownOf d with
    | some ks => decide (ks ≠ []) && decide (ks.length ≤ 100) && ks.all fun (a, rs) => decide (1 ≤ a) && decide (a ≤ 3) && decide (rs.length < 64) && decide (rs.length ≤ cap w a) && rs.all fun r => decide ((r.length : Int) = a) && r.all fun m => decide (0 ≤ m) && decide (m < w)
    | none => false)
  | _ => false
theorem len_le {α : Type} [DecidableEq α] : ∀ {l m : List α}, l.Nodup → (∀ x ∈ l, x ∈ m) → l.length ≤ m.length
  | [], _, _, _ => Nat.zero_le _
  | x :: l, m, h, k => by
    obtain ⟨h1, h2⟩ := List.nodup_cons.mp h
    have hx := k x (List.mem_cons_self ..)
    have ih := len_le (m := m.erase x) h2 fun y hy => (List.mem_erase_of_ne (fun e : y = x => h1 (by rw [← e]; exact hy))).mpr (k y (List.mem_cons_of_mem _ hy))
    rw [List.length_erase_of_mem hx] at ih
    have := List.length_pos_of_mem hx
    rw [List.length_cons]; omega
theorem sortR_cap {w a : Int} {rs : List (List Int)} (d : Dims w a) (h : RowsOk w a rs) : (sortR rs).length ≤ cap w a :=
  len_le (sortR_nodup d h) fun r hr => by
    have := h.all r ((sortR_mem r rs).mp hr)
    exact row_in _ r (by omega) this.2
theorem k_B : ([1, 2, 3] : List Int).all (fun w => okKnown w (g__law_known_tables [.int w])) = true := by decide +kernel
theorem all_B : ([1, 2, 3] : List Int).all (fun w => ([1, 2, 3] : List Nat).all fun n => okRows (g__law_all [.int w, .int n]) (allRows w n)) = true := by decide +kernel
theorem tuples_B : ([1, 2, 3] : List Int).all (fun w => ([1, 2, 3] : List Nat).all fun n => okRowsG (g_all_tuples [.int w, .int n]) (allRows w n)) = true := by decide +kernel
theorem w123 {w : Int} (h1 : 1 ≤ w) (h3 : w ≤ 3) : w ∈ ([1, 2, 3] : List Int) := by
  have : w = 1 ∨ w = 2 ∨ w = 3 := by omega
  rcases this with rfl | rfl | rfl <;> decide
theorem n123 {n : Nat} (h1 : 1 ≤ n) (h3 : n ≤ 3) : n ∈ ([1, 2, 3] : List Nat) := by
  have : n = 1 ∨ n = 2 ∨ n = 3 := by omega
  rcases this with rfl | rfl | rfl <;> decide
theorem p_law_all {w : Int} {n : Nat} (h1 : 1 ≤ w) (h3 : w ≤ 3) (n1 : 1 ≤ n) (n3 : n ≤ 3) : Gv g__law_all [.int w, .int n] (rowsT (allRows w n)) :=
  okRows_inv (List.all_eq_true.mp (List.all_eq_true.mp all_B w (w123 h1 h3)) n (n123 n1 n3))
theorem p_tuples {w : Int} {n : Nat} (h1 : 1 ≤ w) (h3 : w ≤ 3) (n1 : 1 ≤ n) (n3 : n ≤ 3) : g_all_tuples [.int w, .int n] = some ((allRows w n).map rowT) :=
  okRowsG_inv (List.all_eq_true.mp (List.all_eq_true.mp tuples_B w (w123 h1 h3)) n (n123 n1 n3))
def tabL (a : Int) (rs : List (List Int)) : D := .lst [.int a, rowsT rs]
theorem known_inv : ∀ {ds : List D} {ks : List (Int × List (List Int))}, (ds.mapM fun d => match d with
    | .lst [.int a, .lst rs] => (rowsOf rs).map fun r => (a, r)
    | _ => none) = some ks → ds = ks.map fun k => tabL k.1 k.2
  | [], ks, h => by
    rw [List.mapM_nil] at h
    cases h; rfl
  | d :: ds, ks, h => by
    rw [List.mapM_cons] at h
    obtain ⟨k, hk, h⟩ := Option.bind_eq_some_iff.mp h
    obtain ⟨ks', hks, h⟩ := Option.bind_eq_some_iff.mp h
    cases h
    rw [List.map_cons, known_inv hks]
    congr 1
    split at hk
    · rename_i a rs
      obtain ⟨r, hr, e⟩ := Option.map_eq_some_iff.mp hk
      cases e
      rw [rowsOf_inv hr]; rfl
    · cases hk
theorem okKnown_inv {w : Int} {o : Out D} (h1 : 1 ≤ w) (h3 : w ≤ 3) (k : okKnown w o = true) : ∃ ks : List (Int × List (List Int)), (∃ ea, o = .ok (.lst (ks.map fun k => tabL k.1 k.2)) ea) ∧ ks ≠ [] ∧ ks.length ≤ 100 ∧ ∀ k ∈ ks, Dims w k.1 ∧ RowsOk w k.1 k.2 ∧ k.2.length ≤ cap w k.1 := by
  unfold okKnown at k
  split at k
  · rename_i d ea
    split at k
    · rename_i ks hk
      simp only [Bool.and_eq_true, decide_eq_true_eq, List.all_eq_true] at k
      obtain ⟨⟨k1, k2⟩, k3⟩ := k
      cases d with
      | lst ds =>
        have := known_inv hk
        subst this
        refine ⟨ks, ⟨_, rfl⟩, k1, k2, fun q hq => ?_⟩
        obtain ⟨a, rs⟩ := q
        have z := k3 (a, rs) hq
        simp only [Bool.and_eq_true, decide_eq_true_eq, List.all_eq_true] at z
        obtain ⟨⟨⟨⟨z1, z2⟩, z3⟩, z5⟩, z4⟩ := z
        exact ⟨⟨h1, h3, z1, z2⟩, ⟨fun r hr => z4 r hr, z3⟩, z5⟩
      | _ => cases hk
    · cases k
  · cases k
theorem p_known {w : Int} (h1 : 1 ≤ w) (h3 : w ≤ 3) : ∃ ks : List (Int × List (List Int)), Gv g__law_known_tables [.int w] (.lst (ks.map fun k => tabL k.1 k.2)) ∧ ks ≠ [] ∧ ks.length ≤ 100 ∧ ∀ k ∈ ks, Dims w k.1 ∧ RowsOk w k.1 k.2 ∧ k.2.length ≤ cap w k.1 :=
  okKnown_inv h1 h3 (List.all_eq_true.mp k_B w (w123 h1 h3))
theorem p_full {w : Int} {n : Nat} (h1 : 1 ≤ w) (h3 : w ≤ 3) (n1 : 1 ≤ n) (n3 : n ≤ 3) (ok : RowsOk w n (allRows w n)) : Gv g_Table_full [.int w, .int n] (tabD w n (sortR (allRows w n))) := by
  have d : Dims w n := ⟨h1, h3, by omega, by omega⟩
  refine Gv.rt ?_
  show ∃ e1, b_Table_full [.im (.int w), .im (.int n)] = .rt _ e1
  exact ⟨_, S.seq (S.ex (Vv.call (by walk_at "ev_ak") (p_check_width ok_int (inB_of h1 h3)))) (S.seq (S.ex (Vv.call (by walk_at "ev_ak") (p_check_arity ok_int (inB_of d.a1 d.a3)))) (S.ret (Vv.table d ok (Ak.cons (by walk_at "ev") (Ak.cons (by walk_at "ev") (Ak.cons (Vv.listG (by walk_at "ev_av") rfl (p_tuples h1 h3 n1 n3)) Ak.nil))))))⟩
theorem x_full_w {d da : D} (h : okAll (tyD d) = true) (k : inBD 1 3 d = false) : Gx g_Table_full [d, da] "BadWidth" none :=
  Gx.ex ⟨_, S.exc (S.exX (Xv.call (by walk_at "ev_ak") (x_check_width h k)))⟩
theorem x_full_a {w : Int} {d : D} (h1 : 1 ≤ w) (h3 : w ≤ 3) (h : okAll (tyD d) = true) (k : inBD 1 3 d = false) : Gx g_Table_full [.int w, d] "BadArity" none :=
  Gx.ex ⟨_, S.seq (S.ex (Vv.call (by walk_at "ev_ak") (p_check_width ok_int (inB_of h1 h3)))) (S.exc (S.exX (Xv.call (by walk_at "ev_ak") (x_check_arity h k))))⟩
theorem rowsOk_all {w : Int} {n : Nat} (h1 : 1 ≤ w) (h3 : w ≤ 3) (n1 : 1 ≤ n) (n3 : n ≤ 3) : RowsOk w n (allRows w n) := by
  have : ([1, 2, 3] : List Int).all (fun w => ([1, 2, 3] : List Nat).all fun n => decide ((allRows w n).length < 64) && (allRows w n).all fun r => decide (r.length = n) && r.all fun m => decide (0 ≤ m) && decide (m < w)) = true := by decide +kernel
  have k := List.all_eq_true.mp (List.all_eq_true.mp this w (w123 h1 h3)) n (n123 n1 n3)
  simp only [Bool.and_eq_true, decide_eq_true_eq, List.all_eq_true] at k
  exact ⟨fun r hr => ⟨by rw [(k.2 r hr).1], (k.2 r hr).2⟩, k.1⟩
/-! The feed, drawn tables; what the law looks at. -/
theorem Gp.of {fs : SEnv → SO} {n : Nat} {d0 d1 d : D} {b0 : Bool} {ms : List Bool} {ds : List D} {env e rest : SEnv} (he : mkE (true :: ms) (d0 :: ds) ++ List.replicate (n - (ms.length + 1)) .no = env) (h1 : fs env = .rt d e) (h2 : e = .mu b0 d1 :: rest) : Gp (gOf fs (true :: ms) n) (d0 :: ds) d d1 := Gp.rt ⟨rest, by rw [he, h1, h2]⟩
theorem Vv.callB2 {fa fb : SEnv → Out Rv} {env e1 : SEnv} {g : Int → Int → Int} {i j : Int} (ha : Rd fa env (.int i) e1) (hb : Rd fb e1 (.int j) e1) : Vv (eCall2 (EV.h2 (gI (fun _ _ => true) g)) fa fb) env (.int (g i j)) e1 := Vv.op ha hb (HD.h2 rfl)
theorem Fv.lst {g : SEnv → Out (List D)} {env e1 : SEnv} {ds : List D} (h : Av g env ds e1) (l : ds.length ≤ sizeLine) : Fv (eLst g) env (.lst ds) e1 := by
  unfold Fv eLst
  rw [eB_ok h]
  exact if_pos l
theorem p_feed (ns : List Int) (k : Nat) : ∃ f, Gv g__law_feed [.scr ns, .int k] (feedD f) := by
  have hc : ∃ c : Int, Vv (eIf (eTv (eOp hLt (eVar 1) (eU (h1 gLen) (eVar 0)))) (eOp (EV.h2 gIx) (eVar 0) (eVar 1)) (eOp hAdd (eOp hMul (eC (.int (61))) (eVar 1)) (eC (.int (17))))) [.im (.scr ns), .im (.int k), .no, .no, .no] (.int c) [.im (.scr ns), .im (.int k), .no, .no, .no] := by
    by_cases h : k < ns.length
    · refine ⟨ns[k], Vv.ifT (Tv.to (by walk_at "ev_tv") (decide_eq_true (by show (k : Int) < (ns.length : Int); omega))) (Vv.op (Vv.rd (Vv.var rfl)) (Vv.rd (Vv.var rfl)) (HD.h2 ?_))⟩
      show (L2.atI ns (k : Int)).map D.int = _
      unfold L2.atI
      have e : ixN ns.length (k : Int) = some k := by
        unfold ixN
        rw [if_pos (by omega), if_pos (by omega)]
        simp
      rw [e]
      show (ns[k]?).map D.int = _
      rw [List.getElem?_eq_getElem h]; rfl
    · exact ⟨_, Vv.ifF (Tv.to (by walk_at "ev_tv") (decide_eq_false (by show ¬ (k : Int) < (ns.length : Int); omega))) (Vv.op (Vv.rd (Vv.op (Vv.rd Vv.cst) (Vv.rd (Vv.var rfl)) (HD.mulI (bMul_l (by decide))))) (Vv.rd Vv.cst) HD.addI)⟩
  obtain ⟨c, hc⟩ := hc
  have key : ∃ d1 d2 e, b__law_feed [.im (.scr ns), .im (.int k), .no, .no, .no] = .rt (.lst [.int d1, .int d2]) e := ⟨_, _, _, (S.seqF (S.asg hc rfl) (S.seqF (S.asg (Vv.callB2 (Vv.rd Vv.cst) (Vv.rd (Vv.op (Vv.rd (Vv.un (Vv.rd (Vv.var rfl)) (H1.h1 rfl))) (Vv.rd (Vv.op (Vv.rd Vv.cst) (Vv.rd Vv.cst) (HD.pow (by decide)))) HD.sub))) rfl)
    (S.seqF (S.asg (Vv.op (Vv.rd (Vv.un (Vv.rd (Vv.op (Vv.rd (Vv.op (Vv.rd (Vv.op (Vv.rd (Vv.var rfl)) (Vv.rd Vv.cst) (HD.mulI (bMul_r (by decide))))) (Vv.rd (Vv.op (Vv.rd Vv.cst) (Vv.rd (Vv.var rfl)) (HD.mulI (bMul_l (by decide))))) HD.addI)) (Vv.rd Vv.cst) HD.addI)) (H1.h1 rfl))) (Vv.rd Vv.cst) (HD.mod (by decide))) rfl)
      (S.retF (Fv.lst (Av.cons (Vv.var rfl) (Av.cons (Vv.var rfl) Av.nil)) (Nat.le_of_ble_eq_true rfl))))))⟩
  obtain ⟨d1, d2, e, h⟩ := key
  exact ⟨(d1, d2), Gv.rtF ⟨e, h⟩⟩
theorem p_width (f : Fd) : ∃ w f', Gp g__law_width [feedD f] (.int w) (feedD f') ∧ 1 ≤ w ∧ w ≤ 3 := by
  have hm := pick_mem (f := f) (ds := [.int 2, .int 2, .int 2, .int 3, .int 3, .int 1]) (by simp)
  have : ∃ w, pickV f [.int 2, .int 2, .int 2, .int 3, .int 3, .int 1] = .int w ∧ 1 ≤ w ∧ w ≤ 3 := by
    simp only [List.mem_cons, List.not_mem_nil, or_false] at hm
    rcases hm with e | e | e | e | e | e <;> exact ⟨_, e, by decide, by decide⟩
  obtain ⟨w, e, h⟩ := this
  refine ⟨w, takeN f (([.int 2, .int 2, .int 2, .int 3, .int 3, .int 1] : List D).length : Int), ?_, h⟩
  rw [← e]
  refine Gp.rt (b0 := true) ?_
  show ∃ e1, b__law_width [.mu true (feedD f)] = .rt _ (.mu true (feedD (takeN f (([.int 2, .int 2, .int 2, .int 3, .int 3, .int 1] : List D).length : Int))) :: e1)
  exact ⟨[], S.ret (Vv.pick (b := true) (f := f) (ds := [.int 2, .int 2, .int 2, .int 3, .int 3, .int 1]) rfl (by walk_at "ev") (by simp) (by decide))⟩
theorem p_dtable (f : Fd) {w most : Int} (h1 : 1 ≤ w) (h3 : w ≤ 3) (m0 : 0 ≤ most) (m60 : most ≤ 60) : ∃ a rs f', Gp g__law_drawn_table [feedD f, .int w, .int most] (tabL a rs) (feedD f') ∧ Dims w a ∧ RowsOk w a rs ∧ rs.length ≤ cap w a := by
  by_cases c : takeV f 8 < 5
  · obtain ⟨ks, k1, k2, k3, k4⟩ := p_known h1 h3
    have ne : (ks.map fun k => tabL k.1 k.2) ≠ [] := by simpa using k2
    have hm := pick_mem (f := takeN f 8) ne
    obtain ⟨q, hq, e⟩ := List.mem_map.mp hm
    obtain ⟨d, ok, oc⟩ := k4 q hq
    refine ⟨q.1, q.2, takeN (takeN f 8) (ks.map fun k => tabL k.1 k.2).length, ?_, d, ok, oc⟩
    rw [e]
    exact Gp.of (b0 := true) (env := [.mu true (feedD f), .im (.int w), .im (.int most), .no, .no]) rfl (S.seq (S.asg (Vv.take (b := true) (f := f) (m := 8) rfl Vv.cst (by decide) (by decide)) rfl) (S.rt (S.ifT (Tv.to (by walk_at "ev_tv") (decide_eq_true c)) (S.ret (Vv.pick (b := true) (f := takeN f 8) (ds := ks.map fun k => tabL k.1 k.2) rfl (Vv.call (ms := [false]) (ds := [.int w]) (Ak.cons (Vv.var rfl) Ak.nil) k1) ne (by rw [List.length_map]; omega)))))) rfl
  · obtain ⟨t1, t2⟩ := takeV_lt (f := takeN f 8) (m := 3) (by decide)
    have d : Dims w (1 + takeV (takeN f 8) 3) := ⟨h1, h3, by omega, by omega⟩
    have ok := drows_ok (f := takeN (takeN f 8) 3) d m0 m60
    refine ⟨1 + takeV (takeN f 8) 3, sortR (rowsV (takeN (takeN (takeN f 8) 3) (most + 1)) w (1 + takeV (takeN f 8) 3).toNat (manyV (takeN (takeN f 8) 3) most)), rowsN (takeN (takeN (takeN f 8) 3) (most + 1)) w (1 + takeV (takeN f 8) 3).toNat (manyV (takeN (takeN f 8) 3) most), ?_, d, rowsOk_sort d ok, sortR_cap d ok⟩
    exact Gp.of (b0 := true) (env := [.mu true (feedD f), .im (.int w), .im (.int most), .no, .no]) rfl (S.seq (S.asg (Vv.take (b := true) (f := f) (m := 8) rfl Vv.cst (by decide) (by decide)) rfl) (S.seq (S.ifF (Tv.to (by walk_at "ev_tv") (decide_eq_false c)) rfl) (S.seq (S.asg (Vv.op2 Vv.cst (Vv.rd (Vv.take (b := true) (f := takeN f 8) (m := 3) rfl Vv.cst (by decide) (by decide))) HD.addI) rfl)
      (S.ret (Vv.lst (Av.cons (Vv.var rfl) (Av.cons (Fv.v (Fv.ss (Vv.rd (Vv.io (bb := true) (d0 := feedD (takeN (takeN f 8) 3)) rfl (Ak.cons (Vv.var rfl) (Ak.cons (Vv.var rfl) (Ak.cons (Vv.var rfl) Ak.nil))) (p_drows (f := takeN (takeN f 8) 3) (w := w) (a := 1 + takeV (takeN f 8) 3) (most := most) (by omega) h3 (by omega) (by omega) m0 (by omega)))) (rowsB_of d ok))) Av.nil)) (Nat.le_of_ble_eq_true rfl)))))) rfl
/-! What the law asks: is a value a table, the table of both, behind, seen, glued, renamed; statics. -/
theorem S.tryRt {errs : List Str} {fb : SEnv → SO} {hs : List (Str × Hd)} {env e1 : SEnv} {d : D} (h : fb env = .rt d e1) : sTry errs fb hs env = .rt d e1 := by
  unfold sTry; rw [h]
theorem S.tryEx {errs : List Str} {fb : SEnv → SO} {hs : List (Str × Hd)} {env e1 : SEnv} {c : Str} {x : Option (Str × D)} {o : SO} (h : fb env = .ex c x e1) (k : hdF errs hs c x e1 = o) : sTry errs fb hs env = o := by
  unfold sTry; rw [h]; exact k
theorem hd_here {errs : List Str} {f : SEnv → SO} {hs : List (Str × Hd)} {c : Str} {x : Option (Str × D)} {env e1 : SEnv} {d : D} (h : c ∈ errs ∧ c ∈ errs) (k : f env = .rt d e1) : hdF errs ((c, .s f) :: hs) c x env = .rt d e1 := by
  unfold hdF
  rw [if_pos h, if_pos rfl]
  show (match f env with | .ex _ _ _ => SO.bad | o => o) = _
  rw [k]
theorem hd_next {errs : List Str} {kd : Hd} {hs : List (Str × Hd)} {c h : Str} {x : Option (Str × D)} {env : SEnv} {o : SO} (m : c ∈ errs ∧ h ∈ errs ∧ ¬ c = h) (k : hdF errs hs c x env = o) : hdF errs ((h, kd) :: hs) c x env = o := by
  unfold hdF
  rw [if_pos ⟨m.1, m.2.1⟩, if_neg m.2.2]
  exact k
/-! ### is it the table -/
theorem p_is {w a : Int} {rs rs' : List (List Int)} (d : Dims w a) (h : RowsOk w a rs) (e : rs' = sortR rs) : Gv g__law_is [tabD w a rs', .int w, .int a, rowsT rs] (.bl true) := by
  subst e
  obtain ⟨t, ht⟩ := repr_rows d (rowsOk_sort d h)
  refine Gv.rt ?_
  show ∃ e1, b__law_is [.im (tabD w a (sortR rs)), .im (.int w), .im (.int a), .im (rowsT rs)] = .rt _ e1
  refine ⟨_, S.seq (S.ifF (Tv.to (by walk_at "ev_tv") (by show (false || ((!decide (w = w)) || (!decide (a = a)))) = false; simp)) rfl) (S.ret (Vv.to (Vv.op (Vv.rd (Vv.un (Vv.rd (Vv.property (Vv.var rfl) p_rows)) (H1.h1 ht))) (Vv.rd (Vv.un (Vv.rd (Fv.v (Fv.ss (Vv.rd (Vv.var rfl)) (rowsB_of d h)))) (H1.h1 ht))) HD.eqS) ?_))⟩
  rw [decide_eq_true rfl]
/-! ### both, behind -/
theorem okR_of {d : D} (h : okAll (tyD d) = true) (hn : ∀ c ns vs, d ≠ .obj c ns vs) : okR "Table" (tyD d) = true := by
  cases d with
  | obj c ns vs => exact absurd rfl (hn c ns vs)
  | _ => exact h
theorem isO_of {d : D} (hn : ∀ c ns vs, d ≠ .obj c ns vs) : isO "Table" d = false := by
  cases d with
  | obj c ns vs => exact absurd rfl (hn c ns vs)
  | _ => rfl
theorem okR_tab {w a : Int} {rs : List (List Int)} : okR "Table" (tyD (tabD w a rs)) = true := by show okR "Table" (.o "Table") = true; decide +kernel
theorem p_both {w a : Int} {rs rs' : List (List Int)} (d : Dims w a) (h : RowsOk w a rs) (h' : RowsOk w a rs') : Gv g__law_both [tabD w a rs, tabD w a rs'] (tabD w a (sortR (rs.filter fun r => decide (r ∈ rs')))) :=
  Gv.rt ⟨_, S.tryRt (S.ret (Vv.ownBin (Vv.var rfl) (Vv.var rfl) okR_tab (p_and d h h')))⟩
theorem x_both2 {w a w' a' : Int} {rs rs' : List (List Int)} (hn : ¬ (w' = w ∧ a' = a)) : Gv g__law_both [tabD w a rs, tabD w' a' rs'] (.str "unlike") :=
  Gv.rt ⟨_, S.tryEx (S.retX (Xv.ownBin (Vv.var rfl) (Vv.var rfl) okR_tab (x_and2 hn))) (hd_here (by decide) (S.ret Vv.cst))⟩
theorem x_both {w a : Int} {rs : List (List Int)} {d : D} (ho : okAll (tyD d) = true) (hn : ∀ c ns vs, d ≠ .obj c ns vs) : Gv g__law_both [tabD w a rs, d] (.str "unlike") :=
  Gv.rt ⟨_, S.tryEx (S.retX (Xv.ownBin (Vv.var rfl) (Vv.var rfl) (okR_of ho hn) (x_and ho (isO_of hn)))) (hd_here (by decide) (S.ret Vv.cst))⟩
theorem p_behind {w a a' : Int} {rs rs' : List (List Int)} (d : Dims w a) (d' : Dims w a') (h3 : a + a' ≤ 3) (h : RowsOk w a rs) (h' : RowsOk w a' rs') (l : rs.length * rs'.length < 64) : Gv g__law_behind [tabD w a rs, tabD w a' rs'] (tabD w (a + a') (sortR (prodR rs rs'))) :=
  Gv.rt ⟨_, S.tryRt (S.ret (Vv.ownBin (Vv.var rfl) (Vv.var rfl) okR_tab (p_mul d d' h3 h h' l)))⟩
theorem x_behind2 {w a w' a' : Int} {rs rs' : List (List Int)} (hn : ¬ (w' = w ∧ a + a' ≤ 3)) : Gv g__law_behind [tabD w a rs, tabD w' a' rs'] (.str "unlike") :=
  Gv.rt ⟨_, S.tryEx (S.retX (Xv.ownBin (Vv.var rfl) (Vv.var rfl) okR_tab (x_mul2 hn))) (hd_here (by decide) (S.ret Vv.cst))⟩
theorem x_behind {w a : Int} {rs : List (List Int)} {d : D} (ho : okAll (tyD d) = true) (hn : ∀ c ns vs, d ≠ .obj c ns vs) : Gv g__law_behind [tabD w a rs, d] (.str "unlike") :=
  Gv.rt ⟨_, S.tryEx (S.retX (Xv.ownBin (Vv.var rfl) (Vv.var rfl) (okR_of ho hn) (x_mul ho (isO_of hn)))) (hd_here (by decide) (S.ret Vv.cst))⟩
/-! ### seen, glued, renamed, asked for -/
section
variable {w a : Int} {rs : List (List Int)} {v m : D}
theorem a_seen {d : D} (k : Gv g_Table_seen [tabD w a rs, v] d) : Gv g__law_asked [tabD w a rs, .int 0, v, m] d :=
  Gv.rt ⟨_, S.tryRt (S.rt (S.ifT (Tv.to (by walk_at "ev_tv") (by rfl)) (S.ret (Vv.method (Vv.var rfl) (by decide) (Ak.cons (Vv.var rfl) Ak.nil) k))))⟩
theorem xa_seen (k : Gx g_Table_seen [tabD w a rs, v] "BadSpots" none) : Gv g__law_asked [tabD w a rs, .int 0, v, m] (.str "spots") :=
  Gv.rt ⟨_, S.tryEx (S.exc (S.ifT (Tv.to (by walk_at "ev_tv") (by rfl)) (S.retX (Xv.method (Vv.var rfl) (by decide) (Ak.cons (Vv.var rfl) Ak.nil) k)))) (hd_here (by decide) (S.ret Vv.cst))⟩
theorem Xv.ifT {t : SEnv → Out Bool} {fa fb : SEnv → Out Rv} {env e1 e2 : SEnv} {c : Str} {x : Option (Str × D)} (hc : Tv t env true e1) (ha : Xv fa e1 c x e2) : Xv (eIf t fa fb) env c x e2 := by
  unfold Tv at hc
  unfold Xv eIf eB
  rw [hc]; exact ha
theorem Xv.ifF {t : SEnv → Out Bool} {fa fb : SEnv → Out Rv} {env e1 e2 : SEnv} {c : Str} {x : Option (Str × D)} (hc : Tv t env false e1) (ha : Xv fb e1 c x e2) : Xv (eIf t fa fb) env c x e2 := by
  unfold Tv at hc
  unfold Xv eIf eB
  rw [hc]; exact ha
theorem a_glued {d : D} (k : Gv g_Table_glued [tabD w a rs, v, m] d) : Gv g__law_asked [tabD w a rs, .int 1, v, m] d :=
  Gv.rt ⟨_, S.tryRt (S.seq (S.ifF (Tv.to (by walk_at "ev_tv") (by rfl)) rfl) (S.ret (Vv.ifT (Tv.to (by walk_at "ev_tv") (by rfl)) (Vv.method (Vv.var rfl) (by decide) (Ak.cons (Vv.var rfl) (Ak.cons (Vv.var rfl) Ak.nil)) k))))⟩
theorem xa_glued (k : Gx g_Table_glued [tabD w a rs, v, m] "BadSpots" none) : Gv g__law_asked [tabD w a rs, .int 1, v, m] (.str "spots") :=
  Gv.rt ⟨_, S.tryEx (S.seq (S.ifF (Tv.to (by walk_at "ev_tv") (by rfl)) rfl) (S.retX (Xv.ifT (Tv.to (by walk_at "ev_tv") (by rfl)) (Xv.method (Vv.var rfl) (by decide) (Ak.cons (Vv.var rfl) (Ak.cons (Vv.var rfl) Ak.nil)) k)))) (hd_here (by decide) (S.ret Vv.cst))⟩
theorem a_renamed {d : D} (k : Gv g_Table_renamed [tabD w a rs, v] d) : Gv g__law_asked [tabD w a rs, .int 2, v, m] d :=
  Gv.rt ⟨_, S.tryRt (S.seq (S.ifF (Tv.to (by walk_at "ev_tv") (by rfl)) rfl) (S.ret (Vv.ifF (Tv.to (by walk_at "ev_tv") (by rfl)) (Vv.method (Vv.var rfl) (by decide) (Ak.cons (Vv.var rfl) Ak.nil) k))))⟩
theorem xa_renamed (k : Gx g_Table_renamed [tabD w a rs, v] "BadOrder" none) : Gv g__law_asked [tabD w a rs, .int 2, v, m] (.str "order") :=
  Gv.rt ⟨_, S.tryEx (S.seq (S.ifF (Tv.to (by walk_at "ev_tv") (by rfl)) rfl) (S.retX (Xv.ifF (Tv.to (by walk_at "ev_tv") (by rfl)) (Xv.method (Vv.var rfl) (by decide) (Ak.cons (Vv.var rfl) Ak.nil) k)))) (hd_next (by decide) (hd_here (by decide) (S.ret Vv.cst)))⟩
end
/-! ### statics: few enough to be looked at -/
def okTrue : Out D → Bool
  | .ok (.bl true) _ => true
  | _ => false
theorem okTrue_inv {o : Out D} (h : okTrue o = true) : ∃ ea, o = .ok (.bl true) ea := by
  unfold okTrue at h
  split at h
  · exact ⟨_, rfl⟩
  · cases h
theorem statics_B : ([1, 2, 3] : List Int).all (fun w => ([1, 2, 3] : List Nat).all fun n => okTrue (g__law_statics_right [.int w, .int n])) = true := by decide +kernel
theorem p_statics {w a : Int} (d : Dims w a) : Gv g__law_statics_right [.int w, .int a] (.bl true) := by
  obtain ⟨n, rfl⟩ : ∃ n : Nat, a = n := ⟨a.toNat, by have := d.a1; omega⟩
  have h1 := d.a1
  have h3 := d.a3
  exact okTrue_inv (List.all_eq_true.mp (List.all_eq_true.mp statics_B w (w123 d.w1 d.w3)) n (n123 (by omega) (by omega)))
/-! Two tables put together. -/
theorem in_rows2 {w a w' a' : Int} {ss : List (List Int)} {r : List Int} (d : Dims w a) (d' : Dims w' a') (h : RowsOk w' a' ss) (h1 : (r.length : Int) = a) (h2 : ∀ m ∈ r, 0 ≤ m ∧ m < w) : inD (rowT r) (rowsT ss) = some (decide (r ∈ ss)) := by
  have f := fine_row d h1 h2
  have fl := fine_list (fine_rows d' h) (by rw [List.length_map]; have := h.few; omega)
  show (match toP (rowT r), toPs (ss.map rowT) with | some p, some ps => _ | _, _ => _) = _
  rw [toP_row, toPs_rows]
  show (if SeqAt.shaped (rowP r) = true ∧ SeqAt.shaped (.list (ss.map rowP)) = true then some ((ss.map rowP).any fun z => PyData.eqv z (rowP r)) else none) = _
  rw [if_pos ⟨f.h, fl.2.2.2.2⟩]
  congr 1
  rw [List.any_map, Bool.eq_iff_iff, List.any_eq_true, decide_eq_true_eq]
  constructor
  · rintro ⟨x, hx, e⟩
    have e' : PyData.eqv (rowP x) (rowP r) = true := e
    rw [eqv_row, decide_eq_true_eq] at e'
    rw [← e']; exact hx
  · intro hr
    exact ⟨r, hr, by show PyData.eqv (rowP r) (rowP r) = true; rw [eqv_row]; exact decide_eq_true rfl⟩
theorem shaped_ints (r : List Int) (h : r.length ≤ 10) : SeqAt.shaped (rowP r) = true := by
  have key : ∀ r : List Int, PyData.canLayAll0 (r.map PyData.int) = true ∧ PyData.depthAll (r.map PyData.int) ≤ 10 := by
    intro r
    induction r with
    | nil => exact ⟨by simp [PyData.canLayAll0], by simp [PyData.depthAll]⟩
    | cons m r ih => exact ⟨by simp [PyData.canLayAll0, PyData.canLay0, ih.1], by have := ih.2; simp [PyData.depthAll, PyData.depth]; omega⟩
  obtain ⟨k1, k2⟩ := key r
  show (PyData.canLay0 (.tuple (r.map PyData.int)) && decide (PyData.depth (.tuple (r.map PyData.int)) ≤ 64)) = true
  rw [Bool.and_eq_true]
  refine ⟨by simp only [PyData.canLay0]; exact k1, decide_eq_true ?_⟩
  simp only [PyData.depth]
  omega
theorem eq_row (r s : List Int) (h : r.length ≤ 10) (k : s.length ≤ 10) : eqD (rowT r) (rowT s) = some (decide (r = s)) := by
  unfold eqD
  rw [toP_row, toP_row]
  show (if _ then some (PyData.eqv (rowP r) (rowP s)) else none) = _
  rw [if_pos ⟨shaped_ints r h, shaped_ints s k⟩, eqv_row]
theorem cap_B : ([1, 2, 3] : List Int).all (fun w => ([1, 2, 3] : List Int).all fun a => ([1, 2, 3] : List Int).all fun b => decide (cap w a ≤ 27) && (decide (3 < a + b) || decide (cap w a * cap w b < 64))) = true := by decide +kernel
theorem cap_27 {w a : Int} (d : Dims w a) : cap w a ≤ 27 := by
  have := List.all_eq_true.mp (List.all_eq_true.mp (List.all_eq_true.mp cap_B w (w123 d.w1 d.w3)) a (w123 d.a1 d.a3)) 1 (by decide)
  rw [Bool.and_eq_true, decide_eq_true_eq] at this
  exact this.1
theorem cap_64 {w a b : Int} (d : Dims w a) (d' : Dims w b) (h : a + b ≤ 3) : cap w a * cap w b < 64 := by
  have := List.all_eq_true.mp (List.all_eq_true.mp (List.all_eq_true.mp cap_B w (w123 d.w1 d.w3)) a (w123 d.a1 d.a3)) b (w123 d'.a1 d'.a3)
  rw [Bool.and_eq_true, Bool.or_eq_true, decide_eq_true_eq, decide_eq_true_eq, decide_eq_true_eq] at this
  rcases this.2 with k | k
  · omega
  · exact k
/-- (width, arity, rows) -/
def tripD (w a : Int) (rs : List (List Int)) : D := .tup [.int w, .int a, rowsT rs]
section
variable {f : SEnv → Out Rv} {env e1 : SEnv} {w a : Int} {rs : List (List Int)}
theorem Vv.t0 (h : Vv f env (tripD w a rs) e1) : Vv (eOp (EV.h2 gIx) f (eC (.int 0))) env (.int w) e1 := Vv.op h.rd (Vv.rd Vv.cst) (HD.h2 rfl)
theorem Vv.t1 (h : Vv f env (tripD w a rs) e1) : Vv (eOp (EV.h2 gIx) f (eC (.int 1))) env (.int a) e1 := Vv.op h.rd (Vv.rd Vv.cst) (HD.h2 rfl)
theorem Vv.t2 (h : Vv f env (tripD w a rs) e1) : Vv (eOp (EV.h2 gIx) f (eC (.int 2))) env (rowsT rs) e1 := Vv.op h.rd (Vv.rd Vv.cst) (HD.h2 rfl)
end
theorem Tv.neUn {f : SEnv → Out Rv} {env e1 : SEnv} {x : Str} {h' : SEnv → Rv → Rv → Option Rv} (h : Vv f env (.str x) e1) : Tv (eTv (eOp (hOr2 hNeX h') f (eC (.str x)))) env false e1 :=
  Tv.to (Tv.tv (Vv.rd (Vv.op h.rd (Vv.rd Vv.cst) (HD.or1 HD.neS)))) (by simp)
/-- the test behind each of them -/
theorem Tv.pair {t1 : SEnv → Out Bool} {f6 f7 : SEnv → Out Rv} {env : SEnv} {due : Bool} {h' : SEnv → Rv → Rv → Option Rv} {g : SEnv → Out Rv} (k6 : Vv f6 env (.bl due) env) (h1 : due = true → Vv g env (.bl true) env) (h2 : due = false → Vv f7 env (.str "unlike") env) :
    Tv (eOrT (eAndT (eTr f6) (eNotT (eTr g))) (eAndT (eNotT (eTr f6)) (eTv (eOp (hOr2 hNeX h') f7 (eC (.str "unlike")))))) env false env := by
  cases due with
  | true => exact Tv.to (Tv.or (b1 := false) (b2 := false) (Tv.to (Tv.and (b1 := true) (b2 := false) (Tv.tr k6.rd rfl) fun _ => Tv.notT (Tv.tr (h1 rfl).rd rfl)) rfl) fun _ => Tv.andF (Tv.notT (Tv.tr k6.rd rfl))) rfl
  | false => exact Tv.to (Tv.or (b1 := false) (b2 := false) (Tv.andF (Tv.tr k6.rd rfl)) fun _ => Tv.to (Tv.and (b1 := true) (b2 := false) (Tv.notF (Tv.tr k6.rd rfl)) fun _ => Tv.neUn (h2 rfl)) rfl) rfl
theorem prodR_take {rs ss : List (List Int)} {k : Nat} {r : List Int} (h : rs[k]? = some r) : prodR (rs.take (k + 1)) ss = prodR (rs.take k) ss ++ ss.map fun s => r ++ s := by
  unfold prodR
  rw [List.take_add_one, h, List.flatMap_append]
  simp
theorem few_take {rs ss : List (List Int)} {k : Nat} (h : rs.length < 64) (h' : ss.length < 64) : (prodR (rs.take k) ss).length + ss.length ≤ 5000 := by
  rw [prodR_len]
  have h1 : (rs.take k).length ≤ 63 := by rw [List.length_take]; omega
  have : (rs.take k).length * ss.length ≤ 63 * 63 := Nat.mul_le_mul h1 (by omega)
  omega
theorem p_pairs {w a w' a' : Int} {rs ss rs1 ss1 : List (List Int)} (d : Dims w a) (d' : Dims w' a') (h : RowsOk w a rs) (h' : RowsOk w' a' ss) (c : rs.length ≤ cap w a) (c' : ss.length ≤ cap w' a') (e : rs1 = sortR rs) (e' : ss1 = sortR ss) :
    Gv g__law_pairs_right [tabD w a rs1, tabD w' a' ss1, tripD w a rs, tripD w' a' ss] (.bl true) := by
  have hf := h.few
  have hf' := h'.few
  have ok1 : RowsOk w a rs1 := by rw [e]; exact rowsOk_sort d h
  have ok1' : RowsOk w' a' ss1 := by rw [e']; exact rowsOk_sort d' h'
  -- both
  obtain ⟨t, ht, ht1, ht2⟩ : ∃ t, Gv g__law_both [tabD w a rs1, tabD w' a' ss1] t ∧ (decide ([w, a] = [w', a']) = true → Gv g__law_is [t, .int w, .int a, rowsT (rs.filter fun r => decide (r ∈ ss))] (.bl true)) ∧ (decide ([w, a] = [w', a']) = false → t = .str "unlike") := by
    by_cases c : w' = w ∧ a' = a
    · obtain ⟨rfl, rfl⟩ := c
      have okf : RowsOk w' a' (rs.filter fun r => decide (r ∈ ss)) := ⟨fun r hr => h.all r (List.mem_filter.mp hr).1, Nat.lt_of_le_of_lt (List.length_filter_le _ _) h.few⟩
      refine ⟨_, p_both d ok1 ok1', fun _ => p_is d okf ?_, fun z => ?_⟩
      · refine sortR_ext d ⟨fun r hr => ok1.all r (List.mem_filter.mp hr).1, Nat.lt_of_le_of_lt (List.length_filter_le _ _) ok1.few⟩ okf fun x => ?_
        rw [List.mem_filter, List.mem_filter, e, e', sortR_mem, decide_eq_true_eq, decide_eq_true_eq, sortR_mem]
      · simp at z
    · refine ⟨_, x_both2 c, fun z => ?_, fun _ => rfl⟩
      have z := of_decide_eq_true z
      simp only [List.cons.injEq, and_true] at z
      exact absurd ⟨z.1.symm, z.2.symm⟩ c
  -- behind
  obtain ⟨u, hu, hu1, hu2⟩ : ∃ t, Gv g__law_behind [tabD w a rs1, tabD w' a' ss1] t ∧ ((decide (w = w') && decide (a + a' ≤ 3)) = true → Gv g__law_is [t, .int w, .int (a + a'), rowsT (prodR rs ss)] (.bl true)) ∧ ((decide (w = w') && decide (a + a' ≤ 3)) = false → t = .str "unlike") := by
    by_cases c0 : w' = w ∧ a + a' ≤ 3
    · obtain ⟨rfl, ca⟩ := c0
      have l1 : rs1.length * ss1.length < 64 := by
        rw [e, e']
        exact Nat.lt_of_le_of_lt (Nat.mul_le_mul (sortR_cap d h) (sortR_cap d' h')) (cap_64 d d' ca)
      have l2 : rs.length * ss.length < 64 := Nat.lt_of_le_of_lt (Nat.mul_le_mul c c') (cap_64 d d' ca)
      have d2 : Dims w' (a + a') := ⟨d.w1, d.w3, by have := d.a1; have := d'.a1; omega, ca⟩
      refine ⟨_, p_behind d d' ca ok1 ok1' l1, fun _ => p_is d2 (prodR_ok h h' l2) ?_, fun z => ?_⟩
      · refine sortR_ext d2 (prodR_ok ok1 ok1' l1) (prodR_ok h h' l2) fun x => ?_
        unfold prodR
        simp only [List.mem_flatMap, List.mem_map, e, e', sortR_mem]
      · simp [ca] at z
    · refine ⟨_, x_behind2 c0, fun z => ?_, fun _ => rfl⟩
      rw [Bool.and_eq_true, decide_eq_true_eq, decide_eq_true_eq] at z
      exact absurd ⟨z.1.symm, z.2⟩ c0
  refine Gv.rt ?_
  show ∃ e1, b__law_pairs_right [.im (tabD w a rs1), .im (tabD w' a' ss1), .im (tripD w a rs), .im (tripD w' a' ss), .no, .no, .no, .no, .no, .no, .no, .no] = .rt _ e1
  -- the loop
  have loop : ∀ due : D, ∃ s, sFor (eSeq (eOp (EV.h2 gIx) (eVar 2) (eC (.int (2))))) (tgN 4) (sAsg (eOp hAdd (eVar 8) (eLc (eSeq (eOp (EV.h2 gIx) (eVar 3) (eC (.int (2))))) (tgN 10) eYes (eK (eOp hAdd (eVar 4) (eVar 10))) [10])) (tgN 8))
      [.im (tabD w a rs1), .im (tabD w' a' ss1), .im (tripD w a rs), .im (tripD w' a' ss), .no, .im (rowsT (rs.filter fun r => decide (r ∈ ss))), .im due, .im t, .im (.lst []), .no, .no, .no] =
      .nx [.im (tabD w a rs1), .im (tabD w' a' ss1), .im (tripD w a rs), .im (tripD w' a' ss), s, .im (rowsT (rs.filter fun r => decide (r ∈ ss))), .im due, .im t, .im (rowsT (prodR rs ss)), .no, .no, .no] := by
    intro due
    obtain ⟨e, he, hI⟩ := S.for_ (fi := eSeq (eOp (EV.h2 gIx) (eVar 2) (eC (.int (2))))) (tg := tgN 4) (fb := sAsg (eOp hAdd (eVar 8) (eLc (eSeq (eOp (EV.h2 gIx) (eVar 3) (eC (.int (2))))) (tgN 10) eYes (eK (eOp hAdd (eVar 4) (eVar 10))) [10])) (tgN 8))
      (env := [.im (tabD w a rs1), .im (tabD w' a' ss1), .im (tripD w a rs), .im (tripD w' a' ss), .no, .im (rowsT (rs.filter fun r => decide (r ∈ ss))), .im due, .im t, .im (.lst []), .no, .no, .no])
      (fun k e => ∃ s, e = [.im (tabD w a rs1), .im (tabD w' a' ss1), .im (tripD w a rs), .im (tripD w' a' ss), s, .im (rowsT (rs.filter fun r => decide (r ∈ ss))), .im due, .im t, .im (rowsT (prodR (rs.take k) ss)), .no, .no, .no] ∧ (s = .no ∨ ∃ x, s = .im x)) (I.seqL (Vv.t2 (Vv.var rfl))) ⟨_, rfl, .inl rfl⟩ (by
        rintro k x e hx ⟨s, rfl, hs⟩
        rw [List.getElem?_map] at hx
        obtain ⟨r, hr, rfl⟩ := Option.map_eq_some_iff.mp hx
        have hr1 := (h.all r (List.mem_of_getElem? hr)).1
        have a3 := d.a3
        have a3' := d'.a3
        have ht : tgN 4 (rowT r) [.im (tabD w a rs1), .im (tabD w' a' ss1), .im (tripD w a rs), .im (tripD w' a' ss), s, .im (rowsT (rs.filter fun r => decide (r ∈ ss))), .im due, .im t, .im (rowsT (prodR (rs.take k) ss)), .no, .no, .no] = some [.im (tabD w a rs1), .im (tabD w' a' ss1), .im (tripD w a rs), .im (tripD w' a' ss), .im (rowT r), .im (rowsT (rs.filter fun r => decide (r ∈ ss))), .im due, .im t, .im (rowsT (prodR (rs.take k) ss)), .no, .no, .no] := by
          rcases hs with rfl | ⟨x, rfl⟩ <;> rfl
        refine ⟨_, _, ht, S.asg (Vv.op2 (Vv.var rfl) (Vv.rd (Fv.v (Fv.lcY rowT ss (fun s => rowT (r ++ s)) off_N (by decide) (I.seqL (Vv.t2 (Vv.var rfl))) rfl (small (by omega)) fun s hs => ⟨_, rfl, ?_⟩))) (HD.addL ?_)) rfl, .im (rowT r), ?_, .inr ⟨_, rfl⟩⟩
        · have e : rowT (r ++ s) = .tup (r.map D.int ++ s.map D.int) := by rw [rowT, List.map_append]
          rw [e]
          have l2 := (h'.all s hs).1
          exact Vv.op (Vv.rd (Vv.var rfl)) (Vv.rd (Vv.var rfl)) (HD.addT (by rw [List.length_map, List.length_map]; exact small (by omega)))
        · have := few_take (k := k) hf hf'
          rw [List.length_map, List.length_map]
          exact Nat.le_trans this (by decide)
        · rw [prodR_take hr]
          have e : (ss.map fun s => rowT (r ++ s)) = (ss.map fun s => r ++ s).map rowT := by rw [List.map_map]; rfl
          rw [e, ← List.map_append]
          rfl)
    obtain ⟨s, rfl, _⟩ := hI
    refine ⟨s, ?_⟩
    rw [he, List.length_map, List.take_length]
  obtain ⟨s, hloop⟩ := loop (.bl (decide (w = w') && decide (a + a' ≤ 3)))
  have odd : ∀ bad ∈ ([.non, .int 0, rowsT rs, .str "table", .tup []] : List D), okAll (tyD bad) = true ∧ ∀ c ns vs, bad ≠ .obj c ns vs := by
    intro bad hb
    simp only [List.mem_cons, List.not_mem_nil, or_false] at hb
    rcases hb with rfl | rfl | rfl | rfl | rfl
    · exact ⟨ok_non, fun _ _ _ z => nomatch z⟩
    · exact ⟨ok_int, fun _ _ _ z => nomatch z⟩
    · exact ⟨ok_lst, fun _ _ _ z => nomatch z⟩
    · exact ⟨ok_str, fun _ _ _ z => nomatch z⟩
    · exact ⟨ok_tup, fun _ _ _ z => nomatch z⟩
  refine ⟨_, S.seq (S.asg (Fv.v (Fv.lc rowT rs (fun r => decide (r ∈ ss)) rowT off_N (by decide) (I.seqL (Vv.t2 (Vv.var rfl))) rfl (small (by omega)) fun r hr => ⟨_, rfl, Tv.tv (Vv.rd (Vv.op (Vv.rd (Vv.var rfl)) (Vv.rd (Vv.t2 (Vv.var rfl))) (HD.h2 ?_))), fun _ => Vv.var rfl⟩)) rfl)
    (S.seq (S.asg (Vv.op (Vv.rd (Vv.slT (Vv.rd (Vv.var rfl)) Pv.no (Pv.some (Vv.rd Vv.cst)))) (Vv.rd (Vv.slT (Vv.rd (Vv.var rfl)) Pv.no (Pv.some (Vv.rd Vv.cst)))) (HD.eqX (a := rowT [w, a]) (b := rowT [w', a']) rfl (eq_row _ _ (by simp) (by simp)))) rfl)
    (S.seq (S.asg (Vv.call (Ak.cons (Vv.var rfl) (Ak.cons (Vv.var rfl) Ak.nil)) ht) rfl)
    (S.seq (S.ifF (Tv.pair (t1 := eYes) (Vv.var rfl) (fun z => Vv.call (Ak.cons (Vv.var rfl) (Ak.cons (Vv.t0 (Vv.var rfl)) (Ak.cons (Vv.t1 (Vv.var rfl)) (Ak.cons (Vv.var rfl) Ak.nil)))) (ht1 z)) (fun z => by rw [ht2 z]; exact Vv.var rfl)) rfl)
    (S.seq (S.par (Av.cons (Vv.and (Vv.rd (Vv.op (Vv.rd (Vv.t0 (Vv.var rfl))) (Vv.rd (Vv.t0 (Vv.var rfl))) HD.eqI)) fun _ => Vv.op (Vv.rd (Vv.op (Vv.rd (Vv.t1 (Vv.var rfl))) (Vv.rd (Vv.t1 (Vv.var rfl))) HD.addI)) (Vv.rd Vv.cst) HD.le) (Av.cons (Vv.lst Av.nil (Nat.le_of_ble_eq_true rfl)) Av.nil)) rfl rfl (by decide))
    (S.seq hloop
    (S.seq (S.asg (Vv.call (Ak.cons (Vv.var rfl) (Ak.cons (Vv.var rfl) Ak.nil)) hu) rfl)
    (S.seq (S.ifF (Tv.pair (t1 := eYes) (Vv.var rfl) (fun z => Vv.call (Ak.cons (Vv.var rfl) (Ak.cons (Vv.t0 (Vv.var rfl)) (Ak.cons (Vv.op (Vv.rd (Vv.t1 (Vv.var rfl))) (Vv.rd (Vv.t1 (Vv.var rfl))) HD.addI) (Ak.cons (Vv.var rfl) Ak.nil)))) (hu1 z)) (fun z => by rw [hu2 z]; exact Vv.var rfl)) rfl)
    (S.seq (S.asg (Vv.lst (ds := [.non, .int 0, rowsT rs, .str "table", .tup []]) (Av.cons Vv.cst (Av.cons Vv.cst (Av.cons (Vv.t2 (Vv.var rfl)) (Av.cons Vv.cst (Av.cons (Vv.tup Av.nil (Nat.le_of_ble_eq_true rfl)) Av.nil))))) (Nat.le_of_ble_eq_true rfl)) rfl)
    (S.ret (Vv.to (Vv.op (Vv.rd (Fv.v (Fv.lc id [.non, .int 0, rowsT rs, .str "table", .tup []] (fun _ => false) id off_N (by decide) (I.seqL (Vv.var rfl)) rfl (Nat.le_of_ble_eq_true rfl) fun bad hb => ⟨_, rfl, Tv.to (Tv.or (b1 := false) (b2 := false) (Tv.neUn (Vv.call (Ak.cons (Vv.var rfl) (Ak.cons (Vv.var rfl) Ak.nil)) (x_both (odd bad hb).1 (odd bad hb).2))) fun _ => Tv.neUn (Vv.call (Ak.cons (Vv.var rfl) (Ak.cons (Vv.var rfl) Ak.nil)) (x_behind (odd bad hb).1 (odd bad hb).2))) rfl, fun z => nomatch z⟩))) (Vv.rd (Vv.lst Av.nil (Nat.le_of_ble_eq_true rfl))) (HD.eqX (bb := true) rfl (by rfl))) rfl))))))))))⟩
  · have hr' := h.all r hr
    show (inD _ _).map _ = _
    rw [in_rows2 d d' h' hr'.1 hr'.2]
    rfl
/-! Lists that the law makes of rows; orders; odd values. -/
section
variable {fi fS : SEnv → Out (List D)} {fO : SEnv → Out Rv} {env e1 : SEnv} {rs : List (List Int)} {sp o : List Int} {i j k m : Nat}
theorem Fv.seenL {w a : Int} (h : RowsOk w a rs) (l : sp.length ≤ 1000) (hs : ∀ m ∈ sp, 0 ≤ m ∧ m < a) (hi : Av fi env (rs.map rowT) e1) (hw : okW e1 [i] = true)
    (k : ∀ r ∈ rs, ∃ e2, tgN i (rowT r) (wipeE e1 [i]) = some e2 ∧ Av fS e2 (sp.map D.int) e2 ∧ okW e2 [j] = true ∧ ∀ v ∈ sp, ∃ e3, tgN j (.int v) (wipeE e2 [j]) = some e3 ∧ e3[i]? = some (.im (rowT r)) ∧ e3[j]? = some (.im (.int v))) :
    Fv (eLc fi (tgN i) eYes (eK (eU hTuple (eLc fS (tgN j) eYes (eK (eOp (EV.h2 gIx) (eVar i) (eVar j))) [j]))) [i]) env (rowsT (seenR rs sp)) e1 := by
  have f := h.few
  have e : (seenR rs sp).map rowT = rs.map fun r => rowT (sp.map (getI r)) := by rw [seenR, List.map_map]; rfl
  show Fv _ env (.lst ((seenR rs sp).map rowT)) e1
  rw [e]
  refine Fv.lcY rowT rs _ off_N (by simp) hi hw (small (by omega)) fun r hr => ?_
  obtain ⟨e2, k1, k2, k3, k4⟩ := k r hr
  refine ⟨e2, k1, Vv.to (Vv.un (Vv.rd (Fv.v (Fv.lcY D.int sp (fun v => .int (getI r v)) off_N (by simp) k2 k3 (small l) fun v hv => ?_))) H1.tupleL) ?_⟩
  · obtain ⟨e3, q1, q2, q3⟩ := k4 v hv
    have := hs v hv
    exact ⟨e3, q1, Vv.op (Vv.rd (Vv.var q2)) (Vv.rd (Vv.var q3)) (HD.h2 (ix_row this.1 (by have := (h.all r hr).1; omega)))⟩
  · rw [rowT, List.map_map]; rfl
theorem Fv.renL {w a : Int} {O : D} (h : RowsOk w a rs) (hl : a ≤ 1000) (hO : ∀ v, 0 ≤ v → v < w → gIx O (.int v) = some (.int (getI o v))) (hi : Av fi env (rs.map rowT) e1) (hw : okW e1 [i] = true)
    (k : ∀ r ∈ rs, ∃ e2, tgN i (rowT r) (wipeE e1 [i]) = some e2 ∧ e2[i]? = some (.im (rowT r)) ∧ okW e2 [j] = true ∧ ∀ v ∈ r, ∃ e3, tgN j (.int v) (wipeE e2 [j]) = some e3 ∧ Rd fO e3 O e3 ∧ e3[j]? = some (.im (.int v))) :
    Fv (eLc fi (tgN i) eYes (eK (eU hTuple (eLc (eSeq (eVar i)) (tgN j) eYes (eK (eOp (EV.h2 gIx) fO (eVar j))) [j]))) [i]) env (rowsT (renR rs o)) e1 := by
  have f := h.few
  have e : (renR rs o).map rowT = rs.map fun r => rowT (r.map (getI o)) := by rw [renR, List.map_map]; rfl
  show Fv _ env (.lst ((renR rs o).map rowT)) e1
  rw [e]
  refine Fv.lcY rowT rs _ off_N (by simp) hi hw (small (by omega)) fun r hr => ?_
  obtain ⟨e2, k1, k2, k3, k4⟩ := k r hr
  have hr1 := (h.all r hr).1
  refine ⟨e2, k1, Vv.to (Vv.un (Vv.rd (Fv.v (Fv.lcY D.int r (fun v => .int (getI o v)) off_N (by simp) (I.seqT (Vv.var k2)) k3 (small (by omega)) fun v hv => ?_))) H1.tupleL) ?_⟩
  · obtain ⟨e3, q1, q2, q3⟩ := k4 v hv
    have := (h.all r hr).2 v hv
    exact ⟨e3, q1, Vv.op q2 (Vv.rd (Vv.var q3)) (HD.h2 (hO v this.1 this.2))⟩
  · rw [rowT, List.map_map]; rfl
theorem Fv.gluL {w a x y : Int} (h : RowsOk w a rs) (hx : 0 ≤ x ∧ x < a) (hy : 0 ≤ y ∧ y < a) (hi : Av fi env (rs.map rowT) e1) (hw : okW e1 [i] = true)
    (q : ∀ r ∈ rs, ∃ e2, tgN i (rowT r) (wipeE e1 [i]) = some e2 ∧ e2[i]? = some (.im (rowT r)) ∧ e2[k]? = some (.im (.int x)) ∧ e2[m]? = some (.im (.int y))) :
    Fv (eLc fi (tgN i) (eTv (eOp hEqX (eOp (EV.h2 gIx) (eVar i) (eVar k)) (eOp (EV.h2 gIx) (eVar i) (eVar m)))) (eK (eVar i)) [i]) env (rowsT (rs.filter fun r => decide (getI r x = getI r y))) e1 := by
  have f := h.few
  refine Fv.lc rowT rs _ rowT off_N (by simp) hi hw (small (by omega)) fun r hr => ?_
  obtain ⟨e2, q1, q2, q3, q4⟩ := q r hr
  have hr' := (h.all r hr).1
  exact ⟨e2, q1, Tv.tv (Vv.rd (Vv.op (Vv.rd (Vv.op (Vv.rd (Vv.var q2)) (Vv.rd (Vv.var q3)) (HD.h2 (ix_row hx.1 (by omega))))) (Vv.rd (Vv.op (Vv.rd (Vv.var q2)) (Vv.rd (Vv.var q4)) (HD.h2 (ix_row hy.1 (by omega))))) HD.eqI)), fun _ => Vv.var q2⟩
end
/-! ### sorted, made, again -/
section
variable {w a : Int} {rs : List (List Int)}
theorem seen_sort {sp : List Int} (d : Dims w a) (h : RowsOk w a rs) (l : 1 ≤ sp.length ∧ sp.length ≤ 3) (hs : ∀ m ∈ sp, 0 ≤ m ∧ m < a) : sortR (seenR (sortR rs) sp) = sortR (seenR rs sp) :=
  sortR_ext ⟨d.w1, d.w3, by omega, by omega⟩ (seenR_ok (rowsOk_sort d h) hs) (seenR_ok h hs) fun x => by
    unfold seenR
    simp only [List.mem_map, sortR_mem]
theorem ren_sort {o : List Int} (d : Dims w a) (h : RowsOk w a rs) (l : (o.length : Int) = w) (hb : ∀ m ∈ o, 0 ≤ m ∧ m < w) : sortR (renR (sortR rs) o) = sortR (renR rs o) :=
  sortR_ext d (renR_ok (rowsOk_sort d h) l hb) (renR_ok h l hb) fun x => by
    unfold renR
    simp only [List.mem_map, sortR_mem]
theorem fil_ok {p : List Int → Bool} (h : RowsOk w a rs) : RowsOk w a (rs.filter p) := ⟨fun r hr => h.all r (List.mem_filter.mp hr).1, Nat.lt_of_le_of_lt (List.length_filter_le _ _) h.few⟩
theorem fil_sort {p : List Int → Bool} (d : Dims w a) (h : RowsOk w a rs) : sortR ((sortR rs).filter p) = sortR (rs.filter p) :=
  sortR_ext d (fil_ok (rowsOk_sort d h)) (fil_ok h) fun x => by
    simp only [List.mem_filter, sortR_mem]
end
/-! ### orders -/
def ordR (w : Int) : List (List Int) := (allRows w w.toNat).filter fun r => decide (((ddI r).length : Int) = w)
structure Perm (w : Int) (o : List Int) : Prop where
  l : (o.length : Int) = w
  b : ∀ m ∈ o, 0 ≤ m ∧ m < w
  n : o.Nodup
  i : o ∈ ordR w
theorem ord_B : ([1, 2, 3] : List Int).all (fun w => decide (ordR w ≠ []) && decide ((ordR w).length ≤ 100) && (ordR w).all fun o => decide ((o.length : Int) = w) && (o.all fun m => decide (0 ≤ m) && decide (m < w)) && decide o.Nodup) = true := by decide +kernel
theorem ord_ne {w : Int} (h1 : 1 ≤ w) (h3 : w ≤ 3) : ordR w ≠ [] ∧ (ordR w).length ≤ 100 := by
  have k := List.all_eq_true.mp ord_B w (w123 h1 h3)
  simp only [Bool.and_eq_true, decide_eq_true_eq] at k
  exact ⟨k.1.1, k.1.2⟩
theorem ord_perm {w : Int} (h1 : 1 ≤ w) (h3 : w ≤ 3) {o : List Int} (h : o ∈ ordR w) : Perm w o := by
  have k := List.all_eq_true.mp ord_B w (w123 h1 h3)
  simp only [Bool.and_eq_true, decide_eq_true_eq, List.all_eq_true] at k
  have z := k.2 o h
  exact ⟨z.1.1, z.1.2, z.2, h⟩
theorem lenSet_row {r : List Int} (h : r.length < 1000) : gLenSet (rowT r) = some (.int (ddI r).length) := by
  show (intsOf (r.map D.int)).bind _ = _
  rw [intsOf_map]
  show (if r.length < 1000 then _ else _) = _
  rw [if_pos h]
/-- the orders, made by emb -/
theorem Fv.ordL {fi : SEnv → Out (List D)} {fe : SEnv → Out Rv} {env e1 : SEnv} {w : Int} {i j : Nat} (emb : List Int → D) (h1 : 1 ≤ w) (h3 : w ≤ 3) (hi : Av fi env ((allRows w w.toNat).map rowT) e1) (hw : okW e1 [i] = true)
    (q : ∀ r : List Int, ∃ e2, tgN i (rowT r) (wipeE e1 [i]) = some e2 ∧ e2[i]? = some (.im (rowT r)) ∧ e2[j]? = some (.im (.int w)) ∧ Vv fe e2 (emb r) e2) :
    Fv (eLc fi (tgN i) (eTv (eOp hEqX (eU (EV.h1 gLenSet) (eVar i)) (eVar j))) (eK fe) [i]) env (.lst ((ordR w).map emb)) e1 := by
  have ok := rowsOk_all (n := w.toNat) h1 h3 (by omega) (by omega)
  have f := ok.few
  refine Fv.lc rowT (allRows w w.toNat) _ emb off_N (by simp) hi hw (small (by omega)) fun r hr => ?_
  obtain ⟨e2, q1, q2, q3, q4⟩ := q r
  have l := (ok.all r hr).1
  exact ⟨e2, q1, Tv.tv (Vv.rd (Vv.op (Vv.rd (Vv.un (Vv.rd (Vv.var q2)) (H1.h1 (lenSet_row (by omega))))) (Vv.rd (Vv.var q3)) HD.eqI)), fun _ => q4⟩
theorem p_all_w {w : Int} (h1 : 1 ≤ w) (h3 : w ≤ 3) : Gv g__law_all [.int w, .int w] (rowsT (allRows w w.toNat)) := by
  have := p_law_all (n := w.toNat) h1 h3 (by omega) (by omega)
  rw [Int.toNat_of_nonneg (by omega)] at this
  exact this
theorem eqD_ints {r s : List Int} (h : r.length ≤ 10) (k : s.length ≤ 10) : eqD (.lst (r.map D.int)) (.lst (s.map D.int)) = some (decide (r = s)) := by
  have e : ∀ r : List Int, toP (.lst (r.map D.int)) = some (.list (r.map PyData.int)) := fun r => by rw [toP, toPs_ints]; rfl
  have sh : ∀ r : List Int, r.length ≤ 10 → SeqAt.shaped (.list (r.map PyData.int)) = true := fun r h => by
    have := shaped_ints r h
    have t : (PyData.canLay0 (.tuple (r.map PyData.int)) && decide (PyData.depth (.tuple (r.map PyData.int)) ≤ 64)) = true := this
    show (PyData.canLay0 (.list (r.map PyData.int)) && decide (PyData.depth (.list (r.map PyData.int)) ≤ 64)) = true
    simp only [PyData.canLay0, PyData.depth] at t ⊢
    exact t
  unfold eqD
  rw [e, e]
  show (if _ then some (PyData.eqv (.list (r.map PyData.int)) (.list (s.map PyData.int))) else none) = _
  rw [if_pos ⟨sh r h, sh s k⟩, PyData.eqv, eqv_ints]
/-! ### odd values -/
def ok2B (d : D) : Bool := okAll (tyD d) && match d with
  | .tup ds => decide (ds.length ≤ 1000) && ds.all fun p => okAll (tyD p)
  | .lst ds => decide (ds.length ≤ 1000) && ds.all fun p => okAll (tyD p)
  | .scr _ => false
  | _ => true
theorem ok2_of {d : D} (h : ok2B d = true) : Ok2 d ∧ ∀ ms, d ≠ .scr ms := by
  unfold ok2B at h
  rw [Bool.and_eq_true] at h
  obtain ⟨h1, h2⟩ := h
  refine ⟨⟨h1, fun ds e => ?_⟩, fun ms e => ?_⟩
  · rcases e with rfl | rfl
    · simp only [Bool.and_eq_true, decide_eq_true_eq, List.all_eq_true] at h2
      exact h2
    · simp only [Bool.and_eq_true, decide_eq_true_eq, List.all_eq_true] at h2
      exact h2
  · subst e
    cases h2
def badSp (a : Int) (d : D) : Bool := ok2B d && !seenOk a d
def badIx (a : Int) (d : D) : Bool := okAll (tyD d) && !inBD 0 (a - 1) d
def badOr (w : Int) (d : D) : Bool := ok2B d && !orderOk w d
section
variable {w a : Int} {rs : List (List Int)} {d m : D}
theorem asked_sp (h : badSp a d = true) : Gv g__law_asked [tabD w a rs, .int 0, d, m] (.str "spots") := by
  unfold badSp at h
  rw [Bool.and_eq_true, Bool.not_eq_true'] at h
  exact xa_seen (x_seen (ok2_of h.1).1 h.2)
theorem asked_or (w3 : w ≤ 3) (h : badOr w d = true) : Gv g__law_asked [tabD w a rs, .int 2, d, m] (.str "order") := by
  unfold badOr at h
  rw [Bool.and_eq_true, Bool.not_eq_true'] at h
  exact xa_renamed (x_renamed w3 (ok2_of h.1).1 (ok2_of h.1).2 h.2)
theorem asked_ix1 {x : Int} (h : badIx a d = true) : Gv g__law_asked [tabD w a rs, .int 1, d, .int x] (.str "spots") := by
  unfold badIx at h
  rw [Bool.and_eq_true, Bool.not_eq_true'] at h
  exact xa_glued (x_glued h.1 ok_int (by unfold glueOk; rw [h.2]; rfl))
theorem asked_ix2 {x : Int} (h : badIx a d = true) : Gv g__law_asked [tabD w a rs, .int 1, .int x, d] (.str "spots") := by
  unfold badIx at h
  rw [Bool.and_eq_true, Bool.not_eq_true'] at h
  exact xa_glued (x_glued ok_int h.1 (by unfold glueOk; rw [h.2, Bool.and_false]))
end
/-- a loop of tests that none fails -/
theorem S.check {fi : SEnv → Out (List D)} {t : SEnv → Out Bool} {fr : SEnv → SO} {env : SEnv} {ds : List D} {i : Nat} (h0 : env[i]? = some .no) (hi : Av fi env ds env) (h : ∀ d ∈ ds, Tv t (env.set i (.im d)) false (env.set i (.im d))) :
    ∃ s, sFor fi (tgN i) (sIf t fr sNil) env = .nx (env.set i s) ∧ (s = .no ∨ ∃ x, s = .im x) := by
  have hlt : i < env.length := (List.getElem?_eq_some_iff.mp h0).1
  have e0 : env.set i .no = env := by
    refine List.ext_getElem? fun j => ?_
    by_cases hj : i = j
    · subst hj; rw [List.getElem?_set_self hlt, h0]
    · rw [List.getElem?_set_ne hj]
  obtain ⟨e, he, s, hs, h2⟩ := S.for_ (fi := fi) (tg := tgN i) (fb := sIf t fr sNil) (env := env) (fun k e => ∃ s, e = env.set i s ∧ (s = .no ∨ ∃ x, s = .im x)) hi ⟨.no, e0.symm, .inl rfl⟩ (by
    rintro k d e hx ⟨s, rfl, hs⟩
    have ht : tgN i d (env.set i s) = some (env.set i (.im d)) := by
      unfold tgN
      have : free (env.set i s) i = true := by
        unfold free
        rw [List.getElem?_set_self hlt]
        rcases hs with rfl | ⟨x, rfl⟩ <;> rfl
      rw [if_pos this, List.set_set]
    exact ⟨_, _, ht, S.ifF (h d (List.mem_of_getElem? hx)) rfl, _, rfl, .inr ⟨d, rfl⟩⟩)
  exact ⟨s, by rw [he, hs], h2⟩
/-! One table: seen, glued, renamed. -/
def EndF (o : SO) : Prop := ∃ f' e1, o = .rt (.bl true) (.mu true (feedD f') :: e1)
theorem Gp.endF {fs : SEnv → SO} {n : Nat} {d0 : D} {ms : List Bool} {ds : List D} {env : SEnv} (he : mkE (true :: ms) (d0 :: ds) ++ List.replicate (n - (ms.length + 1)) .no = env) (h : EndF (fs env)) : ∃ f', Gp (gOf fs (true :: ms) n) (d0 :: ds) (.bl true) (feedD f') := by
  obtain ⟨f', e1, h⟩ := h
  exact ⟨f', Gp.of he h rfl⟩
section
variable {P : SO → Prop} {fs gs : SEnv → SO} {env e1 : SEnv}
theorem S.seqP (h1 : fs env = .nx e1) (h2 : P (gs e1)) : P (sSeq fs gs env) := by
  rw [show sSeq fs gs env = gs e1 from S.seq h1 rfl]; exact h2
theorem S.checkP {fi : SEnv → Out (List D)} {t : SEnv → Out Bool} {fr : SEnv → SO} {ds : List D} {i : Nat} (h0 : env[i]? = some .no) (hi : Av fi env ds env) (h : ∀ d ∈ ds, Tv t (env.set i (.im d)) false (env.set i (.im d))) (k : ∀ s, (s = .no ∨ ∃ x, s = .im x) → P (gs (env.set i s))) :
    P (sSeq (sFor fi (tgN i) (sIf t fr sNil)) gs env) := by
  obtain ⟨s, h1, h2⟩ := S.check (fr := fr) h0 hi h
  exact S.seqP h1 (k s h2)
/-- again at a slot that may be taken -/
theorem S.checkP2 {fi : SEnv → Out (List D)} {t : SEnv → Out Bool} {fr : SEnv → SO} {ds : List D} {i : Nat} {s0 : Sl} (hs0 : env[i]? = some s0) (h0' : s0 = .no ∨ ∃ x, s0 = .im x) (hi : Av fi env ds env) (h : ∀ d ∈ ds, Tv t (env.set i (.im d)) false (env.set i (.im d))) (k : ∀ s, (s = .no ∨ ∃ x, s = .im x) → P (gs (env.set i s))) :
    P (sSeq (sFor fi (tgN i) (sIf t fr sNil)) gs env) := by
  have hlt : i < env.length := (List.getElem?_eq_some_iff.mp hs0).1
  have e0 : env.set i s0 = env := by
    refine List.ext_getElem? fun j => ?_
    by_cases hj : i = j
    · subst hj; rw [List.getElem?_set_self hlt, hs0]
    · rw [List.getElem?_set_ne hj]
  obtain ⟨e, he, s, hs, h2⟩ := S.for_ (fi := fi) (tg := tgN i) (fb := sIf t fr sNil) (env := env) (fun k e => ∃ s, e = env.set i s ∧ (s = .no ∨ ∃ x, s = .im x)) hi ⟨s0, e0.symm, h0'⟩ (by
    rintro k d e hx ⟨s, rfl, hs⟩
    have ht : tgN i d (env.set i s) = some (env.set i (.im d)) := by
      unfold tgN
      have : free (env.set i s) i = true := by
        unfold free
        rw [List.getElem?_set_self hlt]
        rcases hs with rfl | ⟨x, rfl⟩ <;> rfl
      rw [if_pos this, List.set_set]
    exact ⟨_, _, ht, S.ifF (h d (List.mem_of_getElem? hx)) rfl, _, rfl, .inr ⟨d, rfl⟩⟩)
  exact S.seqP (by rw [he, hs]) (k s h2)
end
/-- it goes on, and I holds -/
def NxI (I : SEnv → Prop) (o : SO) : Prop := ∃ e2, o = .nx e2 ∧ I e2
theorem S.forP {P : SO → Prop} {gs fb : SEnv → SO} {fi : SEnv → Out (List D)} {tg : D → SEnv → Option SEnv} {env e0 : SEnv} {ds : List D} (I : SEnv → Prop) (hi : Av fi env ds e0) (h0 : I e0) (hs : ∀ d ∈ ds, ∀ e, I e → ∃ e1, tg d e = some e1 ∧ NxI I (fb e1)) (k : ∀ e, I e → P (gs e)) : P (sSeq (sFor fi tg fb) gs env) := by
  obtain ⟨e, he, h⟩ := S.for_ (fi := fi) (tg := tg) (fb := fb) (env := env) (fun _ e => I e) hi h0 fun k d e hd hI => by
    obtain ⟨e1, h1, e2, h2, h3⟩ := hs d (List.mem_of_getElem? hd) e hI
    exact ⟨e1, e2, h1, h2, h3⟩
  exact S.seqP he (k e h)
theorem Tv.orF {t u : SEnv → Out Bool} {env e1 e2 : SEnv} {b : Bool} (ha : Tv t env false e1) (hb : Tv u e1 b e2) : Tv (eOrT t u) env b e2 := by
  unfold Tv at *
  unfold eOrT eB
  rw [ha]
  exact hb
abbrev odd1 (a : Int) : List D := [.tup [], .tup [.int 0, .int 0, .int 0, .int 0], .tup [.int a], .tup [.int 0, .int (-1)], .lst [.int 0], .non, .int 0, .tup [.bl true], .tup [.str "0"], .tup [.int 0, .non], .tup [.tup [.int 0]], .tup [.bl false]]
abbrev odd2 (a : Int) : List D := [.tup [.int (-1), .int 0], .tup [.int a, .int 0], .tup [.non, .int 0], .tup [.bl true, .int 0], .tup [.int 0, .int (-1), .int 0], .tup [.int 0, .bl true], .tup [.str "0", .int 0, .int 0]]
abbrev odd3 (a : Int) : List D := [.int a, .int (-1), .bl true, .non, .str "0", .tup [.int 0], .lst [.int 0], .bl false, .int (10 ^ (30 : Int).toNat)]
theorem odd12_B : ([1, 2, 3] : List Int).all (fun a => (odd1 a ++ odd2 a).all (badSp a) && (odd3 a).all (badIx a)) = true := by decide +kernel
abbrev cutO (o : List Int) : List D := cutL (o.map D.int) none (some (-1))
abbrev odd4 (w : Int) (o : List Int) : List D := [.lst [], .lst (o.map D.int ++ [.int 0]), rowT o, .non, .int 0, .lst (cutO o)]
abbrev odd5 (w : Int) (o : List Int) : List D := [.lst (cutO o ++ [.int w]), .lst (List.replicate w.toNat [D.bl (decide (getI o 0 = 0))]).flatten]
abbrev odd6 (w : Int) (o : List Int) : List D := [.lst (cutO o ++ [.non]), .str (repS "0" w), .lst (cutO o ++ [.lst [.int 0]]), .lst (List.replicate w.toNat [D.int (-1)]).flatten, .lst (List.replicate w.toNat [D.str "0"]).flatten]
def okList (p : D → Bool) (o : Out D) : Bool := match o with
  | .ok (.lst ds) _ => ds.all p && decide (ds.length ≤ 20)
  | _ => false
theorem okList_inv {p : D → Bool} {o : Out D} (h : okList p o = true) : ∃ ds, (∃ ea, o = .ok (.lst ds) ea) ∧ (∀ d ∈ ds, p d = true) ∧ ds.length ≤ 20 := by
  unfold okList at h
  split at h
  · rw [Bool.and_eq_true, decide_eq_true_eq, List.all_eq_true] at h
    exact ⟨_, ⟨_, rfl⟩, h⟩
  · cases h
theorem odd456_B : ([1, 2, 3] : List Int).all (fun w => (ordR w).all fun o => (odd4 w o ++ odd5 w o ++ odd6 w o).all (badOr w) && okList (badOr w) (g__law_odd_orders [.int w, rowT o])) = true := by decide +kernel
theorem p_odd_orders {w : Int} {o : List Int} (h1 : 1 ≤ w) (h3 : w ≤ 3) (p : Perm w o) : ∃ ds, Gv g__law_odd_orders [.int w, rowT o] (.lst ds) ∧ (∀ d ∈ ds, badOr w d = true) ∧ ds.length ≤ 20 := by
  have k := List.all_eq_true.mp (List.all_eq_true.mp odd456_B w (w123 h1 h3)) o p.i
  rw [Bool.and_eq_true] at k
  exact okList_inv k.2
abbrev envO (f : Fd) (T : D) (w a : Int) (R : D) (s5 s6 s7 s8 s9 s10 s11 s12 s13 : Sl) : SEnv := [.mu true (feedD f), .im T, .im (.int w), .im (.int a), .im R, s5, s6, s7, s8, s9, s10, s11, s12, s13, .no, .no, .no, .no]
/-- drawn positions -/
theorem Fv.drawn {i j : Nat} {w : Int} {f : Fd} (E : Fd → SEnv) (h0 : ∀ f, (E f)[0]? = some (.mu true (feedD f))) (hE : ∀ f g, (E f).set 0 (.mu true (feedD g)) = E g) (hw : 0 < w) (w3 : w ≤ 3) (hj : ∀ f (k : Nat), ∃ e2, tgN i (.int k) (wipeE (E f) [i]) = some e2 ∧ e2[0]? = some (.mu true (feedD f)) ∧ e2[j]? = some (.im (.int w)) ∧ ∀ g, wipeE (e2.set 0 (.mu true (feedD g))) [i] = wipeE (E g) [i]) (hk : ∀ f, okW (E f) [i] = true) (hr : ∀ f s, resE (E f) (wipeE (E s) [i]) [i] = E s) :
    Fv (eLc (eRng1 (eOp hAdd (eC (.int (1))) (eCall g__law_take [true, false] (eAP (eVar 0) (eAK (eC (.int (3))) eANil))))) (tgN i) eYes (eK (eCall g__law_take [true, false] (eAP (eVar 0) (eAK (eVar j) eANil)))) [i]) (E f) (.lst ((rowV (takeN f 3) w (1 + takeV f 3).toNat).map D.int)) (E (rowN (takeN f 3) w (1 + takeV f 3).toNat)) := by
  obtain ⟨t1, t2⟩ := takeV_lt (f := f) (m := 3) (by decide)
  have key := Fv.lcS (fi := eRng1 (eOp hAdd (eC (.int (1))) (eCall g__law_take [true, false] (eAP (eVar 0) (eAK (eC (.int (3))) eANil))))) (tg := tgN i) (fe := eCall g__law_take [true, false] (eAP (eVar 0) (eAK (eVar j) eANil))) (vs := [i]) (env := E f) (fun (k : Nat) => D.int k) (List.range (1 + takeV f 3).toNat) (fun f _ => D.int (takeV f w)) (fun f _ => takeN f w) E (takeN f 3)
    (I.rng1 (j := 1 + takeV f 3) (Vv.rd (Vv.op2 Vv.cst (Vv.rd (by
      have := Vv.take (fa := eC (.int 3)) (h0 f) Vv.cst (m := 3) (by decide) (by decide)
      rw [hE] at this
      exact this)) HD.addI)) (by omega)) (hk _) (small (by rw [List.length_range]; omega)) (fun s x hx => by
      obtain ⟨e2, k1, k2, k3, k4⟩ := hj s x
      exact ⟨e2, _, k1, Vv.take k2 (Vv.var k3) hw (by omega), k4 _⟩) (fun s => hr _ s)
  obtain ⟨h1, h2⟩ := run_row w (List.range (1 + takeV f 3).toNat) (takeN f 3)
  rw [h1, h2, List.length_range] at key
  exact key
/-! One table: seen, glued, renamed. -/
theorem p_one {f : Fd} {w a : Int} {rs rs1 : List (List Int)} (d : Dims w a) (h : RowsOk w a rs) (e : rs1 = sortR rs) : ∃ f', Gp g__law_one_right [feedD f, tabD w a rs1, .int w, .int a, rowsT rs] (.bl true) (feedD f') := by
  have hf := h.few
  have a1 := d.a1
  have a3 := d.a3
  have w1 := d.w1
  have w3 := d.w3
  have ok1 : RowsOk w a rs1 := by rw [e]; exact rowsOk_sort d h
  have bad1 := List.all_eq_true.mp odd12_B a (w123 a1 a3)
  rw [Bool.and_eq_true, List.all_eq_true, List.all_eq_true] at bad1
  refine Gp.endF (env := envO f (tabD w a rs1) w a (rowsT rs) .no .no .no .no .no .no .no .no .no) rfl ?_
  -- spots
  obtain ⟨t1, t2⟩ := takeV_lt (f := f) (m := 3) (by decide)
  have l0 : (rowV (takeN f 3) a (1 + takeV f 3).toNat).length = (1 + takeV f 3).toNat := rowV_len ..
  have hs := rowV_bd (w := a) (by omega) (1 + takeV f 3).toNat (takeN f 3)
  have drawn := Fv.drawn (i := 14) (j := 3) (w := a) (f := f) (fun f => envO f (tabD w a rs1) w a (rowsT rs) .no .no .no .no .no .no .no .no .no) (fun _ => rfl) (fun _ _ => rfl) (by omega) a3 (fun f k => ⟨_, rfl, rfl, rfl, fun _ => rfl⟩) (fun _ => rfl) (fun _ _ => rfl)
  generalize rowV (takeN f 3) a (1 + takeV f 3).toNat = sp at l0 hs drawn
  generalize rowN (takeN f 3) a (1 + takeV f 3).toNat = f1 at drawn
  have ls : 1 ≤ sp.length ∧ sp.length ≤ 3 := by omega
  refine S.seqP (e1 := envO f1 (tabD w a rs1) w a (rowsT rs) (.im (rowT sp)) .no .no .no .no .no .no .no .no) (S.asg (Vv.un (Vv.rd drawn.v) H1.tupleL) rfl) ?_
  refine S.seqP (e1 := envO f1 (tabD w a rs1) w a (rowsT rs) (.im (rowT sp)) (.im (rowsT (seenR rs sp))) .no .no .no .no .no .no .no) (S.asg (Fv.v (Fv.seenL h (by omega) hs (I.seqL (Vv.var rfl)) rfl fun r hr => ⟨_, rfl, I.seqT (Vv.var rfl), rfl, fun v hv => ⟨_, rfl, rfl, rfl⟩⟩)) rfl) ?_
  refine S.seqP (S.ifF (Tv.notT (Tv.tr (Vv.rd (Vv.call (Ak.cons (Vv.call (Ak.cons (Vv.var rfl) (Ak.cons Vv.cst (Ak.cons (Vv.var rfl) (Ak.cons Vv.cst Ak.nil)))) (a_seen (p_seen d ok1 ls hs))) (Ak.cons (Vv.var rfl) (Ak.cons (Vv.to (Vv.un (Vv.rd (Vv.var rfl)) (H1.h1 rfl)) (by show D.int ((sp.map D.int).length) = .int sp.length; rw [List.length_map])) (Ak.cons (Vv.var rfl) Ak.nil)))) (p_is ⟨w1, w3, by omega, by omega⟩ (seenR_ok h hs) (by rw [e, seen_sort d h ls hs])))) rfl)) rfl) ?_
  -- odd spots
  refine S.seqP (e1 := envO f1 (tabD w a rs1) w a (rowsT rs) (.im (rowT sp)) (.im (rowsT (seenR rs sp))) (.im (.lst (odd1 a))) .no .no .no .no .no .no) (S.asg (Vv.lst (ds := odd1 a) (by walk_at "ev_av") (Nat.le_of_ble_eq_true rfl)) rfl) ?_
  refine S.checkP (ds := odd1 a ++ odd2 a) rfl (I.seqL (Vv.op (Vv.rd (Vv.var rfl)) (Vv.rd (Vv.lst (ds := odd2 a) (by walk_at "ev_av") (Nat.le_of_ble_eq_true rfl))) (HD.addL (Nat.le_of_ble_eq_true rfl)))) (fun bad hb => Tv.neUn (Vv.call (Ak.cons (Vv.var rfl) (Ak.cons Vv.cst (Ak.cons (Vv.var rfl) (Ak.cons Vv.cst Ak.nil)))) (asked_sp (bad1.1 bad hb)))) ?_
  intro s8 h8
  -- glued
  obtain ⟨x1, x2⟩ := takeV_lt (f := f1) (m := a) (by omega)
  obtain ⟨y1, y2⟩ := takeV_lt (f := takeN f1 a) (m := a) (by omega)
  refine S.seqP (e1 := envO (takeN (takeN f1 a) a) (tabD w a rs1) w a (rowsT rs) (.im (rowT sp)) (.im (rowsT (seenR rs sp))) (.im (.lst (odd1 a))) s8 (.im (.int (takeV f1 a))) (.im (.int (takeV (takeN f1 a) a))) .no .no .no) (S.asg (Vv.tup (Av.cons (Vv.take (b := true) (f := f1) rfl (Vv.var rfl) (by omega) (by omega)) (Av.cons (Vv.take (b := true) (f := takeN f1 a) rfl (Vv.var rfl) (by omega) (by omega)) Av.nil)) (Nat.le_of_ble_eq_true rfl)) rfl) ?_
  generalize takeV (takeN f1 a) a = y at y1 y2
  generalize takeV f1 a = x at x1 x2
  generalize takeN (takeN f1 a) a = f2
  refine S.seqP (S.ifF (Tv.notT (Tv.tr (Vv.rd (Vv.call (Ak.cons (Vv.call (Ak.cons (Vv.var rfl) (Ak.cons Vv.cst (Ak.cons (Vv.var rfl) (Ak.cons (Vv.var rfl) Ak.nil)))) (a_glued (p_glued d ok1 ⟨x1, x2⟩ ⟨y1, y2⟩))) (Ak.cons (Vv.var rfl) (Ak.cons (Vv.var rfl) (Ak.cons (Fv.v (Fv.gluL h ⟨x1, x2⟩ ⟨y1, y2⟩ (I.seqL (Vv.var rfl)) rfl fun r hr => ⟨_, rfl, rfl, rfl, rfl⟩)) Ak.nil)))) (p_is d (fil_ok h) (by rw [e, fil_sort d h])))) rfl)) rfl) ?_
  refine S.checkP2 (ds := odd3 a) (s0 := s8) rfl h8 (I.seqL (Vv.lst (ds := odd3 a) (Av.cons (Vv.var rfl) (Av.cons (by walk_at "ev") (Av.cons (by walk_at "ev") (Av.cons (by walk_at "ev") (Av.cons (by walk_at "ev") (Av.cons (by walk_at "ev") (Av.cons (by walk_at "ev") (Av.cons (by walk_at "ev") (Av.cons (Vv.op (Vv.rd Vv.cst) (Vv.rd Vv.cst) (HD.pow (by decide))) Av.nil))))))))) (Nat.le_of_ble_eq_true rfl))) (fun bad hb => Tv.to (Tv.or (b1 := false) (b2 := false) (Tv.neUn (Vv.call (Ak.cons (Vv.var rfl) (Ak.cons Vv.cst (Ak.cons (Vv.var rfl) (Ak.cons (Vv.var rfl) Ak.nil)))) (asked_ix1 (bad1.2 bad hb)))) fun _ => Tv.neUn (Vv.call (Ak.cons (Vv.var rfl) (Ak.cons Vv.cst (Ak.cons (Vv.var rfl) (Ak.cons (Vv.var rfl) Ak.nil)))) (asked_ix2 (bad1.2 bad hb)))) rfl) ?_
  intro s8' h8'
  clear h8
  -- renamed
  obtain ⟨o1, o2⟩ := ord_ne w1 w3
  have hm := pick_mem (f := f2) (ds := (ordR w).map rowT) (by simpa using o1)
  obtain ⟨o, ho, eo⟩ := List.mem_map.mp hm
  have po := ord_perm w1 w3 ho
  have pl := po.l
  refine S.seqP (e1 := envO (takeN f2 ((ordR w).map rowT).length) (tabD w a rs1) w a (rowsT rs) (.im (rowT sp)) (.im (rowsT (seenR rs sp))) (.im (.lst (odd1 a))) s8' (.im (.int x)) (.im (.int y)) (.im (rowT o)) .no .no) (S.asg (Vv.to (Vv.pick (b := true) (f := f2) (ds := (ordR w).map rowT) rfl (Fv.v (Fv.ordL rowT w1 w3 (I.seqL (Vv.call (Ak.cons (Vv.var rfl) (Ak.cons (Vv.var rfl) Ak.nil)) (p_all_w w1 w3))) rfl fun r => ⟨_, rfl, rfl, rfl, Vv.var rfl⟩)) (by simpa using o1) (by rw [List.length_map]; omega)) eo.symm) rfl) ?_
  generalize takeN f2 ((ordR w).map rowT).length = f3
  refine S.seqP (e1 := envO f3 (tabD w a rs1) w a (rowsT rs) (.im (rowT sp)) (.im (rowsT (seenR rs sp))) (.im (.lst (odd1 a))) s8' (.im (.int x)) (.im (.int y)) (.im (rowT o)) (.im (rowsT (renR rs o))) .no) (S.asg (Fv.v (Fv.renL (O := rowT o) h (by omega) (fun v v1 v2 => ix_row v1 (by omega)) (I.seqL (Vv.var rfl)) rfl fun r hr => ⟨_, rfl, rfl, rfl, fun v hv => ⟨_, rfl, Vv.rd (Vv.var rfl), rfl⟩⟩)) rfl) ?_
  refine S.seqP (e1 := envO f3 (tabD w a rs1) w a (rowsT rs) (.im (rowT sp)) (.im (rowsT (seenR rs sp))) (.im (.lst (odd1 a))) s8' (.im (.int x)) (.im (.int y)) (.im (rowT o)) (.im (rowsT (renR rs o))) (.im (.lst (o.map D.int)))) (S.asg (Vv.un (Vv.rd (Vv.var rfl)) (H1.list (.inr rfl))) rfl) ?_
  refine S.seqP (S.ifF (Tv.to (Tv.or (b1 := false) (b2 := false) (Tv.notT (Tv.tr (Vv.rd (Vv.call (Ak.cons (Vv.call (Ak.cons (Vv.var rfl) (Ak.cons Vv.cst (Ak.cons (Vv.var rfl) (Ak.cons Vv.cst Ak.nil)))) (a_renamed (p_renamed d ok1 po.l po.b po.n))) (Ak.cons (Vv.var rfl) (Ak.cons (Vv.var rfl) (Ak.cons (Vv.var rfl) Ak.nil)))) (p_is d (renR_ok h po.l po.b) (by rw [e, ren_sort d h po.l po.b])))) rfl)) fun _ => Tv.to (Tv.tv (Vv.rd (Vv.op (Vv.rd (Vv.var rfl)) (Vv.rd (Vv.un (Vv.rd (Vv.var rfl)) (H1.list (.inr rfl)))) (HD.neX rfl (eqD_ints (by omega) (by omega)))))) (by simp)) rfl) rfl) ?_
  -- odd orders
  have bad2 := List.all_eq_true.mp (List.all_eq_true.mp odd456_B w (w123 w1 w3)) o po.i
  rw [Bool.and_eq_true, List.all_eq_true] at bad2
  obtain ⟨ds7, g7, q7, l7⟩ := p_odd_orders w1 w3 po
  have lo : o.length ≤ 3 := by omega
  have lc : (cutL (o.map D.int) none (some (-1))).length ≤ 3 := by
    show (List.take _ (List.drop _ (o.map D.int))).length ≤ 3
    rw [List.length_take, List.length_drop, List.length_map]; omega
  refine S.seqP (e1 := envO f3 (tabD w a rs1) w a (rowsT rs) (.im (rowT sp)) (.im (rowsT (seenR rs sp))) (.im (.lst (odd4 w o))) s8' (.im (.int x)) (.im (.int y)) (.im (rowT o)) (.im (rowsT (renR rs o))) (.im (.lst (o.map D.int)))) (S.asg (Vv.lst (ds := odd4 w o) (Av.cons (Vv.lst Av.nil (Nat.le_of_ble_eq_true rfl)) (Av.cons (Vv.op (Vv.rd (Vv.un (Vv.rd (Vv.var rfl)) (H1.list (.inr rfl)))) (Vv.rd (Vv.lst (Av.cons Vv.cst Av.nil) (Nat.le_of_ble_eq_true rfl))) (HD.addL (by rw [List.length_map]; exact small (by simp; omega)))) (Av.cons (Vv.var rfl) (Av.cons Vv.cst (Av.cons Vv.cst (Av.cons (Vv.slL (Vv.rd (Vv.un (Vv.rd (Vv.var rfl)) (H1.list (.inr rfl)))) Pv.no (Pv.some (Vv.rd (Vv.un (Vv.rd Vv.cst) (H1.h1 rfl))))) Av.nil)))))) (Nat.le_of_ble_eq_true rfl)) rfl) ?_
  refine S.seqP (e1 := envO f3 (tabD w a rs1) w a (rowsT rs) (.im (rowT sp)) (.im (rowsT (seenR rs sp))) (.im (.lst (odd4 w o ++ odd5 w o))) s8' (.im (.int x)) (.im (.int y)) (.im (rowT o)) (.im (rowsT (renR rs o))) (.im (.lst (o.map D.int)))) (S.asg (Vv.op (Vv.rd (Vv.var rfl)) (Vv.rd (Vv.lst (ds := odd5 w o) (Av.cons (Vv.op (Vv.rd (Vv.un (Vv.rd (Vv.slT (Vv.rd (Vv.var rfl)) Pv.no (Pv.some (Vv.rd (Vv.un (Vv.rd Vv.cst) (H1.h1 rfl)))))) (H1.list (.inr rfl)))) (Vv.rd (Vv.lst (Av.cons (Vv.var rfl) Av.nil) (Nat.le_of_ble_eq_true rfl))) (HD.addL (small (by simp; omega)))) (Av.cons (Vv.op (Vv.rd (Vv.lst (Av.cons (Vv.op (Vv.rd (Vv.op (Vv.rd (Vv.var rfl)) (Vv.rd Vv.cst) (HD.h2 (ix_row (by decide) (by omega))))) (Vv.rd Vv.cst) HD.eqI) Av.nil) (Nat.le_of_ble_eq_true rfl))) (Vv.rd (Vv.var rfl)) (HD.mulL ⟨by omega, by omega, small (by simp; omega)⟩)) Av.nil)) (Nat.le_of_ble_eq_true rfl))) (HD.addL (Nat.le_of_ble_eq_true rfl))) rfl) ?_
  refine S.seqP (e1 := envO f3 (tabD w a rs1) w a (rowsT rs) (.im (rowT sp)) (.im (rowsT (seenR rs sp))) (.im (.lst (odd4 w o ++ odd5 w o ++ odd6 w o))) s8' (.im (.int x)) (.im (.int y)) (.im (rowT o)) (.im (rowsT (renR rs o))) (.im (.lst (o.map D.int)))) (S.asg (Vv.op (Vv.rd (Vv.var rfl)) (Vv.rd (Vv.lst (ds := odd6 w o) (Av.cons (Vv.op (Vv.rd (Vv.un (Vv.rd (Vv.slT (Vv.rd (Vv.var rfl)) Pv.no (Pv.some (Vv.rd (Vv.un (Vv.rd Vv.cst) (H1.h1 rfl)))))) (H1.list (.inr rfl)))) (Vv.rd (Vv.lst (Av.cons Vv.cst Av.nil) (Nat.le_of_ble_eq_true rfl))) (HD.addL (small (by simp; omega)))) (Av.cons (Vv.op (Vv.rd Vv.cst) (Vv.rd (Vv.var rfl)) (HD.mulS ⟨w1, by omega, by decide, by decide⟩)) (Av.cons (Vv.op (Vv.rd (Vv.un (Vv.rd (Vv.slT (Vv.rd (Vv.var rfl)) Pv.no (Pv.some (Vv.rd (Vv.un (Vv.rd Vv.cst) (H1.h1 rfl)))))) (H1.list (.inr rfl)))) (Vv.rd (Vv.lst (Av.cons (by walk_at "ev") Av.nil) (Nat.le_of_ble_eq_true rfl))) (HD.addL (small (by simp; omega)))) (Av.cons (Vv.op (Vv.rd (Vv.lst (Av.cons (Vv.un (Vv.rd Vv.cst) (H1.h1 rfl)) Av.nil) (Nat.le_of_ble_eq_true rfl))) (Vv.rd (Vv.var rfl)) (HD.mulL ⟨by omega, by omega, small (by simp; omega)⟩)) (Av.cons (Vv.op (Vv.rd (Vv.lst (Av.cons Vv.cst Av.nil) (Nat.le_of_ble_eq_true rfl))) (Vv.rd (Vv.var rfl)) (HD.mulL ⟨by omega, by omega, small (by simp; omega)⟩)) Av.nil))))) (Nat.le_of_ble_eq_true rfl))) (HD.addL (Nat.le_of_ble_eq_true rfl))) rfl) ?_
  refine S.seqP (e1 := envO f3 (tabD w a rs1) w a (rowsT rs) (.im (rowT sp)) (.im (rowsT (seenR rs sp))) (.im (.lst (odd4 w o ++ odd5 w o ++ odd6 w o ++ ds7))) s8' (.im (.int x)) (.im (.int y)) (.im (rowT o)) (.im (rowsT (renR rs o))) (.im (.lst (o.map D.int)))) (S.asg (Vv.op2 (Vv.var rfl) (Vv.rd (Vv.call (Ak.cons (Vv.var rfl) (Ak.cons (Vv.var rfl) Ak.nil)) g7)) (HD.addL (small (by simp; omega)))) rfl) ?_
  have bad3 : ∀ d ∈ odd4 w o ++ odd5 w o ++ odd6 w o ++ ds7, badOr w d = true := fun d hd => by
    rcases List.mem_append.mp hd with hd | hd
    · exact bad2.1 d hd
    · exact q7 d hd
  have l9 : (odd4 w o ++ odd5 w o ++ odd6 w o ++ ds7).length ≤ 1000 := by simp; omega
  generalize odd4 w o ++ odd5 w o ++ odd6 w o ++ ds7 = all9 at bad3 l9
  refine ⟨f3, _, S.ret (Vv.to (Vv.op (Vv.rd (Fv.v (Fv.lc id all9 (fun _ => false) id (off_N (i := 8)) (by decide) (I.seqL (ds := all9.map id) (by rw [List.map_id]; exact Vv.var rfl)) (by rcases h8' with rfl | ⟨z, rfl⟩ <;> rfl) (small l9) fun bad hb => ⟨_, rfl, Tv.neUn (Vv.call (Ak.cons (Vv.var rfl) (Ak.cons Vv.cst (Ak.cons (Vv.var rfl) (Ak.cons Vv.cst Ak.nil)))) (asked_or w3 (bad3 bad hb))), fun z => nomatch z⟩))) (Vv.rd (Vv.lst Av.nil (Nat.le_of_ble_eq_true rfl))) (HD.eqX (b := .lst []) (bb := true) rfl ?_)) rfl)⟩
  rw [List.filter_eq_nil_iff.mpr (by simp)]
  rfl
/-! One table, in several ways. -/
abbrev envT (f : Fd) (T : D) (w a : Int) (R : D) (s5 s6 s7 s8 s9 s10 s11 s12 s13 : Sl) : SEnv := [.mu true (feedD f), .im T, .im (.int w), .im (.int a), .im R, s5, s6, s7, s8, s9, s10, s11, s12, s13, .no, .no, .no, .no]
/-- positions -/
structure Spots (a : Int) (sp : List Int) : Prop where
  l : 1 ≤ sp.length ∧ sp.length ≤ 3
  b : ∀ m ∈ sp, 0 ≤ m ∧ m < a
theorem drawn_sp {f : Fd} {a : Int} (a1 : 1 ≤ a) : Spots a (rowV (takeN f 3) a (1 + takeV f 3).toNat) := by
  obtain ⟨t1, t2⟩ := takeV_lt (f := f) (m := 3) (by decide)
  exact ⟨by rw [rowV_len]; omega, rowV_bd (by omega) _ _⟩
/-- the k-th of two or three -/
theorem ix_two {x y : D} {k : Nat} (h : k < 2) : gIx (.lst [x, y]) (.int k) = some (if k = 0 then x else y) := by
  have : k = 0 ∨ k = 1 := by omega
  rcases this with rfl | rfl <;> rfl
theorem p_twice {f : Fd} {w a : Int} {rs rs1 : List (List Int)} (d : Dims w a) (h : RowsOk w a rs) (e : rs1 = sortR rs) : ∃ f', Gp g__law_twice_right [feedD f, tabD w a rs1, .int w, .int a, rowsT rs] (.bl true) (feedD f') := by
  have hf := h.few
  have a1 := d.a1
  have a3 := d.a3
  have w1 := d.w1
  have w3 := d.w3
  have ok1 : RowsOk w a rs1 := by rw [e]; exact rowsOk_sort d h
  refine Gp.endF (env := envT f (tabD w a rs1) w a (rowsT rs) .no .no .no .no .no .no .no .no .no) rfl ?_
  -- tuples
  obtain ⟨sp0, sp1, f1, k0, k1, ht⟩ : ∃ sp0 sp1 f1, Spots a sp0 ∧ Spots a sp1 ∧ Vv (eLc (eRng1 (eC (.int (2)))) (tgN 5) eYes (eK (eU hTuple (eLc (eRng1 (eOp hAdd (eC (.int (1))) (eCall g__law_take [true, false] (eAP (eVar 0) (eAK (eC (.int (3))) eANil))))) (tgN 14) eYes (eK (eCall g__law_take [true, false] (eAP (eVar 0) (eAK (eVar 3) eANil)))) [14]))) [5])
      (envT f (tabD w a rs1) w a (rowsT rs) .no .no .no .no .no .no .no .no .no) (.lst [rowT sp0, rowT sp1]) (envT f1 (tabD w a rs1) w a (rowsT rs) .no .no .no .no .no .no .no .no .no) := by
    have one := fun (f : Fd) (x : D) => Fv.drawn (i := 14) (j := 3) (w := a) (f := f) (fun f => envT f (tabD w a rs1) w a (rowsT rs) (.im x) .no .no .no .no .no .no .no .no) (fun _ => rfl) (fun _ _ => rfl) (by omega) a3 (fun f k => ⟨_, rfl, rfl, rfl, fun _ => rfl⟩) (fun _ => rfl) (fun _ _ => rfl)
    have key := Fv.lcS (fi := eRng1 (eC (.int (2)))) (tg := tgN 5) (fe := eU hTuple (eLc (eRng1 (eOp hAdd (eC (.int (1))) (eCall g__law_take [true, false] (eAP (eVar 0) (eAK (eC (.int (3))) eANil))))) (tgN 14) eYes (eK (eCall g__law_take [true, false] (eAP (eVar 0) (eAK (eVar 3) eANil)))) [14])) (vs := [5]) (env := envT f (tabD w a rs1) w a (rowsT rs) .no .no .no .no .no .no .no .no .no)
      (fun (k : Nat) => D.int k) (List.range (2 : Int).toNat) (fun f _ => rowT (rowV (takeN f 3) a (1 + takeV f 3).toNat)) (fun f _ => rowN (takeN f 3) a (1 + takeV f 3).toNat) (fun f => envT f (tabD w a rs1) w a (rowsT rs) .no .no .no .no .no .no .no .no .no) f
      (I.rng1 (Vv.rd Vv.cst) (by decide)) rfl (Nat.le_of_ble_eq_true rfl) (fun s x hx => ⟨_, _, rfl, Vv.un (Vv.rd (one s (.int x)).v) H1.tupleL, rfl⟩) (fun s => rfl)
    exact ⟨_, _, _, drawn_sp a1, drawn_sp a1, key.v⟩
  refine S.seqP (e1 := envT f1 (tabD w a rs1) w a (rowsT rs) .no (.im (.lst [rowT sp0, rowT sp1])) .no .no .no .no .no .no .no) (S.asg ht rfl) ?_
  clear ht
  -- pairs
  obtain ⟨x0, y0, x1, y1, f2, hx0, hy0, hx1, hy1, hp⟩ : ∃ x0 y0 x1 y1 f2, (0 ≤ x0 ∧ x0 < a) ∧ (0 ≤ y0 ∧ y0 < a) ∧ (0 ≤ x1 ∧ x1 < a) ∧ (0 ≤ y1 ∧ y1 < a) ∧ Vv (eLc (eRng1 (eC (.int (2)))) (tgN 5) eYes (eK (eTup (eCons (eCall g__law_take [true, false] (eAP (eVar 0) (eAK (eVar 3) eANil))) (eCons (eCall g__law_take [true, false] (eAP (eVar 0) (eAK (eVar 3) eANil))) eNil)))) [5])
      (envT f1 (tabD w a rs1) w a (rowsT rs) .no (.im (.lst [rowT sp0, rowT sp1])) .no .no .no .no .no .no .no) (.lst [.tup [.int x0, .int y0], .tup [.int x1, .int y1]]) (envT f2 (tabD w a rs1) w a (rowsT rs) .no (.im (.lst [rowT sp0, rowT sp1])) .no .no .no .no .no .no .no) := by
    have key := Fv.lcS (fi := eRng1 (eC (.int (2)))) (tg := tgN 5) (fe := eTup (eCons (eCall g__law_take [true, false] (eAP (eVar 0) (eAK (eVar 3) eANil))) (eCons (eCall g__law_take [true, false] (eAP (eVar 0) (eAK (eVar 3) eANil))) eNil))) (vs := [5]) (env := envT f1 (tabD w a rs1) w a (rowsT rs) .no (.im (.lst [rowT sp0, rowT sp1])) .no .no .no .no .no .no .no)
      (fun (k : Nat) => D.int k) (List.range (2 : Int).toNat) (fun f _ => .tup [.int (takeV f a), .int (takeV (takeN f a) a)]) (fun f _ => takeN (takeN f a) a) (fun f => envT f (tabD w a rs1) w a (rowsT rs) .no (.im (.lst [rowT sp0, rowT sp1])) .no .no .no .no .no .no .no) f1
      (I.rng1 (Vv.rd Vv.cst) (by decide)) rfl (Nat.le_of_ble_eq_true rfl) (fun s x hx => ⟨_, _, rfl, Vv.tup (Av.cons (Vv.take (b := true) (f := s) rfl (Vv.var rfl) (by omega) (by omega)) (Av.cons (Vv.take (b := true) (f := takeN s a) rfl (Vv.var rfl) (by omega) (by omega)) Av.nil)) (Nat.le_of_ble_eq_true rfl), rfl⟩) (fun s => rfl)
    exact ⟨_, _, _, _, _, takeV_lt (by omega), takeV_lt (by omega), takeV_lt (by omega), takeV_lt (by omega), key.v⟩
  refine S.seqP (e1 := envT f2 (tabD w a rs1) w a (rowsT rs) .no (.im (.lst [rowT sp0, rowT sp1])) (.im (.lst [.tup [.int x0, .int y0], .tup [.int x1, .int y1]])) .no .no .no .no .no .no) (S.asg hp rfl) ?_
  clear hp
  -- orders
  obtain ⟨o1, o2⟩ := ord_ne w1 w3
  refine S.seqP (e1 := envT f2 (tabD w a rs1) w a (rowsT rs) .no (.im (.lst [rowT sp0, rowT sp1])) (.im (.lst [.tup [.int x0, .int y0], .tup [.int x1, .int y1]])) (.im (.lst ((ordR w).map fun o => .lst (o.map D.int)))) .no .no .no .no .no)
    (S.asg (Fv.v (Fv.ordL (fun o => .lst (o.map D.int)) w1 w3 (I.seqL (Vv.call (Ak.cons (Vv.var rfl) (Ak.cons (Vv.var rfl) Ak.nil)) (p_all_w w1 w3))) rfl fun r => ⟨_, rfl, rfl, rfl, Vv.un (Vv.rd (Vv.var rfl)) (H1.list (.inr rfl))⟩)) rfl) ?_
  have ne : ((ordR w).map fun o => D.lst (o.map D.int)) ≠ [] := by simpa using o1
  have ll : ((ordR w).map fun o => D.lst (o.map D.int)).length ≤ 1000 := by rw [List.length_map]; omega
  have pk : ∀ f : Fd, ∃ o, pickV f ((ordR w).map fun o => .lst (o.map D.int)) = .lst (o.map D.int) ∧ Perm w o := fun f => by
    obtain ⟨o, ho, eo⟩ := List.mem_map.mp (pick_mem (f := f) ne)
    exact ⟨o, eo.symm, ord_perm w1 w3 ho⟩
  generalize ((ordR w).map fun o => D.lst (o.map D.int)) = L at ne ll pk ⊢
  obtain ⟨oa, ob, f3, pa, pb, hso⟩ : ∃ oa ob f3, Perm w oa ∧ Perm w ob ∧ Vv (eLst (eCons (eCall g__law_pick [true, false] (eAP (eVar 0) (eAK (eVar 8) eANil))) (eCons (eCall g__law_pick [true, false] (eAP (eVar 0) (eAK (eVar 8) eANil))) eNil)))
      (envT f2 (tabD w a rs1) w a (rowsT rs) .no (.im (.lst [rowT sp0, rowT sp1])) (.im (.lst [.tup [.int x0, .int y0], .tup [.int x1, .int y1]])) (.im (.lst L)) .no .no .no .no .no)
      (.lst [.lst (oa.map D.int), .lst (ob.map D.int)])
      (envT f3 (tabD w a rs1) w a (rowsT rs) .no (.im (.lst [rowT sp0, rowT sp1])) (.im (.lst [.tup [.int x0, .int y0], .tup [.int x1, .int y1]])) (.im (.lst L)) .no .no .no .no .no) := by
    obtain ⟨oa, ea, pa⟩ := pk f2
    obtain ⟨ob, eb, pb⟩ := pk (takeN f2 L.length)
    refine ⟨oa, ob, takeN (takeN f2 L.length) L.length, pa, pb, ?_⟩
    rw [← ea, ← eb]
    exact Vv.lst (Av.cons (Vv.pick (b := true) (f := f2) rfl (Vv.var rfl) ne ll) (Av.cons (Vv.pick (b := true) (f := takeN f2 L.length) rfl (Vv.var rfl) ne ll) Av.nil)) (Nat.le_of_ble_eq_true rfl)
  refine S.seqP (e1 := envT f3 (tabD w a rs1) w a (rowsT rs) .no (.im (.lst [rowT sp0, rowT sp1])) (.im (.lst [.tup [.int x0, .int y0], .tup [.int x1, .int y1]])) (.im (.lst L)) (.im (.lst [.lst (oa.map D.int), .lst (ob.map D.int)])) .no .no .no .no) (S.asg hso rfl) ?_
  clear hso
  generalize (D.lst L) = O8
  -- the loop
  have body : ∀ (k : Nat) (env : SEnv) (s10 s11 s12 s13 : Sl), k < 2 → (s10 = .no ∨ ∃ x, s10 = .im x) → (s11 = .no ∨ ∃ x, s11 = .im x) → (s12 = .no ∨ ∃ x, s12 = .im x) → (s13 = .no ∨ ∃ x, s13 = .im x) →
      env = envT f3 (tabD w a rs1) w a (rowsT rs) (.im (.int k)) (.im (.lst [rowT sp0, rowT sp1])) (.im (.lst [.tup [.int x0, .int y0], .tup [.int x1, .int y1]])) (.im O8) (.im (.lst [.lst (oa.map D.int), .lst (ob.map D.int)])) s10 s11 s12 s13 →
      ∃ s10 s11 s12 s13 : Sl, (s10 = .no ∨ ∃ x, s10 = .im x) ∧ (s11 = .no ∨ ∃ x, s11 = .im x) ∧ (s12 = .no ∨ ∃ x, s12 = .im x) ∧ (s13 = .no ∨ ∃ x, s13 = .im x) ∧
      (sSeq (sAsg (eLc (eSeq (eVar 4)) (tgN 15) eYes (eK (eU hTuple (eLc (eSeq (eOp (EV.h2 gIx) (eVar 6) (eVar 5))) (tgN 16) eYes (eK (eOp (EV.h2 gIx) (eVar 15) (eVar 16))) [16]))) [15]) (tgN 10))
 (sSeq (sIf (eNotT (eTr (eCall g__law_is [false, false, false, false] (eAK (eMeth "Table" "seen" g_Table_seen [false] (eVar 1) (eAK (eOp (EV.h2 gIx) (eVar 6) (eVar 5)) eANil)) (eAK (eVar 2) (eAK (eU (EV.h1 gLen) (eOp (EV.h2 gIx) (eVar 6) (eVar 5))) (eAK (eVar 10) eANil))))))) (sRet (eC (.bl false))) sNil)
 (sSeq (sAsg (eOp (EV.h2 gIx) (eVar 7) (eVar 5)) (tgT (tgsCons (tgN 11) (tgsCons (tgN 12) tgsNil))))
 (sSeq (sIf (eNotT (eTr (eCall g__law_is [false, false, false, false] (eAK (eMeth "Table" "glued" g_Table_glued [false, false] (eVar 1) (eAK (eVar 11) (eAK (eVar 12) eANil))) (eAK (eVar 2) (eAK (eVar 3) (eAK (eLc (eSeq (eVar 4)) (tgN 15) (eTv (eOp hEqX (eOp (EV.h2 gIx) (eVar 15) (eVar 11)) (eOp (EV.h2 gIx) (eVar 15) (eVar 12)))) (eK (eVar 15)) [15]) eANil))))))) (sRet (eC (.bl false))) sNil)
 (sSeq (sAsg (eLc (eSeq (eVar 4)) (tgN 15) eYes (eK (eU hTuple (eLc (eSeq (eVar 15)) (tgN 17) eYes (eK (eOp (EV.h2 gIx) (eOp (EV.h2 gIx) (eVar 9) (eVar 5)) (eVar 17))) [17]))) [15]) (tgN 13))
 (sIf (eNotT (eTr (eCall g__law_is [false, false, false, false] (eAK (eMeth "Table" "renamed" g_Table_renamed [false] (eVar 1) (eAK (eOp (EV.h2 gIx) (eVar 9) (eVar 5)) eANil)) (eAK (eVar 2) (eAK (eVar 3) (eAK (eVar 13) eANil))))))) (sRet (eC (.bl false))) sNil)))))) env =
      .nx (envT f3 (tabD w a rs1) w a (rowsT rs) (.im (.int k)) (.im (.lst [rowT sp0, rowT sp1])) (.im (.lst [.tup [.int x0, .int y0], .tup [.int x1, .int y1]])) (.im O8) (.im (.lst [.lst (oa.map D.int), .lst (ob.map D.int)])) s10 s11 s12 s13) := by
    rintro k env s10 s11 s12 s13 hk q10 q11 q12 q13 rfl
    obtain ⟨sp, esp, ksp⟩ : ∃ sp, gIx (.lst [rowT sp0, rowT sp1]) (.int k) = some (rowT sp) ∧ Spots a sp := by
      rw [ix_two hk]
      split
      · exact ⟨_, rfl, k0⟩
      · exact ⟨_, rfl, k1⟩
    obtain ⟨x, y, exy, hx, hy⟩ : ∃ x y, gIx (.lst [.tup [.int x0, .int y0], .tup [.int x1, .int y1]]) (.int k) = some (.tup [.int x, .int y]) ∧ (0 ≤ x ∧ x < a) ∧ (0 ≤ y ∧ y < a) := by
      rw [ix_two hk]
      split
      · exact ⟨_, _, rfl, hx0, hy0⟩
      · exact ⟨_, _, rfl, hx1, hy1⟩
    obtain ⟨o, eo, po⟩ : ∃ o, gIx (.lst [.lst (oa.map D.int), .lst (ob.map D.int)]) (.int k) = some (.lst (o.map D.int)) ∧ Perm w o := by
      rw [ix_two hk]
      split
      · exact ⟨_, rfl, pa⟩
      · exact ⟨_, rfl, pb⟩
    have pl := po.l
    have ls := ksp.l
    have hs := ksp.b
    refine ⟨.im (rowsT (seenR rs sp)), .im (.int x), .im (.int y), .im (rowsT (renR rs o)), .inr ⟨_, rfl⟩, .inr ⟨_, rfl⟩, .inr ⟨_, rfl⟩, .inr ⟨_, rfl⟩, ?_⟩
    refine S.seq (e1 := envT f3 (tabD w a rs1) w a (rowsT rs) (.im (.int k)) (.im (.lst [rowT sp0, rowT sp1])) (.im (.lst [.tup [.int x0, .int y0], .tup [.int x1, .int y1]])) (.im O8) (.im (.lst [.lst (oa.map D.int), .lst (ob.map D.int)])) (.im (rowsT (seenR rs sp))) s11 s12 s13) (S.asg (Fv.v (Fv.seenL h (by omega) hs (I.seqL (Vv.var rfl)) rfl fun r hr => ⟨_, rfl, I.seqT (Vv.op (Vv.rd (Vv.var rfl)) (Vv.rd (Vv.var rfl)) (HD.h2 esp)), rfl, fun v hv => ⟨_, rfl, rfl, rfl⟩⟩)) (by rcases q10 with rfl | ⟨z, rfl⟩ <;> rfl)) ?_
    refine S.seq (S.ifF (Tv.notT (Tv.tr (Vv.rd (Vv.call (Ak.cons (Vv.method (Vv.var rfl) (by decide) (Ak.cons (Vv.op (Vv.rd (Vv.var rfl)) (Vv.rd (Vv.var rfl)) (HD.h2 esp)) Ak.nil) (p_seen d ok1 ls hs)) (Ak.cons (Vv.var rfl) (Ak.cons (Vv.to (Vv.un (Vv.rd (Vv.op (Vv.rd (Vv.var rfl)) (Vv.rd (Vv.var rfl)) (HD.h2 esp))) (H1.h1 rfl)) (by show D.int ((sp.map D.int).length) = .int sp.length; rw [List.length_map])) (Ak.cons (Vv.var rfl) Ak.nil)))) (p_is ⟨w1, w3, by omega, by omega⟩ (seenR_ok h hs) (by rw [e, seen_sort d h ls hs])))) rfl)) rfl) ?_
    refine S.seq (e1 := envT f3 (tabD w a rs1) w a (rowsT rs) (.im (.int k)) (.im (.lst [rowT sp0, rowT sp1])) (.im (.lst [.tup [.int x0, .int y0], .tup [.int x1, .int y1]])) (.im O8) (.im (.lst [.lst (oa.map D.int), .lst (ob.map D.int)])) (.im (rowsT (seenR rs sp))) (.im (.int x)) (.im (.int y)) s13) (S.asg (Vv.op (Vv.rd (Vv.var rfl)) (Vv.rd (Vv.var rfl)) (HD.h2 exy)) (by rcases q11 with rfl | ⟨z, rfl⟩ <;> rcases q12 with rfl | ⟨z, rfl⟩ <;> rfl)) ?_
    refine S.seq (S.ifF (Tv.notT (Tv.tr (Vv.rd (Vv.call (Ak.cons (Vv.method (Vv.var rfl) (by decide) (Ak.cons (Vv.var rfl) (Ak.cons (Vv.var rfl) Ak.nil)) (p_glued d ok1 hx hy)) (Ak.cons (Vv.var rfl) (Ak.cons (Vv.var rfl) (Ak.cons (Fv.v (Fv.gluL h hx hy (I.seqL (Vv.var rfl)) rfl fun r hr => ⟨_, rfl, rfl, rfl, rfl⟩)) Ak.nil)))) (p_is d (fil_ok h) (by rw [e, fil_sort d h])))) rfl)) rfl) ?_
    refine S.seq (e1 := envT f3 (tabD w a rs1) w a (rowsT rs) (.im (.int k)) (.im (.lst [rowT sp0, rowT sp1])) (.im (.lst [.tup [.int x0, .int y0], .tup [.int x1, .int y1]])) (.im O8) (.im (.lst [.lst (oa.map D.int), .lst (ob.map D.int)])) (.im (rowsT (seenR rs sp))) (.im (.int x)) (.im (.int y)) (.im (rowsT (renR rs o)))) (S.asg (Fv.v (Fv.renL (O := .lst (o.map D.int)) h (by omega) (fun v v1 v2 => ix_lst v1 (by omega)) (I.seqL (Vv.var rfl)) rfl fun r hr => ⟨_, rfl, rfl, rfl, fun v hv => ⟨_, rfl, Vv.rd (Vv.op (Vv.rd (Vv.var rfl)) (Vv.rd (Vv.var rfl)) (HD.h2 eo)), rfl⟩⟩)) (by rcases q13 with rfl | ⟨z, rfl⟩ <;> rfl)) ?_
    exact S.ifF (Tv.notT (Tv.tr (Vv.rd (Vv.call (Ak.cons (Vv.method (Vv.var rfl) (by decide) (Ak.cons (Vv.op (Vv.rd (Vv.var rfl)) (Vv.rd (Vv.var rfl)) (HD.h2 eo)) Ak.nil) (p_renamed d ok1 po.l po.b po.n)) (Ak.cons (Vv.var rfl) (Ak.cons (Vv.var rfl) (Ak.cons (Vv.var rfl) Ak.nil)))) (p_is d (renR_ok h po.l po.b) (by rw [e, ren_sort d h po.l po.b])))) rfl)) rfl
  refine S.forP (fun env => ∃ s5 s10 s11 s12 s13 : Sl, env = envT f3 (tabD w a rs1) w a (rowsT rs) s5 (.im (.lst [rowT sp0, rowT sp1])) (.im (.lst [.tup [.int x0, .int y0], .tup [.int x1, .int y1]])) (.im O8) (.im (.lst [.lst (oa.map D.int), .lst (ob.map D.int)])) s10 s11 s12 s13 ∧ (s5 = .no ∨ ∃ x, s5 = .im x) ∧ (s10 = .no ∨ ∃ x, s10 = .im x) ∧ (s11 = .no ∨ ∃ x, s11 = .im x) ∧ (s12 = .no ∨ ∃ x, s12 = .im x) ∧ (s13 = .no ∨ ∃ x, s13 = .im x))
    (I.seqT (Vv.tup (ds := [.int 0, .int 1, .int 0]) (by walk_at "ev_av") (Nat.le_of_ble_eq_true rfl))) ⟨_, _, _, _, _, rfl, .inl rfl, .inl rfl, .inl rfl, .inl rfl, .inl rfl⟩ (by
      rintro x hx env ⟨s5, s10, s11, s12, s13, rfl, q5, q10, q11, q12, q13⟩
      obtain ⟨j, hj, rfl⟩ : ∃ j : Nat, j < 2 ∧ x = .int j := by
        simp only [List.mem_cons, List.not_mem_nil, or_false] at hx
        rcases hx with rfl | rfl | rfl
        · exact ⟨0, by decide, rfl⟩
        · exact ⟨1, by decide, rfl⟩
        · exact ⟨0, by decide, rfl⟩
      obtain ⟨z10, z11, z12, z13, p10, p11, p12, p13, hb⟩ := body j _ s10 s11 s12 s13 hj q10 q11 q12 q13 rfl
      exact ⟨_, by rcases q5 with rfl | ⟨z, rfl⟩ <;> rfl, _, hb, _, _, _, _, _, rfl, .inr ⟨_, rfl⟩, p10, p11, p12, p13⟩) ?_
  rintro _ ⟨s5, s10, s11, s12, s13, rfl, -⟩
  exact ⟨f3, _, S.ret Vv.cst⟩
/-! The law. -/
/-- a drawn table, its rows few -/
structure Tb (w a : Int) (rs : List (List Int)) : Prop where
  d : Dims w a
  r : RowsOk w a rs
  c : rs.length ≤ cap w a
abbrev envL (ns : List Int) (s1 s2 s3 s4 s5 s6 s7 : Sl) : SEnv := [.im (.scr ns), s1, s2, s3, s4, s5, s6, s7]
/-- free -/
def FreeS (s : Sl) : Prop := s = .no ∨ (∃ x, s = .im x) ∨ ∃ x, s = .mu false x
theorem FreeS.i {x : D} : FreeS (.im x) := .inr (.inl ⟨x, rfl⟩)
theorem FreeS.m {x : D} : FreeS (.mu false x) := .inr (.inr ⟨x, rfl⟩)
/-- (width,) + tuple(drawn) -/
theorem Vv.trip {ns : List Int} {f : Fd} {w : Int} {s1 s4 s5 s6 s7 : Sl} (w1 : 1 ≤ w) (w3 : w ≤ 3) : ∃ a rs f', Tb w a rs ∧ Vv (eOp hAdd (eTup (eCons (eVar 3) eNil)) (eU hTuple (eCall g__law_drawn_table [true, false, false] (eAP (eVar 2) (eAK (eVar 3) (eAK (eC (.int (7))) eANil)))))) (envL ns s1 (.mu false (feedD f)) (.im (.int w)) s4 s5 s6 s7) (tripD w a rs) (envL ns s1 (.mu false (feedD f')) (.im (.int w)) s4 s5 s6 s7) := by
  obtain ⟨a, rs, f', hp, hd, hr, hc⟩ := p_dtable f (w := w) (most := 7) w1 w3 (by decide) (by decide)
  exact ⟨a, rs, f', ⟨hd, hr, hc⟩, Vv.op2 (Vv.tup (ds := [.int w]) (Av.cons (Vv.var rfl) Av.nil) (Nat.le_of_ble_eq_true rfl)) (Vv.rd (Vv.un (Vv.rd (Vv.io (bb := false) (d0 := feedD f) rfl (Ak.cons (Vv.var rfl) (Ak.cons Vv.cst Ak.nil)) hp)) H1.tupleL)) (HD.addT (Nat.le_of_ble_eq_true rfl))⟩
theorem p_body {ns : List Int} {k : Nat} {s2 s3 s4 s5 s6 s7 : Sl} (f2 : FreeS s2) (f3 : FreeS s3) (f4 : FreeS s4) (f5 : FreeS s5) (f6 : FreeS s6) (f7 : FreeS s7) {P : SO → Prop} (hP : ∀ s2 s3 s4 s5 s6 s7, FreeS s2 → FreeS s3 → FreeS s4 → FreeS s5 → FreeS s6 → FreeS s7 → P (.nx (envL ns (.im (.int k)) s2 s3 s4 s5 s6 s7))) :
    P ((sSeq (sSetM 2 (eCallF g__law_feed [false, false] (eAK (eVar 0) (eAK (eVar 1) eANil))))
 (sSeq (sAsg (eCall g__law_width [true] (eAP (eVar 2) eANil)) (tgN 3))
 (sSeq (sAsg (eOp hAdd (eTup (eCons (eVar 3) eNil)) (eU hTuple (eCall g__law_drawn_table [true, false, false] (eAP (eVar 2) (eAK (eVar 3) (eAK (eC (.int (7))) eANil)))))) (tgN 4))
 (sSeq (sAsg (eTup (eCons (eVar 3) (eCons (eOp (EV.h2 gIx) (eVar 4) (eC (.int (1)))) (eCons (eSS (eCall g__law_drawn_rows [true, false, false, false] (eAP (eVar 2) (eAK (eVar 3) (eAK (eOp (EV.h2 gIx) (eVar 4) (eC (.int (1)))) (eAK (eC (.int (9))) eANil)))))) eNil)))) (tgN 5))
 (sSeq (sIf (eTv (eOp hEqX (eCall g__law_take [true, false] (eAP (eVar 2) (eAK (eC (.int (2))) eANil))) (eC (.int (0))))) (sSeq (sAsg (eCall g__law_pick [true, false] (eAP (eVar 2) (eAK (eLst (eCons (eVar 3) (eCons (eC (.int (1))) (eCons (eC (.int (2))) (eCons (eC (.int (3))) eNil))))) eANil))) (tgN 3))
 (sAsg (eOp hAdd (eTup (eCons (eVar 3) eNil)) (eU hTuple (eCall g__law_drawn_table [true, false, false] (eAP (eVar 2) (eAK (eVar 3) (eAK (eC (.int (7))) eANil)))))) (tgN 5))) sNil)
 (sSeq (sPar 6 7 (eCons (eMake "Table" g_Table___init__ [false, false, false] (eAK (eOp (EV.h2 gIx) (eVar 4) (eC (.int (0)))) (eAK (eOp (EV.h2 gIx) (eVar 4) (eC (.int (1)))) (eAK (eRev (eOp (EV.h2 gIx) (eVar 4) (eC (.int (2))))) eANil)))) (eCons (eMake "Table" g_Table___init__ [false, false, false] (eAK (eOp (EV.h2 gIx) (eVar 5) (eC (.int (0)))) (eAK (eOp (EV.h2 gIx) (eVar 5) (eC (.int (1)))) (eAK (eU hList (eOp (EV.h2 gIx) (eVar 5) (eC (.int (2))))) eANil)))) eNil)))
 (sSeq (sIf (eOrT (eNotT (eTr (eCall g__law_pairs_right [false, false, false, false] (eAK (eVar 6) (eAK (eVar 7) (eAK (eVar 4) (eAK (eVar 5) eANil))))))) (eNotT (eTr (eCall g__law_pairs_right [false, false, false, false] (eAK (eVar 7) (eAK (eVar 6) (eAK (eVar 5) (eAK (eVar 4) eANil)))))))) (sRet (eC (.bl false))) sNil)
 (sSeq (sIf (eNotT (eTr (eCall g__law_one_right [true, false, false, false, false] (eAP (eVar 2) (eAK (eVar 6) (eAK (eOp (EV.h2 gIx) (eVar 4) (eC (.int (0)))) (eAK (eOp (EV.h2 gIx) (eVar 4) (eC (.int (1)))) (eAK (eOp (EV.h2 gIx) (eVar 4) (eC (.int (2)))) eANil)))))))) (sRet (eC (.bl false))) sNil)
 (sSeq (sIf (eOrT (eNotT (eTr (eCall g__law_statics_right [false, false] (eAK (eOp (EV.h2 gIx) (eVar 4) (eC (.int (0)))) (eAK (eOp (EV.h2 gIx) (eVar 5) (eC (.int (1)))) eANil))))) (eNotT (eTr (eCall g__law_twice_right [true, false, false, false, false] (eAP (eVar 2) (eAK (eVar 6) (eAK (eOp (EV.h2 gIx) (eVar 4) (eC (.int (0)))) (eAK (eOp (EV.h2 gIx) (eVar 4) (eC (.int (1)))) (eAK (eOp (EV.h2 gIx) (eVar 4) (eC (.int (2)))) eANil))))))))) (sRet (eC (.bl false))) sNil)
 (sIf (eOrT (eNotT (eTr (eCall g__law_is [false, false, false, false] (eAK (eVar 6) (eAK (eOp (EV.h2 gIx) (eVar 4) (eC (.int (0)))) (eAK (eOp (EV.h2 gIx) (eVar 4) (eC (.int (1)))) (eAK (eOp (EV.h2 gIx) (eVar 4) (eC (.int (2)))) eANil))))))) (eNotT (eTr (eCall g__law_is [false, false, false, false] (eAK (eVar 7) (eAK (eOp (EV.h2 gIx) (eVar 5) (eC (.int (0)))) (eAK (eOp (EV.h2 gIx) (eVar 5) (eC (.int (1)))) (eAK (eOp (EV.h2 gIx) (eVar 5) (eC (.int (2)))) eANil)))))))) (sRet (eC (.bl false))) sNil)))))))))) (envL ns (.im (.int k)) s2 s3 s4 s5 s6 s7)) := by
  obtain ⟨f0, hf0⟩ := p_feed ns k
  refine S.seqP (e1 := envL ns (.im (.int k)) (.mu false (feedD f0)) s3 s4 s5 s6 s7) (S.setF (Fv.call (Ak.cons (Vv.var rfl) (Ak.cons (Vv.var rfl) Ak.nil)) hf0) (by rcases f2 with rfl | ⟨_, rfl⟩ | ⟨_, rfl⟩ <;> rfl)) ?_
  obtain ⟨w, f1, hw, w1, w3⟩ := p_width f0
  refine S.seqP (e1 := envL ns (.im (.int k)) (.mu false (feedD f1)) (.im (.int w)) s4 s5 s6 s7) (S.asg (Vv.io (bb := false) (d0 := feedD f0) rfl Ak.nil hw) (by rcases f3 with rfl | ⟨_, rfl⟩ | ⟨_, rfl⟩ <;> rfl)) ?_
  obtain ⟨a, rs, g1, tb, ht⟩ := Vv.trip (ns := ns) (f := f1) (s1 := .im (.int k)) (s4 := s4) (s5 := s5) (s6 := s6) (s7 := s7) w1 w3
  refine S.seqP (e1 := envL ns (.im (.int k)) (.mu false (feedD g1)) (.im (.int w)) (.im (tripD w a rs)) s5 s6 s7) (S.asg ht (by rcases f4 with rfl | ⟨_, rfl⟩ | ⟨_, rfl⟩ <;> rfl)) ?_
  clear ht
  have d := tb.d
  have a1 := d.a1
  have a3 := d.a3
  have okd := drows_ok (f := g1) (most := 9) d (by decide) (by decide)
  refine S.seqP (e1 := envL ns (.im (.int k)) (.mu false (feedD (rowsN (takeN g1 (9 + 1)) w a.toNat (manyV g1 9)))) (.im (.int w)) (.im (tripD w a rs)) (.im (tripD w a (sortR (rowsV (takeN g1 (9 + 1)) w a.toNat (manyV g1 9))))) s6 s7)
    (S.asg (Vv.tup (Av.cons (Vv.var rfl) (Av.cons (Vv.t1 (Vv.var rfl)) (Av.cons (Fv.v (Fv.ss (Vv.rd (Vv.io (bb := false) (d0 := feedD g1) rfl (Ak.cons (Vv.var rfl) (Ak.cons (Vv.t1 (Vv.var rfl)) (Ak.cons Vv.cst Ak.nil))) (p_drows (f := g1) (w := w) (a := a) (most := 9) (by omega) w3 (by omega) (by omega) (by decide) (by decide)))) (rowsB_of d okd))) Av.nil))) (Nat.le_of_ble_eq_true rfl)) (by rcases f5 with rfl | ⟨_, rfl⟩ | ⟨_, rfl⟩ <;> rfl)) ?_
  have tb2 : Tb w a (sortR (rowsV (takeN g1 (9 + 1)) w a.toNat (manyV g1 9))) := ⟨d, rowsOk_sort d okd, sortR_cap d okd⟩
  generalize sortR (rowsV (takeN g1 (9 + 1)) w a.toNat (manyV g1 9)) = ss0 at tb2
  generalize rowsN (takeN g1 (9 + 1)) w a.toNat (manyV g1 9) = g2
  -- the second one anew
  obtain ⟨v, w2, a2, ss, g3, tbs, hif⟩ : ∃ v w2 a2 ss g3, Tb w2 a2 ss ∧ sIf (eTv (eOp hEqX (eCall g__law_take [true, false] (eAP (eVar 2) (eAK (eC (.int (2))) eANil))) (eC (.int (0))))) (sSeq (sAsg (eCall g__law_pick [true, false] (eAP (eVar 2) (eAK (eLst (eCons (eVar 3) (eCons (eC (.int (1))) (eCons (eC (.int (2))) (eCons (eC (.int (3))) eNil))))) eANil))) (tgN 3))
 (sAsg (eOp hAdd (eTup (eCons (eVar 3) eNil)) (eU hTuple (eCall g__law_drawn_table [true, false, false] (eAP (eVar 2) (eAK (eVar 3) (eAK (eC (.int (7))) eANil)))))) (tgN 5))) sNil (envL ns (.im (.int k)) (.mu false (feedD g2)) (.im (.int w)) (.im (tripD w a rs)) (.im (tripD w a ss0)) s6 s7) =
      .nx (envL ns (.im (.int k)) (.mu false (feedD g3)) (.im (.int v)) (.im (tripD w a rs)) (.im (tripD w2 a2 ss)) s6 s7) := by
    have tk : ∀ b, decide (takeV g2 2 = 0) = b → Tv (eTv (eOp hEqX (eCall g__law_take [true, false] (eAP (eVar 2) (eAK (eC (.int (2))) eANil))) (eC (.int (0))))) (envL ns (.im (.int k)) (.mu false (feedD g2)) (.im (.int w)) (.im (tripD w a rs)) (.im (tripD w a ss0)) s6 s7) b (envL ns (.im (.int k)) (.mu false (feedD (takeN g2 2))) (.im (.int w)) (.im (tripD w a rs)) (.im (tripD w a ss0)) s6 s7) := by
      rintro _ rfl
      exact Tv.tv (Vv.rd (Vv.op (Vv.rd (Vv.take (b := false) (f := g2) rfl Vv.cst (by decide) (by decide))) (Vv.rd Vv.cst) HD.eqI))
    by_cases c : takeV g2 2 = 0
    · have hm := pick_mem (f := takeN g2 2) (ds := [.int w, .int 1, .int 2, .int 3]) (by simp)
      obtain ⟨v, eqv, v1, v3⟩ : ∃ v, pickV (takeN g2 2) [.int w, .int 1, .int 2, .int 3] = .int v ∧ 1 ≤ v ∧ v ≤ 3 := by
        simp only [List.mem_cons, List.not_mem_nil, or_false] at hm
        rcases hm with e | e | e | e
        · exact ⟨_, e, w1, w3⟩
        · exact ⟨_, e, by decide, by decide⟩
        · exact ⟨_, e, by decide, by decide⟩
        · exact ⟨_, e, by decide, by decide⟩
      obtain ⟨a2, ss, g3, tbs, ht⟩ := Vv.trip (ns := ns) (f := takeN (takeN g2 2) ([.int w, .int 1, .int 2, .int 3] : List D).length) (w := v) (s1 := .im (.int k)) (s4 := .im (tripD w a rs)) (s5 := .im (tripD w a ss0)) (s6 := s6) (s7 := s7) v1 v3
      refine ⟨v, v, a2, ss, g3, tbs, S.ifT (tk true (decide_eq_true c)) (S.seq (S.asg (Vv.pick (b := false) (f := takeN g2 2) (ds := [.int w, .int 1, .int 2, .int 3]) rfl (Vv.lst (Av.cons (Vv.var rfl) (Av.cons Vv.cst (Av.cons Vv.cst (Av.cons Vv.cst Av.nil)))) (Nat.le_of_ble_eq_true rfl)) (by simp) (by simp)) rfl) ?_)⟩
      rw [eqv]
      exact S.asg ht rfl
    · exact ⟨w, w, a, ss0, takeN g2 2, tb2, S.ifF (tk false (decide_eq_false c)) rfl⟩
  refine S.seqP hif ?_
  clear hif tb2
  have dd := tbs.d
  -- the tables
  have okr : RowsOk w a rs.reverse := ⟨fun r hr => tb.r.all r (List.mem_reverse.mp hr), by rw [List.length_reverse]; exact tb.r.few⟩
  have e1 : sortR rs.reverse = sortR rs := sortR_ext d okr tb.r fun x => List.mem_reverse
  refine S.seqP (e1 := envL ns (.im (.int k)) (.mu false (feedD g3)) (.im (.int v)) (.im (tripD w a rs)) (.im (tripD w2 a2 ss)) (.im (tabD w a (sortR rs))) (.im (tabD w2 a2 (sortR ss))))
    (S.par (e1 := envL ns (.im (.int k)) (.mu false (feedD g3)) (.im (.int v)) (.im (tripD w a rs)) (.im (tripD w2 a2 ss)) s6 s7) (a := tabD w a (sortR rs)) (b := tabD w2 a2 (sortR ss)) (Av.cons (Vv.to (Vv.table d okr (Ak.cons (Vv.t0 (Vv.var rfl)) (Ak.cons (Vv.t1 (Vv.var rfl)) (Ak.cons (Vv.to (Vv.rev (Vv.rd (Vv.t2 (Vv.var rfl)))) (by show D.lst ((rs.map rowT).reverse) = .lst (rs.reverse.map rowT); rw [List.map_reverse])) Ak.nil)))) (by rw [e1])) (Av.cons (Vv.table dd tbs.r (Ak.cons (Vv.t0 (Vv.var rfl)) (Ak.cons (Vv.t1 (Vv.var rfl)) (Ak.cons (Vv.un (Vv.rd (Vv.t2 (Vv.var rfl))) (H1.list (.inl rfl))) Ak.nil)))) Av.nil)) (by rcases f6 with rfl | ⟨_, rfl⟩ | ⟨_, rfl⟩ <;> rfl) (by rcases f7 with rfl | ⟨_, rfl⟩ | ⟨_, rfl⟩ <;> rfl) (by decide)) ?_
  refine S.seqP (S.ifF (Tv.to (Tv.or (b1 := false) (b2 := false) (Tv.notT (Tv.tr (Vv.rd (Vv.call (Ak.cons (Vv.var rfl) (Ak.cons (Vv.var rfl) (Ak.cons (Vv.var rfl) (Ak.cons (Vv.var rfl) Ak.nil)))) (p_pairs d dd tb.r tbs.r tb.c tbs.c rfl rfl))) rfl)) fun _ => Tv.notT (Tv.tr (Vv.rd (Vv.call (Ak.cons (Vv.var rfl) (Ak.cons (Vv.var rfl) (Ak.cons (Vv.var rfl) (Ak.cons (Vv.var rfl) Ak.nil)))) (p_pairs dd d tbs.r tb.r tbs.c tb.c rfl rfl))) rfl)) rfl) rfl) ?_
  obtain ⟨g4, hg4⟩ := p_one (f := g3) d tb.r rfl
  refine S.seqP (e1 := envL ns (.im (.int k)) (.mu false (feedD g4)) (.im (.int v)) (.im (tripD w a rs)) (.im (tripD w2 a2 ss)) (.im (tabD w a (sortR rs))) (.im (tabD w2 a2 (sortR ss)))) (S.ifF (Tv.notT (Tv.tr (Vv.rd (Vv.io (bb := false) (d0 := feedD g3) rfl (Ak.cons (Vv.var rfl) (Ak.cons (Vv.t0 (Vv.var rfl)) (Ak.cons (Vv.t1 (Vv.var rfl)) (Ak.cons (Vv.t2 (Vv.var rfl)) Ak.nil)))) hg4)) rfl)) rfl) ?_
  obtain ⟨g5, hg5⟩ := p_twice (f := g4) d tb.r rfl
  refine S.seqP (e1 := envL ns (.im (.int k)) (.mu false (feedD g5)) (.im (.int v)) (.im (tripD w a rs)) (.im (tripD w2 a2 ss)) (.im (tabD w a (sortR rs))) (.im (tabD w2 a2 (sortR ss)))) (S.ifF (e1 := envL ns (.im (.int k)) (.mu false (feedD g5)) (.im (.int v)) (.im (tripD w a rs)) (.im (tripD w2 a2 ss)) (.im (tabD w a (sortR rs))) (.im (tabD w2 a2 (sortR ss)))) (Tv.orF (Tv.notT (Tv.tr (Vv.rd (Vv.call (Ak.cons (Vv.t0 (Vv.var rfl)) (Ak.cons (Vv.t1 (Vv.var rfl)) Ak.nil)) (p_statics ⟨w1, w3, dd.a1, dd.a3⟩))) rfl)) (Tv.notT (Tv.tr (Vv.rd (Vv.io (bb := false) (d0 := feedD g4) rfl (Ak.cons (Vv.var rfl) (Ak.cons (Vv.t0 (Vv.var rfl)) (Ak.cons (Vv.t1 (Vv.var rfl)) (Ak.cons (Vv.t2 (Vv.var rfl)) Ak.nil)))) hg5)) rfl))) rfl) ?_
  have fin := S.ifF (fs := sRet (eC (.bl false))) (Tv.to (Tv.or (b1 := false) (b2 := false) (t := eNotT (eTr (eCall g__law_is [false, false, false, false] (eAK (eVar 6) (eAK (eOp (EV.h2 gIx) (eVar 4) (eC (.int (0)))) (eAK (eOp (EV.h2 gIx) (eVar 4) (eC (.int (1)))) (eAK (eOp (EV.h2 gIx) (eVar 4) (eC (.int (2)))) eANil))))))) (u := eNotT (eTr (eCall g__law_is [false, false, false, false] (eAK (eVar 7) (eAK (eOp (EV.h2 gIx) (eVar 5) (eC (.int (0)))) (eAK (eOp (EV.h2 gIx) (eVar 5) (eC (.int (1)))) (eAK (eOp (EV.h2 gIx) (eVar 5) (eC (.int (2)))) eANil)))))))
    (env := envL ns (.im (.int k)) (.mu false (feedD g5)) (.im (.int v)) (.im (tripD w a rs)) (.im (tripD w2 a2 ss)) (.im (tabD w a (sortR rs))) (.im (tabD w2 a2 (sortR ss))))
    (Tv.notT (Tv.tr (Vv.rd (Vv.call (Ak.cons (Vv.var rfl) (Ak.cons (Vv.t0 (Vv.var rfl)) (Ak.cons (Vv.t1 (Vv.var rfl)) (Ak.cons (Vv.t2 (Vv.var rfl)) Ak.nil)))) (p_is d tb.r rfl))) rfl)) fun _ => Tv.notT (Tv.tr (Vv.rd (Vv.call (Ak.cons (Vv.var rfl) (Ak.cons (Vv.t0 (Vv.var rfl)) (Ak.cons (Vv.t1 (Vv.var rfl)) (Ak.cons (Vv.t2 (Vv.var rfl)) Ak.nil)))) (p_is dd tbs.r rfl))) rfl)) rfl) (show sNil _ = .nx _ from rfl)
  rw [fin]
  exact hP _ _ _ _ _ _ FreeS.m FreeS.i FreeS.i FreeS.i FreeS.i FreeS.i
theorem p_law {ns : List Int} (l : ns.length ≤ 63) : Gv g_law [.scr ns] (.bl true) := by
  refine Gv.rt ?_
  show (fun o => ∃ e1, o = SO.rt (.bl true) e1) (b_law (envL ns .no .no .no .no .no .no .no))
  have hr : ∃ j : Int, (0 ≤ j ∧ j ≤ 3) ∧ Vv (eCall2 (EV.h2 (gI (fun _ _ => true) fun i j => if j > i then j else i)) (eC (.int (1))) (eCall2 (EV.h2 (gI (fun _ _ => true) fun i j => if j < i then j else i)) (eC (.int (3))) (eU (EV.h1 gLen) (eVar 0)))) (envL ns .no .no .no .no .no .no .no) (.int j) (envL ns .no .no .no .no .no .no .no) := by
    refine ⟨_, ?_, Vv.callB2 (Vv.rd Vv.cst) (Vv.rd (Vv.callB2 (j := (ns.length : Int)) (Vv.rd Vv.cst) (Vv.rd (Vv.un (Vv.rd (Vv.var rfl)) (H1.h1 rfl)))))⟩
    split <;> split <;> omega
  obtain ⟨j, hj, hr⟩ := hr
  refine S.forP (fun env => ∃ s1 s2 s3 s4 s5 s6 s7, env = envL ns s1 s2 s3 s4 s5 s6 s7 ∧ (s1 = .no ∨ ∃ x, s1 = .im x) ∧ FreeS s2 ∧ FreeS s3 ∧ FreeS s4 ∧ FreeS s5 ∧ FreeS s6 ∧ FreeS s7) (I.rng1 (Vv.rd hr) (by omega)) ⟨_, _, _, _, _, _, _, rfl, .inl rfl, .inl rfl, .inl rfl, .inl rfl, .inl rfl, .inl rfl, .inl rfl⟩ ?_ ?_
  · rintro x hx env ⟨s1, s2, s3, s4, s5, s6, s7, rfl, q1, q2, q3, q4, q5, q6, q7⟩
    obtain ⟨k, -, rfl⟩ := List.mem_map.mp hx
    refine ⟨envL ns (.im (.int k)) s2 s3 s4 s5 s6 s7, by rcases q1 with rfl | ⟨_, rfl⟩ <;> rfl, p_body q2 q3 q4 q5 q6 q7 fun s2 s3 s4 s5 s6 s7 q2 q3 q4 q5 q6 q7 => ⟨_, rfl, _, _, _, _, _, _, _, rfl, .inr ⟨_, rfl⟩, q2, q3, q4, q5, q6, q7⟩⟩
  · rintro _ ⟨s1, s2, s3, s4, s5, s6, s7, rfl, -⟩
    exact ⟨_, S.ret Vv.cst⟩
end EV
set_option Elab.async false
set_option linter.all false
set_option maxRecDepth 100000
set_option maxHeartbeats 8000000
set_option maxErrors 1000
namespace EV
open PySem PySem.Spec PyProof.Rows L2 PySem.NearX
def top (i : Nat) : Stmt := PySem.Challenge.pw_nearsettled_k02_tables_made_of_others.main.body.getD i (.Pass ⟨0, 0, 0, 0⟩)
abbrev inCls (s : Stmt) (i : Nat) : Stmt := match s with
  | .ClassDef _ _ _ body _ _ _ _ _ _ _ => body.getD i (.Pass ⟨0, 0, 0, 0⟩)
  | _ => .Pass ⟨0, 0, 0, 0⟩
def jsOf (s : Stmt) : List Expr × Pos := match defBody s with
  | .Expr (.Call _ [.JoinedStr v p] _ _) _ :: _ => (v, p)
  | _ => ([], ⟨0, 0, 0, 0⟩)
abbrev s_BadRow : Stmt := inCls (top 5) 0
theorem parts_BadRow : PartsOk "number" (jsOf s_BadRow).1 := ⟨.inr ⟨_, _, _, _, _, _, (by decide +kernel), (by decide +kernel), rfl⟩⟩
section
variable {P : Program} {w : World} {K : PySem.W.Frag} {Γ : Cls0} {mg : Str → Option Value} {base : Heap}
abbrev s_Table_rows : Stmt := inCls (top 22) 1
def N_Table_rows : List Str := ["self"]
theorem sc_Table_rows : FnScope N_Table_rows ["self"] (defScope s_Table_rows) := ⟨rfl, rfl, rfl, by decide +kernel, rfl, by decide +kernel, by decide +kernel⟩
theorem ok_Table_rows {f : Addr} {fd : FuncData} (F : Fun K "rows" "Table.rows" s_Table_rows f fd) (fl__rows : FldOk K Γ "_rows" clsAll) (b_list : mg "list" = none) :
    FnOk P w K mg base (L2.CX P w) 1 f fd ["self"] (spF K Γ [false] g_Table_rows) :=
  okF (N := N_Table_rows) F sc_Table_rows rfl (by decide) fun cdv A outer s H E hr => by
    have tk : Takes (cxOf (L2.CX P w) P w K mg base N_Table_rows "Table.rows" (defScope s_Table_rows) f cdv A outer s H E) (fun cls d _ H => E cls d H) := takes_of rfl rfl rfl rfl
    exact (sS_one (sS_ret (sE_callT1 call_list_of r1_list (by rfl) b_list boot_list (sE_fld fl__rows (sE_var (pv 0))))))
abbrev s__law_is : Stmt := top 33
def N__law_is : List Str := ["table", "width", "arity", "rows"]
theorem sc__law_is : FnScope N__law_is ["table", "width", "arity", "rows"] (defScope s__law_is) := ⟨rfl, rfl, rfl, by decide +kernel, rfl, by decide +kernel, by decide +kernel⟩
theorem ok__law_is {f : Addr} {fd : FuncData} {C_Table f_Table_rows pr_Table_rows : Addr} {d_Table_rows : FuncData} (F : Fun K "_law_is" "_law_is" s__law_is f fd) (G_Table_rows : FnOk P w K mg base (L2.CX P w) 1 f_Table_rows d_Table_rows ["self"] (spF K Γ [false] g_Table_rows)) (p_Table_rows : PropOf K C_Table "rows" pr_Table_rows f_Table_rows) (bd_Table_rows : Binds K d_Table_rows ["self"] []) (X_Table : ClsX K Γ mg "Table" C_Table) (b_repr : mg "repr" = none) (b_sorted : mg "sorted" = none) (b_set : mg "set" = none) (fl_arity : FldOk K Γ "arity" clsAll) (fl_width : FldOk K Γ "width" clsAll) (b_isinstance : mg "isinstance" = none) (is_Table : IsOk K Γ (.ref C_Table) (ansC "Table")) :
    FnG P w K mg base (L2.CX P w) 3 f fd ["table", "width", "arity", "rows"] (spF K Γ [false, false, false, false] g__law_is) :=
  okG (N := N__law_is) F sc__law_is rfl (by decide) fun cdv A outer s H E hg hr => by
    have tk : Takes (cxOf (L2.CX P w) P w K mg base N__law_is "_law_is" (defScope s__law_is) f cdv A outer s H E) (fun cls d _ H => E cls d H) := takes_of rfl rfl rfl rfl
    exact (sS_cons (sS_if (PW.pt (sW_or (sT_not (sT_tru (sE_isC (by rfl) b_isinstance (by rfl) X_Table.g is_Table (sE_var (pv 0))))) (sW_or (sT_cmp (op_neX hr.units) r2_neX (sE_fld fl_width (sE_var (pv 0))) (sE_var (pv 1)) (nomark _)) (sW_or1 (sT_cmp (op_neX hr.units) r2_neX (sE_fld fl_arity (sE_var (pv 0))) (sE_var (pv 2)) (nomark _)))))) (sS_one (sS_ret sE_bl)) sS_nil)
 (sS_one (sS_ret (sE_cmp (op_eqX hr.units) r2_eqX (sE_call1 (call_reprD hg hr.units) r1_repr (by rfl) b_repr boot_repr (sE_prop X_Table.hc (sE_var (pv 0)) X_Table.cls p_Table_rows G_Table_rows (hr.mono (by decide)) bd_Table_rows)) (sE_call1 (call_reprD hg hr.units) r1_repr (by rfl) b_repr boot_repr (sE_ss rfl hr.units (by rfl) b_sorted (by rfl) b_set (sE_var (pv 3)))) (nomark _)))))
abbrev s_is_between : Stmt := top 11
def N_is_between : List Str := ["value", "least", "greatest"]
theorem sc_is_between : FnScope N_is_between ["value", "least", "greatest"] (defScope s_is_between) := ⟨rfl, rfl, rfl, by decide +kernel, rfl, by decide +kernel, by decide +kernel⟩
theorem ok_is_between {f : Addr} {fd : FuncData} (F : Fun K "is_between" "is_between" s_is_between f fd) (b_isinstance : mg "isinstance" = none) (is_bool : IsOk K Γ (.type "bool") (ansB ["bool"])) (b_bool : mg "bool" = none) (is_int : IsOk K Γ (.type "int") (ansB ["int", "bool"])) (b_int : mg "int" = none) :
    FnOk P w K mg base (L2.CX P w) 1 f fd ["value", "least", "greatest"] (spF K Γ [false, false, false] g_is_between) :=
  okF (N := N_is_between) F sc_is_between rfl (by decide) fun cdv A outer s H E hr => by
    have tk : Takes (cxOf (L2.CX P w) P w K mg base N_is_between "is_between" (defScope s_is_between) f cdv A outer s H E) (fun cls d _ H => E cls d H) := takes_of rfl rfl rfl rfl
    exact (sS_one (sS_ret (sE_and (sE_isB (by rfl) b_isinstance (by rfl) b_int boot_int is_int (sE_var (pv 0))) (sE_and (sE_not (sE_isB (by rfl) b_isinstance (by rfl) b_bool boot_bool is_bool (sE_var (pv 0)))) (pe_one (sE_chain op_le r2_le op_le r2_le (sE_var (pv 1)) (sE_var (pv 0)) (sE_var (pv 2))))))))
abbrev s_is_below : Stmt := top 12
def N_is_below : List Str := ["value", "limit"]
theorem sc_is_below : FnScope N_is_below ["value", "limit"] (defScope s_is_below) := ⟨rfl, rfl, rfl, by decide +kernel, rfl, by decide +kernel, by decide +kernel⟩
theorem ok_is_below {f : Addr} {fd : FuncData} {f_is_between : Addr} {d_is_between : FuncData} (F : Fun K "is_below" "is_below" s_is_below f fd) (c_is_between : Cal K mg "is_between" ["value", "least", "greatest"] f_is_between d_is_between) (G_is_between : FnOk P w K mg base (L2.CX P w) 1 f_is_between d_is_between ["value", "least", "greatest"] (spF K Γ [false, false, false] g_is_between)) :
    FnOk P w K mg base (L2.CX P w) 2 f fd ["value", "limit"] (spF K Γ [false, false] g_is_below) :=
  okF (N := N_is_below) F sc_is_below rfl (by decide) fun cdv A outer s H E hr => by
    have tk : Takes (cxOf (L2.CX P w) P w K mg base N_is_below "is_below" (defScope s_is_below) f cdv A outer s H E) (fun cls d _ H => E cls d H) := takes_of rfl rfl rfl rfl
    exact (sS_one (sS_ret (sE_callO c_is_between G_is_between (hr.mono (by decide)) (by rfl) (fun σ => passAt tk σ) (sR_k (sE_var (pv 0)) (sR_k sE_int (sR_k (sE_op op_sub r2_sub (sE_var (pv 1)) sE_int) sR_nil))))))
abbrev s_is_row : Stmt := top 13
def N_is_row : List Str := ["value", "width", "length", "part"]
theorem sc_is_row : FnScope N_is_row ["value", "width", "length"] (defScope s_is_row) := ⟨rfl, rfl, rfl, by decide +kernel, rfl, by decide +kernel, by decide +kernel⟩
theorem ok_is_row {f : Addr} {fd : FuncData} {f_is_below : Addr} {d_is_below : FuncData} (F : Fun K "is_row" "is_row" s_is_row f fd) (c_is_below : Cal K mg "is_below" ["value", "limit"] f_is_below d_is_below) (G_is_below : FnOk P w K mg base (L2.CX P w) 2 f_is_below d_is_below ["value", "limit"] (spF K Γ [false, false] g_is_below)) (b_all : mg "all" = none) (b_len : mg "len" = none) (b_isinstance : mg "isinstance" = none) (is_tuple : IsOk K Γ (.type "tuple") (ansB ["tuple"])) (b_tuple : mg "tuple" = none) :
    FnOk P w K mg base (L2.CX P w) 3 f fd ["value", "width", "length"] (spF K Γ [false, false, false] g_is_row) :=
  okF (N := N_is_row) F sc_is_row rfl (by decide) fun cdv A outer s H E hr => by
    have tk : Takes (cxOf (L2.CX P w) P w K mg base N_is_row "is_row" (defScope s_is_row) f cdv A outer s H E) (fun cls d _ H => E cls d H) := takes_of rfl rfl rfl rfl
    exact (sS_one (sS_ret (sE_and (sE_isB (by rfl) b_isinstance (by rfl) b_tuple boot_tuple is_tuple (sE_var (pv 0))) (sE_and (sE_cmp (op_eqX hr.units) r2_eqX (sE_call1 call_lenX r1_len (by rfl) b_len PySem.boot_len (sE_var (pv 0))) (sE_var (pv 2)) (nomark _)) (pe_one (sE_call1 (cr_all rfl) r1_all (by rfl) b_all boot_all (sE_lcV rfl sc_is_row.nd (sI_seq (sE_var (pv 0))) (blkOk_by (own := [("part", 3)]) (N := N_is_row) (sc := defScope s_is_row) (by decide +kernel)) off_N (by decide) (fun _ _ _ _ _ => (sG_name (pg_name (i := 3) sc_is_row.nd rfl (by first | exact Or.inl rfl | exact Or.inr rfl)))) (fun _ _ _ _ _ => sTs_nil) (fun _ _ _ _ _ => (sE_callO c_is_below G_is_below (hr.mono (by decide)) (by rfl) (fun σ => passNo σ) (sR_k (sE_var (pv 3)) (sR_k (sE_var (pv 1)) sR_nil)))))))))))
abbrev s_check_arity : Stmt := top 15
def N_check_arity : List Str := ["arity", "greatest"]
theorem sc_check_arity : FnScope N_check_arity ["arity", "greatest"] (defScope s_check_arity) := ⟨rfl, rfl, rfl, by decide +kernel, rfl, by decide +kernel, by decide +kernel⟩
theorem ok_check_arity {f : Addr} {fd : FuncData} {C_BadArity f_is_between : Addr} {d_is_between : FuncData} (F : Fun K "check_arity" "check_arity" s_check_arity f fd) (c_is_between : Cal K mg "is_between" ["value", "least", "greatest"] f_is_between d_is_between) (G_is_between : FnOk P w K mg base (L2.CX P w) 1 f_is_between d_is_between ["value", "least", "greatest"] (spF K Γ [false, false, false] g_is_between)) (e_BadArity : ErrX K Γ mg "BadArity" C_BadArity) (q_BadArity : PySem.W.excIn K C_BadArity [.type "ValueError", .type "Exception", .type "BaseException", .type "object"] "ValueError.__new__" = true) :
    FnOk P w K mg base (L2.CX P w) 2 f fd ["arity", "greatest"] (spF K Γ [false, false] g_check_arity) :=
  okF (N := N_check_arity) F sc_check_arity rfl (by decide) fun cdv A outer s H E hr => by
    have tk : Takes (cxOf (L2.CX P w) P w K mg base N_check_arity "check_arity" (defScope s_check_arity) f cdv A outer s H E) (fun cls d _ H => E cls d H) := takes_of rfl rfl rfl rfl
    exact (sS_one (sS_if (sT_not (sT_tru (sE_callO c_is_between G_is_between (hr.mono (by decide)) (by rfl) (fun σ => passAt tk σ) (sR_k (sE_var (pv 0)) (sR_k sE_int (sR_k (sE_var (pv 1)) sR_nil)))))) (sS_one (sS_raise0 rfl tk e_BadArity.hc (pmk_exc0 q_BadArity e_BadArity.g e_BadArity.k (raises_own e_BadArity.ex e_BadArity.ty)))) sS_nil))
abbrev s_check_width : Stmt := top 14
def N_check_width : List Str := ["width"]
theorem sc_check_width : FnScope N_check_width ["width"] (defScope s_check_width) := ⟨rfl, rfl, rfl, by decide +kernel, rfl, by decide +kernel, by decide +kernel⟩
theorem ok_check_width {f : Addr} {fd : FuncData} {C_BadWidth f_is_between : Addr} {d_is_between : FuncData} (F : Fun K "check_width" "check_width" s_check_width f fd) (c_is_between : Cal K mg "is_between" ["value", "least", "greatest"] f_is_between d_is_between) (G_is_between : FnOk P w K mg base (L2.CX P w) 1 f_is_between d_is_between ["value", "least", "greatest"] (spF K Γ [false, false, false] g_is_between)) (v_GREATEST_WIDTH : ∃ t, mg "GREATEST_WIDTH" = some (.int 3 t)) (e_BadWidth : ErrX K Γ mg "BadWidth" C_BadWidth) (q_BadWidth : PySem.W.excIn K C_BadWidth [.type "ValueError", .type "Exception", .type "BaseException", .type "object"] "ValueError.__new__" = true) :
    FnOk P w K mg base (L2.CX P w) 2 f fd ["width"] (spF K Γ [false] g_check_width) :=
  okF (N := N_check_width) F sc_check_width rfl (by decide) fun cdv A outer s H E hr => by
    have tk : Takes (cxOf (L2.CX P w) P w K mg base N_check_width "check_width" (defScope s_check_width) f cdv A outer s H E) (fun cls d _ H => E cls d H) := takes_of rfl rfl rfl rfl
    exact (sS_one (sS_if (sT_not (sT_tru (sE_callO c_is_between G_is_between (hr.mono (by decide)) (by rfl) (fun σ => passAt tk σ) (sR_k (sE_var (pv 0)) (sR_k sE_int (sR_k (sE_gint (by rfl) v_GREATEST_WIDTH) sR_nil)))))) (sS_one (sS_raise0 rfl tk e_BadWidth.hc (pmk_exc0 q_BadWidth e_BadWidth.g e_BadWidth.k (raises_own e_BadWidth.ex e_BadWidth.ty)))) sS_nil))
abbrev s_Table___init__ : Stmt := inCls (top 22) 0
def N_Table___init__ : List Str := ["self", "width", "arity", "rows", "number", "row"]
theorem sc_Table___init__ : FnScope N_Table___init__ ["self", "width", "arity", "rows"] (defScope s_Table___init__) := ⟨rfl, rfl, rfl, by decide +kernel, rfl, by decide +kernel, by decide +kernel⟩
theorem ok_Table___init__ {f : Addr} {fd : FuncData} {C_BadRow C_NoList f_check_arity f_check_width f_is_row i_BadRow : Addr} {d_check_arity d_check_width d_is_row : FuncData} (F : Fun K "__init__" "Table.__init__" s_Table___init__ f fd) (b_sorted : mg "sorted" = none) (b_set : mg "set" = none) (fl__rows : FldOk K Γ "_rows" clsAll) (fl_arity : FldOk K Γ "arity" clsAll) (fl_width : FldOk K Γ "width" clsAll) (b_enumerate : mg "enumerate" = none) (c_is_row : Cal K mg "is_row" ["value", "width", "length"] f_is_row d_is_row) (G_is_row : FnOk P w K mg base (L2.CX P w) 3 f_is_row d_is_row ["value", "width", "length"] (spF K Γ [false, false, false] g_is_row)) (e_BadRow : ErrX K Γ mg "BadRow" C_BadRow) (n_BadRow : NearTxt P K mg "BadRow" "number" C_BadRow i_BadRow (jsOf s_BadRow).1 (jsOf s_BadRow).2) (b_isinstance : mg "isinstance" = none) (is_list : IsOk K Γ (.type "list") (ansB ["list"])) (b_list : mg "list" = none) (e_NoList : ErrX K Γ mg "NoList" C_NoList) (q_NoList : PySem.W.excIn K C_NoList [.type "ValueError", .type "Exception", .type "BaseException", .type "object"] "ValueError.__new__" = true) (c_check_arity : Cal K mg "check_arity" ["arity", "greatest"] f_check_arity d_check_arity) (G_check_arity : FnOk P w K mg base (L2.CX P w) 2 f_check_arity d_check_arity ["arity", "greatest"] (spF K Γ [false, false] g_check_arity)) (v_GREATEST_ARITY : ∃ t, mg "GREATEST_ARITY" = some (.int 3 t)) (c_check_width : Cal K mg "check_width" ["width"] f_check_width d_check_width) (G_check_width : FnOk P w K mg base (L2.CX P w) 2 f_check_width d_check_width ["width"] (spF K Γ [false] g_check_width)) :
    FnOk P w K mg base (L2.CX P w) 4 f fd ["self", "width", "arity", "rows"] (spF K Γ [true, false, false, false] g_Table___init__) :=
  okF (N := N_Table___init__) F sc_Table___init__ rfl (by decide) fun cdv A outer s H E hr => by
    have tk : Takes (cxOf (L2.CX P w) P w K mg base N_Table___init__ "Table.__init__" (defScope s_Table___init__) f cdv A outer s H E) (fun cls d _ H => E cls d H) := takes_of rfl rfl rfl rfl
    exact (sS_cons (sS_expr (sE_callO c_check_width G_check_width (hr.mono (by decide)) (by rfl) (fun σ => passAt tk σ) (sR_k (sE_var (pv 1)) sR_nil)))
 (sS_cons (sS_expr (sE_callO c_check_arity G_check_arity (hr.mono (by decide)) (by rfl) (fun σ => passAt tk σ) (sR_k (sE_var (pv 2)) (sR_k (sE_gint (by rfl) v_GREATEST_ARITY) sR_nil))))
 (sS_cons (sS_if (sT_not (sT_tru (sE_isB (by rfl) b_isinstance (by rfl) b_list boot_list is_list (sE_var (pv 3))))) (sS_one (sS_raise0 rfl tk e_NoList.hc (pmk_exc0 q_NoList e_NoList.g e_NoList.k (raises_own e_NoList.ex e_NoList.ty)))) sS_nil)
 (sS_cons (sS_for (passes_of rfl) rfl (sI_enum (by rfl) b_enumerate (sE_var (pv 3))) (sG_tup rfl (sGs_cons (sG_name (pg_name (i := 4) sc_Table___init__.nd rfl (by first | exact Or.inl rfl | exact Or.inr rfl))) (sGs_cons (sG_name (pg_name (i := 5) sc_Table___init__.nd rfl (by first | exact Or.inl rfl | exact Or.inr rfl))) sGs_nil)) (lenS (lenS len0))) (sS_one (sS_if (sT_not (sT_tru (sE_callO c_is_row G_is_row (hr.mono (by decide)) (by rfl) (fun σ => passAt tk σ) (sR_k (sE_var (pv 5)) (sR_k (sE_var (pv 1)) (sR_k (sE_var (pv 2)) sR_nil)))))) (sS_one (sS_raiseI rfl tk e_BadRow.hc (fun {ta} ha => pmk_near n_BadRow parts_BadRow texts_i (hr.mono (by decide) : Room 1 _) ha) (sE_var (pv 4)))) sS_nil)))
 (sS_cons (sS_fld fl_width (pv 0) (sE_var (pv 1)))
 (sS_cons (sS_fld fl_arity (pv 0) (sE_var (pv 2)))
 (sS_one (sS_fld fl__rows (pv 0) (sE_ss rfl hr.units (by rfl) b_sorted (by rfl) b_set (sE_var (pv 3)))))))))))
abbrev s_check_order : Stmt := top 16
def N_check_order : List Str := ["order", "width"]
theorem sc_check_order : FnScope N_check_order ["order", "width"] (defScope s_check_order) := ⟨rfl, rfl, rfl, by decide +kernel, rfl, by decide +kernel, by decide +kernel⟩
theorem ok_check_order {f : Addr} {fd : FuncData} {C_BadOrder f_is_row : Addr} {d_is_row : FuncData} (F : Fun K "check_order" "check_order" s_check_order f fd) (b_len : mg "len" = none) (b_set : mg "set" = none) (c_is_row : Cal K mg "is_row" ["value", "width", "length"] f_is_row d_is_row) (G_is_row : FnOk P w K mg base (L2.CX P w) 3 f_is_row d_is_row ["value", "width", "length"] (spF K Γ [false, false, false] g_is_row)) (b_tuple : mg "tuple" = none) (b_isinstance : mg "isinstance" = none) (is_list : IsOk K Γ (.type "list") (ansB ["list"])) (b_list : mg "list" = none) (e_BadOrder : ErrX K Γ mg "BadOrder" C_BadOrder) (q_BadOrder : PySem.W.excIn K C_BadOrder [.type "ValueError", .type "Exception", .type "BaseException", .type "object"] "ValueError.__new__" = true) :
    FnOk P w K mg base (L2.CX P w) 4 f fd ["order", "width"] (spF K Γ [false, false] g_check_order) :=
  okF (N := N_check_order) F sc_check_order rfl (by decide) fun cdv A outer s H E hr => by
    have tk : Takes (cxOf (L2.CX P w) P w K mg base N_check_order "check_order" (defScope s_check_order) f cdv A outer s H E) (fun cls d _ H => E cls d H) := takes_of rfl rfl rfl rfl
    exact (sS_one (sS_if (PW.pt (sW_or (sT_not (sT_tru (sE_isB (by rfl) b_isinstance (by rfl) b_list boot_list is_list (sE_var (pv 0))))) (sW_or (sT_not (sT_tru (sE_callO c_is_row G_is_row (hr.mono (by decide)) (by rfl) (fun σ => passAt tk σ) (sR_k (sE_callT1 call_tuple_of r1_tuple (by rfl) b_tuple boot_tuple (sE_var (pv 0))) (sR_k (sE_var (pv 1)) (sR_k (sE_var (pv 1)) sR_nil)))))) (sW_or1 (sT_cmp op_lt r2_lt (sE_lenSet rfl (by rfl) b_len (by rfl) b_set (sE_var (pv 0))) (sE_var (pv 1)) (nomark _)))))) (sS_one (sS_raise0 rfl tk e_BadOrder.hc (pmk_exc0 q_BadOrder e_BadOrder.g e_BadOrder.k (raises_own e_BadOrder.ex e_BadOrder.ty)))) sS_nil))
abbrev s_Table_renamed : Stmt := inCls (top 22) 9
def N_Table_renamed : List Str := ["self", "order", "row", "value"]
theorem sc_Table_renamed : FnScope N_Table_renamed ["self", "order"] (defScope s_Table_renamed) := ⟨rfl, rfl, rfl, by decide +kernel, rfl, by decide +kernel, by decide +kernel⟩
theorem ok_Table_renamed {f : Addr} {fd : FuncData} {C_Table f_Table___init__ f_check_order : Addr} {d_Table___init__ d_check_order : FuncData} (F : Fun K "renamed" "Table.renamed" s_Table_renamed f fd) (G_Table___init__ : FnOk P w K mg base (L2.CX P w) 4 f_Table___init__ d_Table___init__ ["self", "width", "arity", "rows"] (spF K Γ [true, false, false, false] g_Table___init__)) (k_Table___init__ : Mk K C_Table f_Table___init__) (bd_Table___init__ : Binds K d_Table___init__ ["self", "width", "arity", "rows"] []) (X_Table : ClsX K Γ mg "Table" C_Table) (fl__rows : FldOk K Γ "_rows" clsAll) (b_tuple : mg "tuple" = none) (fl_arity : FldOk K Γ "arity" clsAll) (fl_width : FldOk K Γ "width" clsAll) (c_check_order : Cal K mg "check_order" ["order", "width"] f_check_order d_check_order) (G_check_order : FnOk P w K mg base (L2.CX P w) 4 f_check_order d_check_order ["order", "width"] (spF K Γ [false, false] g_check_order)) :
    FnOk P w K mg base (L2.CX P w) 6 f fd ["self", "order"] (spF K Γ [false, false] g_Table_renamed) :=
  okF (N := N_Table_renamed) F sc_Table_renamed rfl (by decide) fun cdv A outer s H E hr => by
    have tk : Takes (cxOf (L2.CX P w) P w K mg base N_Table_renamed "Table.renamed" (defScope s_Table_renamed) f cdv A outer s H E) (fun cls d _ H => E cls d H) := takes_of rfl rfl rfl rfl
    exact (sS_cons (sS_expr (sE_callO c_check_order G_check_order (hr.mono (by decide)) (by rfl) (fun σ => passAt tk σ) (sR_k (sE_var (pv 1)) (sR_k (sE_fld fl_width (sE_var (pv 0))) sR_nil))))
 (sS_one (sS_ret (sE_make X_Table.hc rfl k_Table___init__ G_Table___init__ (hr.mono (by decide)) (by rfl) X_Table.g bd_Table___init__ (fun σ => passAt tk σ) (sR_k (sE_fld fl_width (sE_var (pv 0))) (sR_k (sE_fld fl_arity (sE_var (pv 0))) (sR_k (sE_lcV rfl sc_Table_renamed.nd (sI_seq (sE_fld fl__rows (sE_var (pv 0)))) (blkOk_by (own := [("row", 2)]) (N := N_Table_renamed) (sc := defScope s_Table_renamed) (by decide +kernel)) off_N (by decide) (fun _ _ _ _ _ => (sG_name (pg_name (i := 2) sc_Table_renamed.nd rfl (by first | exact Or.inl rfl | exact Or.inr rfl)))) (fun _ _ _ _ _ => sTs_nil) (fun _ _ _ _ _ => (sE_callT1 call_tuple_of r1_tuple (by rfl) b_tuple boot_tuple (sE_lcV rfl sc_Table_renamed.nd (sI_seq (sE_var (pv 2))) (by show BlkOk N_Table_renamed ⟨.function, [(".0", .local), ("row", .local), ("tuple", .globalImplicit), ("order", .cell)], false, false, []⟩ _ _; exact blkOk_by (own := [("value", 3)]) (by decide +kernel)) off_N (by decide) (fun _ _ _ _ _ => (sG_name (pg_name (i := 3) sc_Table_renamed.nd rfl (by first | exact Or.inl rfl | exact Or.inr rfl)))) (fun _ _ _ _ _ => sTs_nil) (fun _ _ _ _ _ => (sE_ix ix_seq r2_ix (sE_var (pv 1)) (sE_var (pv 3)) (fun _ _ => rfl))))))) sR_nil)))))))
abbrev s_Table_glued : Stmt := inCls (top 22) 8
def N_Table_glued : List Str := ["self", "one", "other", "row"]
theorem sc_Table_glued : FnScope N_Table_glued ["self", "one", "other"] (defScope s_Table_glued) := ⟨rfl, rfl, rfl, by decide +kernel, rfl, by decide +kernel, by decide +kernel⟩
theorem ok_Table_glued {f : Addr} {fd : FuncData} {C_BadSpots C_Table f_Table___init__ f_is_below : Addr} {d_Table___init__ d_is_below : FuncData} (F : Fun K "glued" "Table.glued" s_Table_glued f fd) (G_Table___init__ : FnOk P w K mg base (L2.CX P w) 4 f_Table___init__ d_Table___init__ ["self", "width", "arity", "rows"] (spF K Γ [true, false, false, false] g_Table___init__)) (k_Table___init__ : Mk K C_Table f_Table___init__) (bd_Table___init__ : Binds K d_Table___init__ ["self", "width", "arity", "rows"] []) (X_Table : ClsX K Γ mg "Table" C_Table) (fl__rows : FldOk K Γ "_rows" clsAll) (fl_arity : FldOk K Γ "arity" clsAll) (fl_width : FldOk K Γ "width" clsAll) (c_is_below : Cal K mg "is_below" ["value", "limit"] f_is_below d_is_below) (G_is_below : FnOk P w K mg base (L2.CX P w) 2 f_is_below d_is_below ["value", "limit"] (spF K Γ [false, false] g_is_below)) (e_BadSpots : ErrX K Γ mg "BadSpots" C_BadSpots) (q_BadSpots : PySem.W.excIn K C_BadSpots [.type "ValueError", .type "Exception", .type "BaseException", .type "object"] "ValueError.__new__" = true) :
    FnOk P w K mg base (L2.CX P w) 6 f fd ["self", "one", "other"] (spF K Γ [false, false, false] g_Table_glued) :=
  okF (N := N_Table_glued) F sc_Table_glued rfl (by decide) fun cdv A outer s H E hr => by
    have tk : Takes (cxOf (L2.CX P w) P w K mg base N_Table_glued "Table.glued" (defScope s_Table_glued) f cdv A outer s H E) (fun cls d _ H => E cls d H) := takes_of rfl rfl rfl rfl
    exact (sS_cons (sS_if (PW.pt (sW_or (sT_not (sT_tru (sE_callO c_is_below G_is_below (hr.mono (by decide)) (by rfl) (fun σ => passAt tk σ) (sR_k (sE_var (pv 1)) (sR_k (sE_fld fl_arity (sE_var (pv 0))) sR_nil))))) (sW_or1 (sT_not (sT_tru (sE_callO c_is_below G_is_below (hr.mono (by decide)) (by rfl) (fun σ => passAt tk σ) (sR_k (sE_var (pv 2)) (sR_k (sE_fld fl_arity (sE_var (pv 0))) sR_nil)))))))) (sS_one (sS_raise0 rfl tk e_BadSpots.hc (pmk_exc0 q_BadSpots e_BadSpots.g e_BadSpots.k (raises_own e_BadSpots.ex e_BadSpots.ty)))) sS_nil)
 (sS_one (sS_ret (sE_make X_Table.hc rfl k_Table___init__ G_Table___init__ (hr.mono (by decide)) (by rfl) X_Table.g bd_Table___init__ (fun σ => passAt tk σ) (sR_k (sE_fld fl_width (sE_var (pv 0))) (sR_k (sE_fld fl_arity (sE_var (pv 0))) (sR_k (sE_lcV rfl sc_Table_glued.nd (sI_seq (sE_fld fl__rows (sE_var (pv 0)))) (blkOk_by (own := [("row", 3)]) (N := N_Table_glued) (sc := defScope s_Table_glued) (by decide +kernel)) off_N (by decide) (fun _ _ _ _ _ => (sG_name (pg_name (i := 3) sc_Table_glued.nd rfl (by first | exact Or.inl rfl | exact Or.inr rfl)))) (fun _ _ _ _ _ => (sTs_one (sT_cmp (op_eqX hr.units) r2_eqX (sE_ix ix_seq r2_ix (sE_var (pv 3)) (sE_var (pv 1)) (fun _ _ => rfl)) (sE_ix ix_seq r2_ix (sE_var (pv 3)) (sE_var (pv 2)) (fun _ _ => rfl)) (nomark _)))) (fun _ _ _ _ _ => (sE_var (pv 3)))) sR_nil)))))))
abbrev s_Table_seen : Stmt := inCls (top 22) 7
def N_Table_seen : List Str := ["self", "spots", "row", "spot"]
theorem sc_Table_seen : FnScope N_Table_seen ["self", "spots"] (defScope s_Table_seen) := ⟨rfl, rfl, rfl, by decide +kernel, rfl, by decide +kernel, by decide +kernel⟩
theorem ok_Table_seen {f : Addr} {fd : FuncData} {C_BadSpots C_Table f_Table___init__ f_is_between f_is_row : Addr} {d_Table___init__ d_is_between d_is_row : FuncData} (F : Fun K "seen" "Table.seen" s_Table_seen f fd) (G_Table___init__ : FnOk P w K mg base (L2.CX P w) 4 f_Table___init__ d_Table___init__ ["self", "width", "arity", "rows"] (spF K Γ [true, false, false, false] g_Table___init__)) (k_Table___init__ : Mk K C_Table f_Table___init__) (bd_Table___init__ : Binds K d_Table___init__ ["self", "width", "arity", "rows"] []) (X_Table : ClsX K Γ mg "Table" C_Table) (fl__rows : FldOk K Γ "_rows" clsAll) (b_tuple : mg "tuple" = none) (b_len : mg "len" = none) (fl_width : FldOk K Γ "width" clsAll) (c_is_row : Cal K mg "is_row" ["value", "width", "length"] f_is_row d_is_row) (G_is_row : FnOk P w K mg base (L2.CX P w) 3 f_is_row d_is_row ["value", "width", "length"] (spF K Γ [false, false, false] g_is_row)) (fl_arity : FldOk K Γ "arity" clsAll) (e_BadSpots : ErrX K Γ mg "BadSpots" C_BadSpots) (q_BadSpots : PySem.W.excIn K C_BadSpots [.type "ValueError", .type "Exception", .type "BaseException", .type "object"] "ValueError.__new__" = true) (c_is_between : Cal K mg "is_between" ["value", "least", "greatest"] f_is_between d_is_between) (G_is_between : FnOk P w K mg base (L2.CX P w) 1 f_is_between d_is_between ["value", "least", "greatest"] (spF K Γ [false, false, false] g_is_between)) (v_GREATEST_ARITY : ∃ t, mg "GREATEST_ARITY" = some (.int 3 t)) (b_isinstance : mg "isinstance" = none) (is_tuple : IsOk K Γ (.type "tuple") (ansB ["tuple"])) :
    FnOk P w K mg base (L2.CX P w) 6 f fd ["self", "spots"] (spF K Γ [false, false] g_Table_seen) :=
  okF (N := N_Table_seen) F sc_Table_seen rfl (by decide) fun cdv A outer s H E hr => by
    have tk : Takes (cxOf (L2.CX P w) P w K mg base N_Table_seen "Table.seen" (defScope s_Table_seen) f cdv A outer s H E) (fun cls d _ H => E cls d H) := takes_of rfl rfl rfl rfl
    exact (sS_cons (sS_if (PW.pt (sW_or (sT_not (sT_tru (sE_isB (by rfl) b_isinstance (by rfl) b_tuple boot_tuple is_tuple (sE_var (pv 1))))) (sW_or1 (sT_not (sT_tru (sE_callO c_is_between G_is_between (hr.mono (by decide)) (by rfl) (fun σ => passAt tk σ) (sR_k (sE_call1 call_lenX r1_len (by rfl) b_len PySem.boot_len (sE_var (pv 1))) (sR_k sE_int (sR_k (sE_gint (by rfl) v_GREATEST_ARITY) sR_nil))))))))) (sS_one (sS_raise0 rfl tk e_BadSpots.hc (pmk_exc0 q_BadSpots e_BadSpots.g e_BadSpots.k (raises_own e_BadSpots.ex e_BadSpots.ty)))) sS_nil)
 (sS_cons (sS_if (sT_not (sT_tru (sE_callO c_is_row G_is_row (hr.mono (by decide)) (by rfl) (fun σ => passAt tk σ) (sR_k (sE_var (pv 1)) (sR_k (sE_fld fl_arity (sE_var (pv 0))) (sR_k (sE_call1 call_lenX r1_len (by rfl) b_len PySem.boot_len (sE_var (pv 1))) sR_nil)))))) (sS_one (sS_raise0 rfl tk e_BadSpots.hc (pmk_exc0 q_BadSpots e_BadSpots.g e_BadSpots.k (raises_own e_BadSpots.ex e_BadSpots.ty)))) sS_nil)
 (sS_one (sS_ret (sE_make X_Table.hc rfl k_Table___init__ G_Table___init__ (hr.mono (by decide)) (by rfl) X_Table.g bd_Table___init__ (fun σ => passAt tk σ) (sR_k (sE_fld fl_width (sE_var (pv 0))) (sR_k (sE_call1 call_lenX r1_len (by rfl) b_len PySem.boot_len (sE_var (pv 1))) (sR_k (sE_lcV rfl sc_Table_seen.nd (sI_seq (sE_fld fl__rows (sE_var (pv 0)))) (blkOk_by (own := [("row", 2)]) (N := N_Table_seen) (sc := defScope s_Table_seen) (by decide +kernel)) off_N (by decide) (fun _ _ _ _ _ => (sG_name (pg_name (i := 2) sc_Table_seen.nd rfl (by first | exact Or.inl rfl | exact Or.inr rfl)))) (fun _ _ _ _ _ => sTs_nil) (fun _ _ _ _ _ => (sE_callT1 call_tuple_of r1_tuple (by rfl) b_tuple boot_tuple (sE_lcV rfl sc_Table_seen.nd (sI_seq (sE_var (pv 1))) (by show BlkOk N_Table_seen ⟨.function, [(".0", .local), ("row", .cell), ("tuple", .globalImplicit), ("spots", .cell)], false, false, []⟩ _ _; exact blkOk_by (own := [("spot", 3)]) (by decide +kernel)) off_N (by decide) (fun _ _ _ _ _ => (sG_name (pg_name (i := 3) sc_Table_seen.nd rfl (by first | exact Or.inl rfl | exact Or.inr rfl)))) (fun _ _ _ _ _ => sTs_nil) (fun _ _ _ _ _ => (sE_ix ix_seq r2_ix (sE_var (pv 2)) (sE_var (pv 3)) (fun _ _ => rfl))))))) sR_nil))))))))
abbrev s__law_take : Stmt := top 25
def N__law_take : List Str := ["feed", "many", "digit"]
theorem sc__law_take : FnScope N__law_take ["feed", "many"] (defScope s__law_take) := ⟨rfl, rfl, rfl, by decide +kernel, rfl, by decide +kernel, by decide +kernel⟩
theorem ok__law_take {f : Addr} {fd : FuncData} (F : Fun K "_law_take" "_law_take" s__law_take f fd) (b_int : mg "int" = none) :
    FnOk P w K mg base (L2.CX P w) 1 f fd ["feed", "many"] (spF K Γ [true, false] g__law_take) :=
  okF (N := N__law_take) F sc__law_take rfl (by decide) fun cdv A outer s H E hr => by
    have tk : Takes (cxOf (L2.CX P w) P w K mg base N__law_take "_law_take" (defScope s__law_take) f cdv A outer s H E) (fun cls d _ H => E cls d H) := takes_of rfl rfl rfl rfl
    exact (sS_cons (sS_if (sT_cmp op_gt r2_gt (sE_ix ix_seq r2_ix (sE_var (pv 0)) sE_int (fun _ _ => rfl)) sE_int (nomark _)) (sS_cons (sS_set (i := 2) sc__law_take.nd rfl (by first | exact Or.inl rfl | exact Or.inr rfl) (sE_op op_mod r2_mod (sE_callT1 call_int1 r1_int (by rfl) b_int boot_int (sE_ix ix_seq r2_ix (sE_var (pv 0)) sE_int (fun _ _ => rfl))) (sE_var (pv 1))))
 (sS_cons (sS_sub (pv 0) sE_int (sE_op op_fdiv r2_div (sE_ix ix_seq r2_ix (sE_var (pv 0)) sE_int (fun _ _ => rfl)) (sE_var (pv 1))) (fun hx hi he => ps_asg he (pg_sub hx hi set_list)))
 (sS_one (sS_ret (sE_var (pv 2)))))) sS_nil)
 (sS_cons (sS_sub (pv 0) sE_int (sE_op op_mod r2_mod (sE_callT1 call_int1 r1_int (by rfl) b_int boot_int (sE_op op_addX r2_add (sE_op op_mulX r2_mul (sE_ix ix_seq r2_ix (sE_var (pv 0)) sE_int (fun _ _ => rfl)) sE_int) sE_int)) sE_int) (fun hx hi he => ps_asg he (pg_sub hx hi set_list)))
 (sS_one (sS_ret (sE_op op_mod r2_mod (sE_callT1 call_int1 r1_int (by rfl) b_int boot_int (sE_op op_fdiv r2_div (sE_ix ix_seq r2_ix (sE_var (pv 0)) sE_int (fun _ _ => rfl)) sE_int)) (sE_var (pv 1)))))))
abbrev s__law_pick : Stmt := top 26
def N__law_pick : List Str := ["feed", "some"]
theorem sc__law_pick : FnScope N__law_pick ["feed", "some"] (defScope s__law_pick) := ⟨rfl, rfl, rfl, by decide +kernel, rfl, by decide +kernel, by decide +kernel⟩
theorem ok__law_pick {f : Addr} {fd : FuncData} {f__law_take : Addr} {d__law_take : FuncData} (F : Fun K "_law_pick" "_law_pick" s__law_pick f fd) (c__law_take : Cal K mg "_law_take" ["feed", "many"] f__law_take d__law_take) (G__law_take : FnOk P w K mg base (L2.CX P w) 1 f__law_take d__law_take ["feed", "many"] (spF K Γ [true, false] g__law_take)) (b_len : mg "len" = none) :
    FnOk P w K mg base (L2.CX P w) 2 f fd ["feed", "some"] (spF K Γ [true, false] g__law_pick) :=
  okF (N := N__law_pick) F sc__law_pick rfl (by decide) fun cdv A outer s H E hr => by
    have tk : Takes (cxOf (L2.CX P w) P w K mg base N__law_pick "_law_pick" (defScope s__law_pick) f cdv A outer s H E) (fun cls d _ H => E cls d H) := takes_of rfl rfl rfl rfl
    exact (sS_one (sS_ret (sE_ix ix_seq r2_ix (sE_var (pv 1)) (sE_callO c__law_take G__law_take (hr.mono (by decide)) (by rfl) (fun σ => passAt tk σ) (sR_p (sE_var (pv 0)) (sR_k (sE_call1 call_lenX r1_len (by rfl) b_len PySem.boot_len (sE_var (pv 1))) sR_nil))) (fun _ _ => rfl))))
abbrev s__law_all : Stmt := top 27
def N__law_all : List Str := ["width", "length", "found", "turn", "longer", "one", "value"]
theorem sc__law_all : FnScope N__law_all ["width", "length"] (defScope s__law_all) := ⟨rfl, rfl, rfl, by decide +kernel, rfl, by decide +kernel, by decide +kernel⟩
theorem ok__law_all {f : Addr} {fd : FuncData} (F : Fun K "_law_all" "_law_all" s__law_all f fd) (b_range : mg "range" = none) :
    FnOk P w K mg base (L2.CX P w) 1 f fd ["width", "length"] (spF K Γ [false, false] g__law_all) :=
  okF (N := N__law_all) F sc__law_all rfl (by decide) fun cdv A outer s H E hr => by
    have tk : Takes (cxOf (L2.CX P w) P w K mg base N__law_all "_law_all" (defScope s__law_all) f cdv A outer s H E) (fun cls d _ H => E cls d H) := takes_of rfl rfl rfl rfl
    exact (sS_cons (sS_set (i := 2) sc__law_all.nd rfl (by first | exact Or.inl rfl | exact Or.inr rfl) (sE_lst (sA_cons (sE_tup sA_nil) sA_nil)))
 (sS_cons (sS_for (passes_of rfl) rfl (sI_rng1 (by rfl) b_range (sE_var (pv 1))) (sG_name (pg_name (i := 3) sc__law_all.nd rfl (by first | exact Or.inl rfl | exact Or.inr rfl))) (sS_cons (sS_set (i := 4) sc__law_all.nd rfl (by first | exact Or.inl rfl | exact Or.inr rfl) (sE_lst sA_nil))
 (sS_cons (sS_for (passes_of rfl) rfl (sI_seq (sE_var (pv 2))) (sG_name (pg_name (i := 5) sc__law_all.nd rfl (by first | exact Or.inl rfl | exact Or.inr rfl))) (sS_one (sS_set (i := 4) sc__law_all.nd rfl (by first | exact Or.inl rfl | exact Or.inr rfl) (sE_op op_addX r2_add (sE_var (pv 4)) (sE_lcV rfl sc__law_all.nd (sI_rng1 (by rfl) b_range (sE_var (pv 0))) (blkOk_by (own := [("value", 6)]) (N := N__law_all) (sc := defScope s__law_all) (by decide +kernel)) off_N (by decide) (fun _ _ _ _ _ => (sG_name (pg_name (i := 6) sc__law_all.nd rfl (by first | exact Or.inl rfl | exact Or.inr rfl)))) (fun _ _ _ _ _ => sTs_nil) (fun _ _ _ _ _ => (sE_op op_addX r2_add (sE_var (pv 5)) (sE_tup (sA_cons (sE_var (pv 6)) sA_nil)))))))))
 (sS_one (sS_set (i := 2) sc__law_all.nd rfl (by first | exact Or.inl rfl | exact Or.inr rfl) (sE_var (pv 4)))))))
 (sS_one (sS_ret (sE_var (pv 2))))))
abbrev s__law_twice_right : Stmt := top 39
def N__law_twice_right : List Str := ["feed", "table", "width", "arity", "rows", "nth", "tuples", "pairs", "orders", "some", "seen", "one", "other", "due", "turn", "row", "at", "value"]
theorem sc__law_twice_right : FnScope N__law_twice_right ["feed", "table", "width", "arity", "rows"] (defScope s__law_twice_right) := ⟨rfl, rfl, rfl, by decide +kernel, rfl, by decide +kernel, by decide +kernel⟩
theorem ok__law_twice_right {f : Addr} {fd : FuncData} {C_Table f_Table_glued f_Table_renamed f_Table_seen f__law_all f__law_is f__law_pick f__law_take : Addr} {d_Table_glued d_Table_renamed d_Table_seen d__law_all d__law_is d__law_pick d__law_take : FuncData} (F : Fun K "_law_twice_right" "_law_twice_right" s__law_twice_right f fd) (c__law_is : Cal K mg "_law_is" ["table", "width", "arity", "rows"] f__law_is d__law_is) (G__law_is : FnG P w K mg base (L2.CX P w) 3 f__law_is d__law_is ["table", "width", "arity", "rows"] (spF K Γ [false, false, false, false] g__law_is)) (G_Table_renamed : FnOk P w K mg base (L2.CX P w) 6 f_Table_renamed d_Table_renamed ["self", "order"] (spF K Γ [false, false] g_Table_renamed)) (m_Table_renamed : Meth K C_Table "renamed" f_Table_renamed) (bd_Table_renamed : Binds K d_Table_renamed ["self", "order"] []) (X_Table : ClsX K Γ mg "Table" C_Table) (b_tuple : mg "tuple" = none) (G_Table_glued : FnOk P w K mg base (L2.CX P w) 6 f_Table_glued d_Table_glued ["self", "one", "other"] (spF K Γ [false, false, false] g_Table_glued)) (m_Table_glued : Meth K C_Table "glued" f_Table_glued) (bd_Table_glued : Binds K d_Table_glued ["self", "one", "other"] []) (b_len : mg "len" = none) (G_Table_seen : FnOk P w K mg base (L2.CX P w) 6 f_Table_seen d_Table_seen ["self", "spots"] (spF K Γ [false, false] g_Table_seen)) (m_Table_seen : Meth K C_Table "seen" f_Table_seen) (bd_Table_seen : Binds K d_Table_seen ["self", "spots"] []) (c__law_pick : Cal K mg "_law_pick" ["feed", "some"] f__law_pick d__law_pick) (G__law_pick : FnOk P w K mg base (L2.CX P w) 2 f__law_pick d__law_pick ["feed", "some"] (spF K Γ [true, false] g__law_pick)) (c__law_all : Cal K mg "_law_all" ["width", "length"] f__law_all d__law_all) (G__law_all : FnOk P w K mg base (L2.CX P w) 1 f__law_all d__law_all ["width", "length"] (spF K Γ [false, false] g__law_all)) (b_set : mg "set" = none) (b_list : mg "list" = none) (b_range : mg "range" = none) (c__law_take : Cal K mg "_law_take" ["feed", "many"] f__law_take d__law_take) (G__law_take : FnOk P w K mg base (L2.CX P w) 1 f__law_take d__law_take ["feed", "many"] (spF K Γ [true, false] g__law_take)) :
    FnG P w K mg base (L2.CX P w) 7 f fd ["feed", "table", "width", "arity", "rows"] (spF K Γ [true, false, false, false, false] g__law_twice_right) :=
  okG (N := N__law_twice_right) F sc__law_twice_right rfl (by decide) fun cdv A outer s H E hg hr => by
    have tk : Takes (cxOf (L2.CX P w) P w K mg base N__law_twice_right "_law_twice_right" (defScope s__law_twice_right) f cdv A outer s H E) (fun cls d _ H => E cls d H) := takes_of rfl rfl rfl rfl
    exact (sS_cons (sS_set (i := 6) sc__law_twice_right.nd rfl (by first | exact Or.inl rfl | exact Or.inr rfl) (sE_lcV rfl sc__law_twice_right.nd (sI_rng1 (by rfl) b_range sE_int) (blkOk_by (own := [("nth", 5)]) (N := N__law_twice_right) (sc := defScope s__law_twice_right) (by decide +kernel)) off_N (by decide) (fun _ _ _ _ _ => (sG_name (pg_name (i := 5) sc__law_twice_right.nd rfl (by first | exact Or.inl rfl | exact Or.inr rfl)))) (fun _ _ _ _ _ => sTs_nil) (fun _ _ _ _ _ => (sE_callT1 call_tuple_of r1_tuple (by rfl) b_tuple boot_tuple (sE_lcV rfl sc__law_twice_right.nd (sI_rng1 (by rfl) b_range (sE_op op_addX r2_add sE_int (sE_callO c__law_take G__law_take (hr.mono (by decide)) (by rfl) (fun σ => passNo σ) (sR_p (sE_var (pv 0)) (sR_k sE_int sR_nil))))) (by show BlkOk N__law_twice_right ⟨.function, [(".0", .local), ("nth", .local), ("tuple", .globalImplicit), ("range", .globalImplicit), ("_law_take", .globalImplicit), ("arity", .cell), ("feed", .cell)], false, false, []⟩ _ _; exact blkOk_by (own := [("turn", 14)]) (by decide +kernel)) off_N (by decide) (fun _ _ _ _ _ => (sG_name (pg_name (i := 14) sc__law_twice_right.nd rfl (by first | exact Or.inl rfl | exact Or.inr rfl)))) (fun _ _ _ _ _ => sTs_nil) (fun _ _ _ _ _ => (sE_callO c__law_take G__law_take (hr.mono (by decide)) (by rfl) (fun σ => passNo σ) (sR_p (sE_var (pv 0)) (sR_k (sE_var (pv 3)) sR_nil)))))))))
 (sS_cons (sS_setLcIV (i := 7) rfl sc__law_twice_right.nd rfl rfl rfl (sI_rng1 (by rfl) b_range sE_int) (blkOk_by (own := [("nth", 5)]) (N := N__law_twice_right) (sc := defScope s__law_twice_right) (by decide +kernel)) off_N (by decide) (fun _ _ _ _ _ => (sG_name (pg_name (i := 5) sc__law_twice_right.nd rfl (by first | exact Or.inl rfl | exact Or.inr rfl)))) (fun _ _ _ _ _ => sTs_nil) (fun _ _ _ _ _ => (sE_tup (sA_cons (sE_callO c__law_take G__law_take (hr.mono (by decide)) (by rfl) (fun σ => passNo σ) (sR_p (sE_var (pv 0)) (sR_k (sE_var (pv 3)) sR_nil))) (sA_cons (sE_callO c__law_take G__law_take (hr.mono (by decide)) (by rfl) (fun σ => passNo σ) (sR_p (sE_var (pv 0)) (sR_k (sE_var (pv 3)) sR_nil))) sA_nil)))))
 (sS_cons (sS_setLcIV (i := 8) rfl sc__law_twice_right.nd rfl rfl rfl (sI_seq (sE_callO c__law_all G__law_all (hr.mono (by decide)) (by rfl) (fun σ => passAt tk σ) (sR_k (sE_var (pv 2)) (sR_k (sE_var (pv 2)) sR_nil)))) (blkOk_by (own := [("row", 15)]) (N := N__law_twice_right) (sc := defScope s__law_twice_right) (by decide +kernel)) off_N (by decide) (fun _ _ _ _ _ => (sG_name (pg_name (i := 15) sc__law_twice_right.nd rfl (by first | exact Or.inl rfl | exact Or.inr rfl)))) (fun _ _ _ _ _ => (sTs_one (sT_cmp (op_eqX hr.units) r2_eqX (sE_lenSet rfl (by rfl) b_len (by rfl) b_set (sE_var (pv 15))) (sE_var (pv 2)) (nomark _)))) (fun _ _ _ _ _ => (sE_callT1 call_list_of r1_list (by rfl) b_list boot_list (sE_var (pv 15)))))
 (sS_cons (sS_set (i := 9) sc__law_twice_right.nd rfl (by first | exact Or.inl rfl | exact Or.inr rfl) (sE_lst (sA_cons (sE_callO c__law_pick G__law_pick (hr.mono (by decide)) (by rfl) (fun σ => passAt tk σ) (sR_p (sE_var (pv 0)) (sR_k (sE_var (pv 8)) sR_nil))) (sA_cons (sE_callO c__law_pick G__law_pick (hr.mono (by decide)) (by rfl) (fun σ => passAt tk σ) (sR_p (sE_var (pv 0)) (sR_k (sE_var (pv 8)) sR_nil))) sA_nil))))
 (sS_cons (sS_for (passes_of rfl) rfl (sI_seq (sE_tup (sA_cons sE_int (sA_cons sE_int (sA_cons sE_int sA_nil))))) (sG_name (pg_name (i := 5) sc__law_twice_right.nd rfl (by first | exact Or.inl rfl | exact Or.inr rfl))) (sS_cons (sS_setLcIV (i := 10) rfl sc__law_twice_right.nd rfl rfl rfl (sI_seq (sE_var (pv 4))) (blkOk_by (own := [("row", 15)]) (N := N__law_twice_right) (sc := defScope s__law_twice_right) (by decide +kernel)) off_N (by decide) (fun _ _ _ _ _ => (sG_name (pg_name (i := 15) sc__law_twice_right.nd rfl (by first | exact Or.inl rfl | exact Or.inr rfl)))) (fun _ _ _ _ _ => sTs_nil) (fun _ _ _ _ _ => (sE_callT1 call_tuple_of r1_tuple (by rfl) b_tuple boot_tuple (sE_lcV rfl sc__law_twice_right.nd (sI_seq (sE_ix ix_seq r2_ix (sE_var (pv 6)) (sE_var (pv 5)) (fun _ _ => rfl))) (by show BlkOk N__law_twice_right ⟨.function, [(".0", .local), ("row", .cell), ("tuple", .globalImplicit), ("nth", .cell), ("tuples", .cell)], false, false, []⟩ _ _; exact blkOk_by (own := [("at", 16)]) (by decide +kernel)) off_N (by decide) (fun _ _ _ _ _ => (sG_name (pg_name (i := 16) sc__law_twice_right.nd rfl (by first | exact Or.inl rfl | exact Or.inr rfl)))) (fun _ _ _ _ _ => sTs_nil) (fun _ _ _ _ _ => (sE_ix ix_seq r2_ix (sE_var (pv 15)) (sE_var (pv 16)) (fun _ _ => rfl)))))))
 (sS_cons (sS_if (sT_not (sT_tru (sE_callG c__law_is G__law_is hg (hr.mono (by decide)) (by rfl) (fun σ => passAt tk σ) (sR_k (sE_meth X_Table.hc (sE_var (pv 1)) X_Table.cls m_Table_seen G_Table_seen (hr.mono (by decide)) bd_Table_seen (fun σ => passAt tk σ) (sR_k (sE_ix ix_seq r2_ix (sE_var (pv 6)) (sE_var (pv 5)) (fun _ _ => rfl)) sR_nil)) (sR_k (sE_var (pv 2)) (sR_k (sE_call1 call_lenX r1_len (by rfl) b_len PySem.boot_len (sE_ix ix_seq r2_ix (sE_var (pv 6)) (sE_var (pv 5)) (fun _ _ => rfl))) (sR_k (sE_var (pv 10)) sR_nil))))))) (sS_one (sS_ret sE_bl)) sS_nil)
 (sS_cons (sS_asg (sE_ix ix_seq r2_ix (sE_var (pv 7)) (sE_var (pv 5)) (fun _ _ => rfl)) (sG_tup rfl (sGs_cons (sG_name (pg_name (i := 11) sc__law_twice_right.nd rfl (by first | exact Or.inl rfl | exact Or.inr rfl))) (sGs_cons (sG_name (pg_name (i := 12) sc__law_twice_right.nd rfl (by first | exact Or.inl rfl | exact Or.inr rfl))) sGs_nil)) (lenS (lenS len0))))
 (sS_cons (sS_if (sT_not (sT_tru (sE_callG c__law_is G__law_is hg (hr.mono (by decide)) (by rfl) (fun σ => passAt tk σ) (sR_k (sE_meth X_Table.hc (sE_var (pv 1)) X_Table.cls m_Table_glued G_Table_glued (hr.mono (by decide)) bd_Table_glued (fun σ => passAt tk σ) (sR_k (sE_var (pv 11)) (sR_k (sE_var (pv 12)) sR_nil))) (sR_k (sE_var (pv 2)) (sR_k (sE_var (pv 3)) (sR_k (sE_lcV rfl sc__law_twice_right.nd (sI_seq (sE_var (pv 4))) (blkOk_by (own := [("row", 15)]) (N := N__law_twice_right) (sc := defScope s__law_twice_right) (by decide +kernel)) off_N (by decide) (fun _ _ _ _ _ => (sG_name (pg_name (i := 15) sc__law_twice_right.nd rfl (by first | exact Or.inl rfl | exact Or.inr rfl)))) (fun _ _ _ _ _ => (sTs_one (sT_cmp (op_eqX hr.units) r2_eqX (sE_ix ix_seq r2_ix (sE_var (pv 15)) (sE_var (pv 11)) (fun _ _ => rfl)) (sE_ix ix_seq r2_ix (sE_var (pv 15)) (sE_var (pv 12)) (fun _ _ => rfl)) (nomark _)))) (fun _ _ _ _ _ => (sE_var (pv 15)))) sR_nil))))))) (sS_one (sS_ret sE_bl)) sS_nil)
 (sS_cons (sS_setLcIV (i := 13) rfl sc__law_twice_right.nd rfl rfl rfl (sI_seq (sE_var (pv 4))) (blkOk_by (own := [("row", 15)]) (N := N__law_twice_right) (sc := defScope s__law_twice_right) (by decide +kernel)) off_N (by decide) (fun _ _ _ _ _ => (sG_name (pg_name (i := 15) sc__law_twice_right.nd rfl (by first | exact Or.inl rfl | exact Or.inr rfl)))) (fun _ _ _ _ _ => sTs_nil) (fun _ _ _ _ _ => (sE_callT1 call_tuple_of r1_tuple (by rfl) b_tuple boot_tuple (sE_lcV rfl sc__law_twice_right.nd (sI_seq (sE_var (pv 15))) (by show BlkOk N__law_twice_right ⟨.function, [(".0", .local), ("row", .local), ("tuple", .globalImplicit), ("nth", .cell), ("some", .cell)], false, false, []⟩ _ _; exact blkOk_by (own := [("value", 17)]) (by decide +kernel)) off_N (by decide) (fun _ _ _ _ _ => (sG_name (pg_name (i := 17) sc__law_twice_right.nd rfl (by first | exact Or.inl rfl | exact Or.inr rfl)))) (fun _ _ _ _ _ => sTs_nil) (fun _ _ _ _ _ => (sE_ix ix_seq r2_ix (sE_ix ix_seq r2_ix (sE_var (pv 9)) (sE_var (pv 5)) (fun _ _ => rfl)) (sE_var (pv 17)) (fun _ _ => rfl)))))))
 (sS_one (sS_if (sT_not (sT_tru (sE_callG c__law_is G__law_is hg (hr.mono (by decide)) (by rfl) (fun σ => passAt tk σ) (sR_k (sE_meth X_Table.hc (sE_var (pv 1)) X_Table.cls m_Table_renamed G_Table_renamed (hr.mono (by decide)) bd_Table_renamed (fun σ => passAt tk σ) (sR_k (sE_ix ix_seq r2_ix (sE_var (pv 9)) (sE_var (pv 5)) (fun _ _ => rfl)) sR_nil)) (sR_k (sE_var (pv 2)) (sR_k (sE_var (pv 3)) (sR_k (sE_var (pv 13)) sR_nil))))))) (sS_one (sS_ret sE_bl)) sS_nil))))))))
 (sS_one (sS_ret sE_bl)))))))
abbrev s_Table_equal : Stmt := inCls (top 22) 11
def N_Table_equal : List Str := ["width", "value"]
theorem sc_Table_equal : FnScope N_Table_equal ["width"] (defScope s_Table_equal) := ⟨rfl, rfl, rfl, by decide +kernel, rfl, by decide +kernel, by decide +kernel⟩
theorem ok_Table_equal {f : Addr} {fd : FuncData} {C_Table f_Table___init__ f_check_width : Addr} {d_Table___init__ d_check_width : FuncData} (F : Fun K "equal" "Table.equal" s_Table_equal f fd) (G_Table___init__ : FnOk P w K mg base (L2.CX P w) 4 f_Table___init__ d_Table___init__ ["self", "width", "arity", "rows"] (spF K Γ [true, false, false, false] g_Table___init__)) (k_Table___init__ : Mk K C_Table f_Table___init__) (bd_Table___init__ : Binds K d_Table___init__ ["self", "width", "arity", "rows"] []) (X_Table : ClsX K Γ mg "Table" C_Table) (b_range : mg "range" = none) (c_check_width : Cal K mg "check_width" ["width"] f_check_width d_check_width) (G_check_width : FnOk P w K mg base (L2.CX P w) 2 f_check_width d_check_width ["width"] (spF K Γ [false] g_check_width)) :
    FnOk P w K mg base (L2.CX P w) 6 f fd ["width"] (spF K Γ [false] g_Table_equal) :=
  okF (N := N_Table_equal) F sc_Table_equal rfl (by decide) fun cdv A outer s H E hr => by
    have tk : Takes (cxOf (L2.CX P w) P w K mg base N_Table_equal "Table.equal" (defScope s_Table_equal) f cdv A outer s H E) (fun cls d _ H => E cls d H) := takes_of rfl rfl rfl rfl
    exact (sS_cons (sS_expr (sE_callO c_check_width G_check_width (hr.mono (by decide)) (by rfl) (fun σ => passAt tk σ) (sR_k (sE_var (pv 0)) sR_nil)))
 (sS_one (sS_ret (sE_make X_Table.hc rfl k_Table___init__ G_Table___init__ (hr.mono (by decide)) (by rfl) X_Table.g bd_Table___init__ (fun σ => passAt tk σ) (sR_k (sE_var (pv 0)) (sR_k sE_int (sR_k (sE_lcV rfl sc_Table_equal.nd (sI_rng1 (by rfl) b_range (sE_var (pv 0))) (blkOk_by (own := [("value", 1)]) (N := N_Table_equal) (sc := defScope s_Table_equal) (by decide +kernel)) off_N (by decide) (fun _ _ _ _ _ => (sG_name (pg_name (i := 1) sc_Table_equal.nd rfl (by first | exact Or.inl rfl | exact Or.inr rfl)))) (fun _ _ _ _ _ => sTs_nil) (fun _ _ _ _ _ => (sE_tup (sA_cons (sE_var (pv 1)) (sA_cons (sE_var (pv 1)) sA_nil))))) sR_nil)))))))
abbrev s_Table_only : Stmt := inCls (top 22) 12
def N_Table_only : List Str := ["width", "value"]
theorem sc_Table_only : FnScope N_Table_only ["width", "value"] (defScope s_Table_only) := ⟨rfl, rfl, rfl, by decide +kernel, rfl, by decide +kernel, by decide +kernel⟩
theorem ok_Table_only {f : Addr} {fd : FuncData} {C_Table f_Table___init__ : Addr} {d_Table___init__ : FuncData} (F : Fun K "only" "Table.only" s_Table_only f fd) (G_Table___init__ : FnOk P w K mg base (L2.CX P w) 4 f_Table___init__ d_Table___init__ ["self", "width", "arity", "rows"] (spF K Γ [true, false, false, false] g_Table___init__)) (k_Table___init__ : Mk K C_Table f_Table___init__) (bd_Table___init__ : Binds K d_Table___init__ ["self", "width", "arity", "rows"] []) (X_Table : ClsX K Γ mg "Table" C_Table) :
    FnOk P w K mg base (L2.CX P w) 6 f fd ["width", "value"] (spF K Γ [false, false] g_Table_only) :=
  okF (N := N_Table_only) F sc_Table_only rfl (by decide) fun cdv A outer s H E hr => by
    have tk : Takes (cxOf (L2.CX P w) P w K mg base N_Table_only "Table.only" (defScope s_Table_only) f cdv A outer s H E) (fun cls d _ H => E cls d H) := takes_of rfl rfl rfl rfl
    exact (sS_one (sS_ret (sE_make X_Table.hc rfl k_Table___init__ G_Table___init__ (hr.mono (by decide)) (by rfl) X_Table.g bd_Table___init__ (fun σ => passAt tk σ) (sR_k (sE_var (pv 0)) (sR_k sE_int (sR_k (sE_lst (sA_cons (sE_tup (sA_cons (sE_var (pv 1)) sA_nil)) sA_nil)) sR_nil))))))
abbrev s__tuple_after : Stmt := top 19
def N__tuple_after : List Str := ["some", "width", "at"]
theorem sc__tuple_after : FnScope N__tuple_after ["some", "width"] (defScope s__tuple_after) := ⟨rfl, rfl, rfl, by decide +kernel, rfl, by decide +kernel, by decide +kernel⟩
theorem ok__tuple_after {f : Addr} {fd : FuncData} (F : Fun K "_tuple_after" "_tuple_after" s__tuple_after f fd) (b_len : mg "len" = none) (b_range : mg "range" = none) :
    FnOk P w K mg base (L2.CX P w) 1 f fd ["some", "width"] (spF K Γ [false, false] g__tuple_after) :=
  okF (N := N__tuple_after) F sc__tuple_after rfl (by decide) fun cdv A outer s H E hr => by
    have tk : Takes (cxOf (L2.CX P w) P w K mg base N__tuple_after "_tuple_after" (defScope s__tuple_after) f cdv A outer s H E) (fun cls d _ H => E cls d H) := takes_of rfl rfl rfl rfl
    exact (sS_cons (sS_for (passes_of rfl) rfl (sI_rng3 (by rfl) b_range (sE_op op_sub r2_sub (sE_call1 call_lenX r1_len (by rfl) b_len PySem.boot_len (sE_var (pv 0))) sE_int) (sE_un un_neg r1_neg sE_int) (sE_un un_neg r1_neg sE_int)) (sG_name (pg_name (i := 2) sc__tuple_after.nd rfl (by first | exact Or.inl rfl | exact Or.inr rfl))) (sS_one (sS_if (sT_cmp op_lt r2_lt (sE_op op_addX r2_add (sE_ix ix_seq r2_ix (sE_var (pv 0)) (sE_var (pv 2)) (fun _ _ => rfl)) sE_int) (sE_var (pv 1)) (nomark _)) (sS_one (sS_ret (sE_op op_addX r2_add (sE_op op_addX r2_add (sE_sl (sE_var (pv 0)) sO_none (sO_some (sE_var (pv 2)))) (sE_tup (sA_cons (sE_op op_addX r2_add (sE_ix ix_seq r2_ix (sE_var (pv 0)) (sE_var (pv 2)) (fun _ _ => rfl)) sE_int) sA_nil))) (sE_op op_mulX r2_mul (sE_tup (sA_cons sE_int sA_nil)) (sE_op op_sub r2_sub (sE_op op_sub r2_sub (sE_call1 call_lenX r1_len (by rfl) b_len PySem.boot_len (sE_var (pv 0))) (sE_var (pv 2))) sE_int))))) sS_nil)))
 (sS_one (sS_ret sE_non)))
abbrev s_all_tuples : Stmt := top 18
def N_all_tuples : List Str := ["width", "length", "some"]
theorem sc_all_tuples : GScope N_all_tuples ["width", "length"] (defScope s_all_tuples) := ⟨rfl, rfl, rfl, by decide +kernel, rfl, by decide +kernel, by decide +kernel⟩
theorem ok_all_tuples {f : Addr} {oc dV kV doc pm cdv ct : Value} {od an : Option Addr} {osl : Array (Option Value)} {f__tuple_after : Addr} {d__tuple_after : FuncData} (lk : K.lookup f = some ⟨oc, od, .func (PySem.W.fnOf "all_tuples" "all_tuples" (defArgs s_all_tuples) (defBody s_all_tuples) (defScope s_all_tuples) dV kV doc pm an cdv ct), osl⟩) (hcd : PySem.W.codeIn K cdv "all_tuples" = true) (c__tuple_after : Cal K mg "_tuple_after" ["some", "width"] f__tuple_after d__tuple_after) (G__tuple_after : FnOk P w K mg base (L2.CX P w) 1 f__tuple_after d__tuple_after ["some", "width"] (spF K Γ [false, false] g__tuple_after)) :
    GFn P w K mg base 2 f (PySem.W.fnOf "all_tuples" "all_tuples" (defArgs s_all_tuples) (defBody s_all_tuples) (defScope s_all_tuples) dV kV doc pm an cdv ct) ["width", "length"] (spGn K Γ [false, false] g_all_tuples) :=
  okGn (N := N_all_tuples) lk hcd sc_all_tuples rfl (by decide) fun A outer s H E pn hr =>
    (gG_cons (gG_plain (W := WF) (sS_set (i := 2) sc_all_tuples.nd rfl (by first | exact Or.inl rfl | exact Or.inr rfl) (sE_op op_mulX r2_mul (sE_tup (sA_cons sE_int sA_nil)) (sE_var (pv 1)))))
 (gG_cons (gG_plain (W := WF) (sS_if (PW.pt (sW_and (sT_cmp op_lt r2_lt (sE_var (pv 0)) sE_int (nomark _)) (sW_and1 (sT_cmp op_gt r2_gt (sE_var (pv 1)) sE_int (nomark _))))) (sS_one (sS_set (i := 2) sc_all_tuples.nd rfl (by first | exact Or.inl rfl | exact Or.inr rfl) sE_non)) sS_nil))
 (gG_cons (gG_while (W := WF) (fun _ => fuelN) owns_gcx (sT_notN (sE_var (pv 2))) (gG_cons (gG_yield (W := WF) (sE_var (pv 2)))
 (gG_cons (gG_plain (W := WF) (sS_set (i := 2) sc_all_tuples.nd rfl (by first | exact Or.inl rfl | exact Or.inr rfl) (sE_callO c__tuple_after G__tuple_after (hr.mono (by decide)) (by rfl) (fun σ => passNo σ) (sR_k (sE_var (pv 2)) (sR_k (sE_var (pv 0)) sR_nil)))))
 gG_nil)))
 gG_nil)))
abbrev s_Table_full : Stmt := inCls (top 22) 10
def N_Table_full : List Str := ["width", "arity"]
theorem sc_Table_full : FnScope N_Table_full ["width", "arity"] (defScope s_Table_full) := ⟨rfl, rfl, rfl, by decide +kernel, rfl, by decide +kernel, by decide +kernel⟩
theorem ok_Table_full {f : Addr} {fd : FuncData} {C_Table f_Table___init__ f_all_tuples f_check_arity f_check_width : Addr} {d_Table___init__ d_all_tuples d_check_arity d_check_width : FuncData} (F : Fun K "full" "Table.full" s_Table_full f fd) (G_Table___init__ : FnOk P w K mg base (L2.CX P w) 4 f_Table___init__ d_Table___init__ ["self", "width", "arity", "rows"] (spF K Γ [true, false, false, false] g_Table___init__)) (k_Table___init__ : Mk K C_Table f_Table___init__) (bd_Table___init__ : Binds K d_Table___init__ ["self", "width", "arity", "rows"] []) (X_Table : ClsX K Γ mg "Table" C_Table) (c_all_tuples : Cal K mg "all_tuples" ["width", "length"] f_all_tuples d_all_tuples) (G_all_tuples : GFn P w K mg base 2 f_all_tuples d_all_tuples ["width", "length"] (spGn K Γ [false, false] g_all_tuples)) (b_list : mg "list" = none) (c_check_arity : Cal K mg "check_arity" ["arity", "greatest"] f_check_arity d_check_arity) (G_check_arity : FnOk P w K mg base (L2.CX P w) 2 f_check_arity d_check_arity ["arity", "greatest"] (spF K Γ [false, false] g_check_arity)) (v_GREATEST_ARITY : ∃ t, mg "GREATEST_ARITY" = some (.int 3 t)) (c_check_width : Cal K mg "check_width" ["width"] f_check_width d_check_width) (G_check_width : FnOk P w K mg base (L2.CX P w) 2 f_check_width d_check_width ["width"] (spF K Γ [false] g_check_width)) :
    FnOk P w K mg base (L2.CX P w) 6 f fd ["width", "arity"] (spF K Γ [false, false] g_Table_full) :=
  okF (N := N_Table_full) F sc_Table_full rfl (by decide) fun cdv A outer s H E hr => by
    have tk : Takes (cxOf (L2.CX P w) P w K mg base N_Table_full "Table.full" (defScope s_Table_full) f cdv A outer s H E) (fun cls d _ H => E cls d H) := takes_of rfl rfl rfl rfl
    exact (sS_cons (sS_expr (sE_callO c_check_width G_check_width (hr.mono (by decide)) (by rfl) (fun σ => passAt tk σ) (sR_k (sE_var (pv 0)) sR_nil)))
 (sS_cons (sS_expr (sE_callO c_check_arity G_check_arity (hr.mono (by decide)) (by rfl) (fun σ => passAt tk σ) (sR_k (sE_var (pv 1)) (sR_k (sE_gint (by rfl) v_GREATEST_ARITY) sR_nil))))
 (sS_one (sS_ret (sE_make X_Table.hc rfl k_Table___init__ G_Table___init__ (hr.mono (by decide)) (by rfl) X_Table.g bd_Table___init__ (fun σ => passAt tk σ) (sR_k (sE_var (pv 0)) (sR_k (sE_var (pv 1)) (sR_k (sE_listG rfl G_all_tuples (hr.mono (by decide)) (hr.mono (by decide)) (by rfl) c_all_tuples.g c_all_tuples.k c_all_tuples.b (by rfl) b_list (sA_cons (sE_var (pv 0)) (sA_cons (sE_var (pv 1)) sA_nil))) sR_nil))))))))
abbrev s__law_static : Stmt := top 37
def N__law_static : List Str := ["nth", "width", "more", "e"]
theorem sc__law_static : FnScope N__law_static ["nth", "width", "more"] (defScope s__law_static) := ⟨rfl, rfl, rfl, by decide +kernel, rfl, by decide +kernel, by decide +kernel⟩
theorem ok__law_static {f : Addr} {fd : FuncData} {C_BadArity C_BadRow C_BadWidth C_Table f_Table_equal f_Table_full f_Table_only : Addr} {d_Table_equal d_Table_full d_Table_only : FuncData} (F : Fun K "_law_static" "_law_static" s__law_static f fd) (h_ext : ExT K Γ errAll) (G_Table_equal : FnOk P w K mg base (L2.CX P w) 6 f_Table_equal d_Table_equal ["width"] (spF K Γ [false] g_Table_equal)) (s_Table_equal : StatM K C_Table "equal" f_Table_equal) (bd_Table_equal : Binds K d_Table_equal ["width"] []) (kp_Table_equal : PySem.W.keepIn K (.ref f_Table_equal) = true) (X_Table : ClsX K Γ mg "Table" C_Table) (G_Table_only : FnOk P w K mg base (L2.CX P w) 6 f_Table_only d_Table_only ["width", "value"] (spF K Γ [false, false] g_Table_only)) (s_Table_only : StatM K C_Table "only" f_Table_only) (bd_Table_only : Binds K d_Table_only ["width", "value"] []) (kp_Table_only : PySem.W.keepIn K (.ref f_Table_only) = true) (G_Table_full : FnOk P w K mg base (L2.CX P w) 6 f_Table_full d_Table_full ["width", "arity"] (spF K Γ [false, false] g_Table_full)) (s_Table_full : StatM K C_Table "full" f_Table_full) (bd_Table_full : Binds K d_Table_full ["width", "arity"] []) (kp_Table_full : PySem.W.keepIn K (.ref f_Table_full) = true) (e_BadRow : ErrX K Γ mg "BadRow" C_BadRow) (fc_BadRow : FldC K C_BadRow "number") (e_BadArity : ErrX K Γ mg "BadArity" C_BadArity) (e_BadWidth : ErrX K Γ mg "BadWidth" C_BadWidth) :
    FnOk P w K mg base (L2.CX P w) 7 f fd ["nth", "width", "more"] (spF K Γ [false, false, false] g__law_static) :=
  okF (N := N__law_static) F sc__law_static rfl (by decide) fun cdv A outer s H E hr => by
    have tk : Takes (cxOf (L2.CX P w) P w K mg base N__law_static "_law_static" (defScope s__law_static) f cdv A outer s H E) (fun cls d _ H => E cls d H) := takes_of rfl rfl rfl rfl
    exact (sS_one (sS_try h_ext rfl rfl sc__law_static.nd tk (fun W0 pn0 xe0 tk0 hp0 => (sS_cons (sS_if (sT_cmp (op_eqX hr.units) r2_eqX (sE_var (pv 0)) sE_int (nomark _)) (sS_one (sS_ret (sE_stat (pe_glob (v := .ref C_Table) (by rfl) X_Table.g rfl) s_Table_full G_Table_full (hr.mono (by decide)) kp_Table_full bd_Table_full (fun σ => passAt tk0 σ) (sR_k (sE_var (pv 1)) (sR_k (sE_var (pv 2)) sR_nil))))) sS_nil)
 (sS_one (sS_ret (sE_if (sT_cmp (op_eqX hr.units) r2_eqX (sE_var (pv 0)) sE_int (nomark _)) (sE_stat (pe_glob (v := .ref C_Table) (by rfl) X_Table.g rfl) s_Table_equal G_Table_equal (hr.mono (by decide)) kp_Table_equal bd_Table_equal (fun σ => passAt tk0 σ) (sR_k (sE_var (pv 1)) sR_nil)) (sE_stat (pe_glob (v := .ref C_Table) (by rfl) X_Table.g rfl) s_Table_only G_Table_only (hr.mono (by decide)) kp_Table_only bd_Table_only (fun σ => passAt tk0 σ) (sR_k (sE_var (pv 1)) (sR_k (sE_var (pv 2)) sR_nil)))))))) (.cons (c := .ref C_BadWidth) (oi := none) ⟨rfl, by decide, .inl e_BadWidth.g⟩ (.inl ⟨rfl, rfl⟩) (fun a oe cls d pn hz hf => (sS_one (sS_ret sE_str))) (.cons (c := .ref C_BadArity) (oi := none) ⟨rfl, by decide, .inl e_BadArity.g⟩ (.inl ⟨rfl, rfl⟩) (fun a oe cls d pn hz hf => (sS_one (sS_ret sE_str))) (.cons (c := .ref C_BadRow) (oi := some 3) ⟨rfl, by decide, .inl e_BadRow.g⟩ (.inr ⟨"e", 3, rfl, rfl, rfl, rfl⟩) (fun a oe cls d pn hz hf => (pss_one (ps_ret (pe_tup (pa_cons pe_str (pa_cons (pe_nearX fc_BadRow hz hf (pv 3)) pa_nil)))))) .nil))) (.s e_BadWidth.hc (.s e_BadArity.hc (.r e_BadRow.hc made_pair .nil)))))
abbrev s__law_statics_right : Stmt := top 42
def N__law_statics_right : List Str := ["width", "arity", "value", "bad", "one", "nth"]
theorem sc__law_statics_right : FnScope N__law_statics_right ["width", "arity"] (defScope s__law_statics_right) := ⟨rfl, rfl, rfl, by decide +kernel, rfl, by decide +kernel, by decide +kernel⟩
theorem ok__law_statics_right {f : Addr} {fd : FuncData} {f__law_all f__law_is f__law_static : Addr} {d__law_all d__law_is d__law_static : FuncData} (F : Fun K "_law_statics_right" "_law_statics_right" s__law_statics_right f fd) (c__law_static : Cal K mg "_law_static" ["nth", "width", "more"] f__law_static d__law_static) (G__law_static : FnOk P w K mg base (L2.CX P w) 7 f__law_static d__law_static ["nth", "width", "more"] (spF K Γ [false, false, false] g__law_static)) (b_range : mg "range" = none) (c__law_is : Cal K mg "_law_is" ["table", "width", "arity", "rows"] f__law_is d__law_is) (G__law_is : FnG P w K mg base (L2.CX P w) 3 f__law_is d__law_is ["table", "width", "arity", "rows"] (spF K Γ [false, false, false, false] g__law_is)) (c__law_all : Cal K mg "_law_all" ["width", "length"] f__law_all d__law_all) (G__law_all : FnOk P w K mg base (L2.CX P w) 1 f__law_all d__law_all ["width", "length"] (spF K Γ [false, false] g__law_all)) :
    FnG P w K mg base (L2.CX P w) 8 f fd ["width", "arity"] (spF K Γ [false, false] g__law_statics_right) :=
  okG (N := N__law_statics_right) F sc__law_statics_right rfl (by decide) fun cdv A outer s H E hg hr => by
    have tk : Takes (cxOf (L2.CX P w) P w K mg base N__law_statics_right "_law_statics_right" (defScope s__law_statics_right) f cdv A outer s H E) (fun cls d _ H => E cls d H) := takes_of rfl rfl rfl rfl
    exact (sS_cons (sS_set (i := 2) sc__law_statics_right.nd rfl (by first | exact Or.inl rfl | exact Or.inr rfl) (sE_op op_sub r2_sub (sE_var (pv 0)) sE_int))
 (sS_cons (sS_if (sT_not (sT_tru (sE_callG c__law_is G__law_is hg (hr.mono (by decide)) (by rfl) (fun σ => passAt tk σ) (sR_k (sE_callO c__law_static G__law_static (hr.mono (by decide)) (by rfl) (fun σ => passAt tk σ) (sR_k sE_int (sR_k (sE_var (pv 0)) (sR_k (sE_var (pv 1)) sR_nil)))) (sR_k (sE_var (pv 0)) (sR_k (sE_var (pv 1)) (sR_k (sE_callO c__law_all G__law_all (hr.mono (by decide)) (by rfl) (fun σ => passAt tk σ) (sR_k (sE_var (pv 0)) (sR_k (sE_var (pv 1)) sR_nil))) sR_nil))))))) (sS_one (sS_ret sE_bl)) sS_nil)
 (sS_cons (sS_if (sT_not (sT_tru (sE_callG c__law_is G__law_is hg (hr.mono (by decide)) (by rfl) (fun σ => passAt tk σ) (sR_k (sE_callO c__law_static G__law_static (hr.mono (by decide)) (by rfl) (fun σ => passAt tk σ) (sR_k sE_int (sR_k (sE_var (pv 0)) (sR_k sE_int sR_nil)))) (sR_k (sE_var (pv 0)) (sR_k sE_int (sR_k (sE_lcV rfl sc__law_statics_right.nd (sI_rng1 (by rfl) b_range (sE_var (pv 0))) (blkOk_by (own := [("one", 4)]) (N := N__law_statics_right) (sc := defScope s__law_statics_right) (by decide +kernel)) off_N (by decide) (fun _ _ _ _ _ => (sG_name (pg_name (i := 4) sc__law_statics_right.nd rfl (by first | exact Or.inl rfl | exact Or.inr rfl)))) (fun _ _ _ _ _ => sTs_nil) (fun _ _ _ _ _ => (sE_tup (sA_cons (sE_var (pv 4)) (sA_cons (sE_var (pv 4)) sA_nil))))) sR_nil))))))) (sS_one (sS_ret sE_bl)) sS_nil)
 (sS_cons (sS_if (sT_not (sT_tru (sE_callG c__law_is G__law_is hg (hr.mono (by decide)) (by rfl) (fun σ => passAt tk σ) (sR_k (sE_callO c__law_static G__law_static (hr.mono (by decide)) (by rfl) (fun σ => passAt tk σ) (sR_k sE_int (sR_k (sE_var (pv 0)) (sR_k (sE_var (pv 2)) sR_nil)))) (sR_k (sE_var (pv 0)) (sR_k sE_int (sR_k (sE_lst (sA_cons (sE_tup (sA_cons (sE_var (pv 2)) sA_nil)) sA_nil)) sR_nil))))))) (sS_one (sS_ret sE_bl)) sS_nil)
 (sS_cons (sS_for (passes_of rfl) rfl (sI_seq (sE_lst (sA_cons sE_int (sA_cons sE_int (sA_cons (sE_un un_neg r1_neg sE_int) (sA_cons sE_bl (sA_cons sE_non (sA_cons sE_str (sA_cons (sE_lst (sA_cons sE_int sA_nil)) (sA_cons (sE_tup (sA_cons sE_int sA_nil)) sA_nil)))))))))) (sG_name (pg_name (i := 3) sc__law_statics_right.nd rfl (by first | exact Or.inl rfl | exact Or.inr rfl))) (sS_cons (sS_if (sT_cmp (op_neX hr.units) r2_neX (sE_lcV rfl sc__law_statics_right.nd (sI_rng1 (by rfl) b_range sE_int) (blkOk_by (own := [("nth", 5)]) (N := N__law_statics_right) (sc := defScope s__law_statics_right) (by decide +kernel)) off_N (by decide) (fun _ _ _ _ _ => (sG_name (pg_name (i := 5) sc__law_statics_right.nd rfl (by first | exact Or.inl rfl | exact Or.inr rfl)))) (fun _ _ _ _ _ => sTs_nil) (fun _ _ _ _ _ => (sE_callO c__law_static G__law_static (hr.mono (by decide)) (by rfl) (fun σ => passNo σ) (sR_k (sE_var (pv 5)) (sR_k (sE_var (pv 3)) (sR_k (sE_var (pv 3)) sR_nil)))))) (sE_op op_mulX r2_mul (sE_lst (sA_cons sE_str sA_nil)) sE_int) (nomark _)) (sS_one (sS_ret sE_bl)) sS_nil)
 (sS_one (sS_if (sT_cmp (op_neX hr.units) r2_neX (sE_callO c__law_static G__law_static (hr.mono (by decide)) (by rfl) (fun σ => passAt tk σ) (sR_k sE_int (sR_k (sE_var (pv 0)) (sR_k (sE_var (pv 3)) sR_nil)))) sE_str (nomark _)) (sS_one (sS_ret sE_bl)) sS_nil))))
 (sS_cons (sS_for (passes_of rfl) rfl (sI_seq (sE_lst (sA_cons (sE_var (pv 0)) (sA_cons (sE_un un_neg r1_neg sE_int) (sA_cons sE_bl (sA_cons sE_non (sA_cons sE_str (sA_cons (sE_tup (sA_cons sE_int sA_nil)) (sA_cons (sE_lst (sA_cons sE_int sA_nil)) (sA_cons sE_bl (sA_cons (sE_op op_pow r2_pow sE_int sE_int) sA_nil))))))))))) (sG_name (pg_name (i := 3) sc__law_statics_right.nd rfl (by first | exact Or.inl rfl | exact Or.inr rfl))) (sS_one (sS_if (sT_cmp (op_neX hr.units) r2_neX (sE_callO c__law_static G__law_static (hr.mono (by decide)) (by rfl) (fun σ => passAt tk σ) (sR_k sE_int (sR_k (sE_var (pv 0)) (sR_k (sE_var (pv 3)) sR_nil)))) (sE_tup (sA_cons sE_str (sA_cons sE_int sA_nil))) (nomark _)) (sS_one (sS_ret sE_bl)) sS_nil)))
 (sS_one (sS_ret sE_bl))))))))
abbrev s__law_asked : Stmt := top 36
def N__law_asked : List Str := ["table", "nth", "value", "more"]
theorem sc__law_asked : FnScope N__law_asked ["table", "nth", "value", "more"] (defScope s__law_asked) := ⟨rfl, rfl, rfl, by decide +kernel, rfl, by decide +kernel, by decide +kernel⟩
theorem ok__law_asked {f : Addr} {fd : FuncData} {C_BadOrder C_BadSpots C_Table f_Table_glued f_Table_renamed f_Table_seen : Addr} {d_Table_glued d_Table_renamed d_Table_seen : FuncData} (F : Fun K "_law_asked" "_law_asked" s__law_asked f fd) (h_ext : ExT K Γ errAll) (G_Table_glued : FnOk P w K mg base (L2.CX P w) 6 f_Table_glued d_Table_glued ["self", "one", "other"] (spF K Γ [false, false, false] g_Table_glued)) (m_Table_glued : Meth K C_Table "glued" f_Table_glued) (bd_Table_glued : Binds K d_Table_glued ["self", "one", "other"] []) (X_Table : ClsX K Γ mg "Table" C_Table) (G_Table_renamed : FnOk P w K mg base (L2.CX P w) 6 f_Table_renamed d_Table_renamed ["self", "order"] (spF K Γ [false, false] g_Table_renamed)) (m_Table_renamed : Meth K C_Table "renamed" f_Table_renamed) (bd_Table_renamed : Binds K d_Table_renamed ["self", "order"] []) (G_Table_seen : FnOk P w K mg base (L2.CX P w) 6 f_Table_seen d_Table_seen ["self", "spots"] (spF K Γ [false, false] g_Table_seen)) (m_Table_seen : Meth K C_Table "seen" f_Table_seen) (bd_Table_seen : Binds K d_Table_seen ["self", "spots"] []) (e_BadOrder : ErrX K Γ mg "BadOrder" C_BadOrder) (e_BadSpots : ErrX K Γ mg "BadSpots" C_BadSpots) :
    FnOk P w K mg base (L2.CX P w) 7 f fd ["table", "nth", "value", "more"] (spF K Γ [false, false, false, false] g__law_asked) :=
  okF (N := N__law_asked) F sc__law_asked rfl (by decide) fun cdv A outer s H E hr => by
    have tk : Takes (cxOf (L2.CX P w) P w K mg base N__law_asked "_law_asked" (defScope s__law_asked) f cdv A outer s H E) (fun cls d _ H => E cls d H) := takes_of rfl rfl rfl rfl
    exact (sS_one (sS_try h_ext rfl rfl sc__law_asked.nd tk (fun W0 pn0 xe0 tk0 hp0 => (sS_cons (sS_if (sT_cmp (op_eqX hr.units) r2_eqX (sE_var (pv 1)) sE_int (nomark _)) (sS_one (sS_ret (sE_meth X_Table.hc (sE_var (pv 0)) X_Table.cls m_Table_seen G_Table_seen (hr.mono (by decide)) bd_Table_seen (fun σ => passAt tk0 σ) (sR_k (sE_var (pv 2)) sR_nil)))) sS_nil)
 (sS_one (sS_ret (sE_if (sT_cmp (op_eqX hr.units) r2_eqX (sE_var (pv 1)) sE_int (nomark _)) (sE_meth X_Table.hc (sE_var (pv 0)) X_Table.cls m_Table_glued G_Table_glued (hr.mono (by decide)) bd_Table_glued (fun σ => passAt tk0 σ) (sR_k (sE_var (pv 2)) (sR_k (sE_var (pv 3)) sR_nil))) (sE_meth X_Table.hc (sE_var (pv 0)) X_Table.cls m_Table_renamed G_Table_renamed (hr.mono (by decide)) bd_Table_renamed (fun σ => passAt tk0 σ) (sR_k (sE_var (pv 2)) sR_nil))))))) (.cons (c := .ref C_BadSpots) (oi := none) ⟨rfl, by decide, .inl e_BadSpots.g⟩ (.inl ⟨rfl, rfl⟩) (fun a oe cls d pn hz hf => (sS_one (sS_ret sE_str))) (.cons (c := .ref C_BadOrder) (oi := none) ⟨rfl, by decide, .inl e_BadOrder.g⟩ (.inl ⟨rfl, rfl⟩) (fun a oe cls d pn hz hf => (sS_one (sS_ret sE_str))) .nil)) (.s e_BadSpots.hc (.s e_BadOrder.hc .nil))))
abbrev s_Table___eq__ : Stmt := inCls (top 22) 4
def N_Table___eq__ : List Str := ["self", "other"]
theorem sc_Table___eq__ : FnScope N_Table___eq__ ["self", "other"] (defScope s_Table___eq__) := ⟨rfl, rfl, rfl, by decide +kernel, rfl, by decide +kernel, by decide +kernel⟩
theorem ok_Table___eq__ {f : Addr} {fd : FuncData} {C_Table : Addr} (F : Fun K "__eq__" "Table.__eq__" s_Table___eq__ f fd) (fl__rows : FldOk K Γ "_rows" clsAll) (fl_arity : FldOk K Γ "arity" clsAll) (fl_width : FldOk K Γ "width" clsAll) (b_isinstance : mg "isinstance" = none) (is_Table : IsOk K Γ (.ref C_Table) (ansC "Table")) (X_Table : ClsX K Γ mg "Table" C_Table) :
    FnOk P w K mg base (L2.CX P w) 1 f fd ["self", "other"] (spF K Γ [false, false] g_Table___eq__) :=
  okF (N := N_Table___eq__) F sc_Table___eq__ rfl (by decide) fun cdv A outer s H E hr => by
    have tk : Takes (cxOf (L2.CX P w) P w K mg base N_Table___eq__ "Table.__eq__" (defScope s_Table___eq__) f cdv A outer s H E) (fun cls d _ H => E cls d H) := takes_of rfl rfl rfl rfl
    exact (sS_one (sS_ret (sE_and (sE_isC (by rfl) b_isinstance (by rfl) X_Table.g is_Table (sE_var (pv 1))) (sE_and (sE_cmp (op_eqX hr.units) r2_eqX (sE_fld fl_width (sE_var (pv 0))) (sE_fld fl_width (sE_var (pv 1))) (nomark _)) (sE_and (sE_cmp (op_eqX hr.units) r2_eqX (sE_fld fl_arity (sE_var (pv 0))) (sE_fld fl_arity (sE_var (pv 1))) (nomark _)) (pe_one (sE_cmp (op_eqX hr.units) r2_eqX (sE_fld fl__rows (sE_var (pv 0))) (sE_fld fl__rows (sE_var (pv 1))) (nomark _))))))))
abbrev s__law_odd_orders : Stmt := top 41
def N__law_odd_orders : List Str := ["width", "order", "found", "value"]
theorem sc__law_odd_orders : FnScope N__law_odd_orders ["width", "order"] (defScope s__law_odd_orders) := ⟨rfl, rfl, rfl, by decide +kernel, rfl, by decide +kernel, by decide +kernel⟩
theorem ok__law_odd_orders {f : Addr} {fd : FuncData} (F : Fun K "_law_odd_orders" "_law_odd_orders" s__law_odd_orders f fd) (b_list : mg "list" = none) (b_range : mg "range" = none) :
    FnOk P w K mg base (L2.CX P w) 1 f fd ["width", "order"] (spF K Γ [false, false] g__law_odd_orders) :=
  okF (N := N__law_odd_orders) F sc__law_odd_orders rfl (by decide) fun cdv A outer s H E hr => by
    have tk : Takes (cxOf (L2.CX P w) P w K mg base N__law_odd_orders "_law_odd_orders" (defScope s__law_odd_orders) f cdv A outer s H E) (fun cls d _ H => E cls d H) := takes_of rfl rfl rfl rfl
    exact (sS_cons (sS_if (sT_cmp (op_eqX hr.units) r2_eqX (sE_var (pv 0)) sE_int (nomark _)) (sS_one (sS_ret (sE_lst (sA_cons (sE_lst (sA_cons sE_bl sA_nil)) sA_nil)))) sS_nil)
 (sS_cons (sS_set (i := 2) sc__law_odd_orders.nd rfl (by first | exact Or.inl rfl | exact Or.inr rfl) (sE_lst (sA_cons (sE_op op_mulX r2_mul (sE_lst (sA_cons sE_int sA_nil)) (sE_var (pv 0))) (sA_cons (sE_op op_addX r2_add (sE_callT1 call_list_of r1_list (by rfl) b_list boot_list (sE_sl (sE_var (pv 1)) sO_none (sO_some (sE_un un_neg r1_neg sE_int)))) (sE_lst (sA_cons (sE_ix ix_seq r2_ix (sE_var (pv 1)) sE_int (fun _ _ => rfl)) sA_nil))) (sA_cons (sE_op op_addX r2_add (sE_lcV rfl sc__law_odd_orders.nd (sI_rng1 (by rfl) b_range sE_int) (blkOk_by (own := [("value", 3)]) (N := N__law_odd_orders) (sc := defScope s__law_odd_orders) (by decide +kernel)) off_N (by decide) (fun _ _ _ _ _ => (sG_name (pg_name (i := 3) sc__law_odd_orders.nd rfl (by first | exact Or.inl rfl | exact Or.inr rfl)))) (fun _ _ _ _ _ => sTs_nil) (fun _ _ _ _ _ => (sE_cmp (op_eqX hr.units) r2_eqX (sE_var (pv 3)) sE_int (nomark _)))) (sE_listRg2 rfl (by rfl) b_list (by rfl) b_range sE_int (sE_var (pv 0)))) sA_nil)))))
 (sS_one (sS_ret (sE_op op_addX r2_add (sE_var (pv 2)) (sE_lst (sA_cons (sE_op op_addX r2_add (sE_lst (sA_cons sE_int (sA_cons sE_bl sA_nil))) (sE_listRg2 rfl (by rfl) b_list (by rfl) b_range sE_int (sE_var (pv 0)))) sA_nil)))))))
abbrev s__law_one_right : Stmt := top 40
def N__law_one_right : List Str := ["feed", "table", "width", "arity", "rows", "spots", "seen", "odd", "bad", "one", "other", "order", "due", "handed", "turn", "row", "at", "value"]
theorem sc__law_one_right : FnScope N__law_one_right ["feed", "table", "width", "arity", "rows"] (defScope s__law_one_right) := ⟨rfl, rfl, rfl, by decide +kernel, rfl, by decide +kernel, by decide +kernel⟩
theorem ok__law_one_right {f : Addr} {fd : FuncData} {C_Table f_Table___eq__ f__law_all f__law_asked f__law_is f__law_odd_orders f__law_pick f__law_take : Addr} {d_Table___eq__ d__law_all d__law_asked d__law_is d__law_odd_orders d__law_pick d__law_take : FuncData} (F : Fun K "_law_one_right" "_law_one_right" s__law_one_right f fd) (c__law_asked : Cal K mg "_law_asked" ["table", "nth", "value", "more"] f__law_asked d__law_asked) (G__law_asked : FnOk P w K mg base (L2.CX P w) 7 f__law_asked d__law_asked ["table", "nth", "value", "more"] (spF K Γ [false, false, false, false] g__law_asked)) (G_Table___eq__ : FnOk P w K mg base (L2.CX P w) 1 f_Table___eq__ d_Table___eq__ ["self", "other"] (spF K Γ [false, false] g_Table___eq__)) (h_Table___eq__ : Has K C_Table "__eq__" f_Table___eq__ d_Table___eq__ ["self", "other"]) (n_Table___eq__ : NfOk K Γ C_Table okAll) (ne_Table : PySem.W.findIn K (.ref C_Table) "__ne__" = some (some (.builtin "object.__ne__"))) (ob_Table : PySem.W.subIn K (.ref C_Table) (.type "object") = some true) (X_Table : ClsX K Γ mg "Table" C_Table) (c__law_odd_orders : Cal K mg "_law_odd_orders" ["width", "order"] f__law_odd_orders d__law_odd_orders) (G__law_odd_orders : FnOk P w K mg base (L2.CX P w) 1 f__law_odd_orders d__law_odd_orders ["width", "order"] (spF K Γ [false, false] g__law_odd_orders)) (b_list : mg "list" = none) (c__law_is : Cal K mg "_law_is" ["table", "width", "arity", "rows"] f__law_is d__law_is) (G__law_is : FnG P w K mg base (L2.CX P w) 3 f__law_is d__law_is ["table", "width", "arity", "rows"] (spF K Γ [false, false, false, false] g__law_is)) (b_tuple : mg "tuple" = none) (c__law_pick : Cal K mg "_law_pick" ["feed", "some"] f__law_pick d__law_pick) (G__law_pick : FnOk P w K mg base (L2.CX P w) 2 f__law_pick d__law_pick ["feed", "some"] (spF K Γ [true, false] g__law_pick)) (c__law_all : Cal K mg "_law_all" ["width", "length"] f__law_all d__law_all) (G__law_all : FnOk P w K mg base (L2.CX P w) 1 f__law_all d__law_all ["width", "length"] (spF K Γ [false, false] g__law_all)) (b_len : mg "len" = none) (b_set : mg "set" = none) (c__law_take : Cal K mg "_law_take" ["feed", "many"] f__law_take d__law_take) (G__law_take : FnOk P w K mg base (L2.CX P w) 1 f__law_take d__law_take ["feed", "many"] (spF K Γ [true, false] g__law_take)) (b_range : mg "range" = none) :
    FnG P w K mg base (L2.CX P w) 8 f fd ["feed", "table", "width", "arity", "rows"] (spF K Γ [true, false, false, false, false] g__law_one_right) :=
  okG (N := N__law_one_right) F sc__law_one_right rfl (by decide) fun cdv A outer s H E hg hr => by
    have tk : Takes (cxOf (L2.CX P w) P w K mg base N__law_one_right "_law_one_right" (defScope s__law_one_right) f cdv A outer s H E) (fun cls d _ H => E cls d H) := takes_of rfl rfl rfl rfl
    exact (sS_cons (sS_set (i := 5) sc__law_one_right.nd rfl (by first | exact Or.inl rfl | exact Or.inr rfl) (sE_callT1 call_tuple_of r1_tuple (by rfl) b_tuple boot_tuple (sE_lcV rfl sc__law_one_right.nd (sI_rng1 (by rfl) b_range (sE_op op_addX r2_add sE_int (sE_callO c__law_take G__law_take (hr.mono (by decide)) (by rfl) (fun σ => passAt tk σ) (sR_p (sE_var (pv 0)) (sR_k sE_int sR_nil))))) (blkOk_by (own := [("turn", 14)]) (N := N__law_one_right) (sc := defScope s__law_one_right) (by decide +kernel)) off_N (by decide) (fun _ _ _ _ _ => (sG_name (pg_name (i := 14) sc__law_one_right.nd rfl (by first | exact Or.inl rfl | exact Or.inr rfl)))) (fun _ _ _ _ _ => sTs_nil) (fun _ _ _ _ _ => (sE_callO c__law_take G__law_take (hr.mono (by decide)) (by rfl) (fun σ => passNo σ) (sR_p (sE_var (pv 0)) (sR_k (sE_var (pv 3)) sR_nil)))))))
 (sS_cons (sS_setLcIV (i := 6) rfl sc__law_one_right.nd rfl rfl rfl (sI_seq (sE_var (pv 4))) (blkOk_by (own := [("row", 15)]) (N := N__law_one_right) (sc := defScope s__law_one_right) (by decide +kernel)) off_N (by decide) (fun _ _ _ _ _ => (sG_name (pg_name (i := 15) sc__law_one_right.nd rfl (by first | exact Or.inl rfl | exact Or.inr rfl)))) (fun _ _ _ _ _ => sTs_nil) (fun _ _ _ _ _ => (sE_callT1 call_tuple_of r1_tuple (by rfl) b_tuple boot_tuple (sE_lcV rfl sc__law_one_right.nd (sI_seq (sE_var (pv 5))) (by show BlkOk N__law_one_right ⟨.function, [(".0", .local), ("row", .cell), ("tuple", .globalImplicit), ("spots", .cell)], false, false, []⟩ _ _; exact blkOk_by (own := [("at", 16)]) (by decide +kernel)) off_N (by decide) (fun _ _ _ _ _ => (sG_name (pg_name (i := 16) sc__law_one_right.nd rfl (by first | exact Or.inl rfl | exact Or.inr rfl)))) (fun _ _ _ _ _ => sTs_nil) (fun _ _ _ _ _ => (sE_ix ix_seq r2_ix (sE_var (pv 15)) (sE_var (pv 16)) (fun _ _ => rfl)))))))
 (sS_cons (sS_if (sT_not (sT_tru (sE_callG c__law_is G__law_is hg (hr.mono (by decide)) (by rfl) (fun σ => passAt tk σ) (sR_k (sE_callO c__law_asked G__law_asked (hr.mono (by decide)) (by rfl) (fun σ => passAt tk σ) (sR_k (sE_var (pv 1)) (sR_k sE_int (sR_k (sE_var (pv 5)) (sR_k sE_int sR_nil))))) (sR_k (sE_var (pv 2)) (sR_k (sE_call1 call_lenX r1_len (by rfl) b_len PySem.boot_len (sE_var (pv 5))) (sR_k (sE_var (pv 6)) sR_nil))))))) (sS_one (sS_ret sE_bl)) sS_nil)
 (sS_cons (sS_set (i := 7) sc__law_one_right.nd rfl (by first | exact Or.inl rfl | exact Or.inr rfl) (sE_lst (sA_cons (sE_tup sA_nil) (sA_cons (sE_tup (sA_cons sE_int (sA_cons sE_int (sA_cons sE_int (sA_cons sE_int sA_nil))))) (sA_cons (sE_tup (sA_cons (sE_var (pv 3)) sA_nil)) (sA_cons (sE_tup (sA_cons sE_int (sA_cons (sE_un un_neg r1_neg sE_int) sA_nil))) (sA_cons (sE_lst (sA_cons sE_int sA_nil)) (sA_cons sE_non (sA_cons sE_int (sA_cons (sE_tup (sA_cons sE_bl sA_nil)) (sA_cons (sE_tup (sA_cons sE_str sA_nil)) (sA_cons (sE_tup (sA_cons sE_int (sA_cons sE_non sA_nil))) (sA_cons (sE_tup (sA_cons (sE_tup (sA_cons sE_int sA_nil)) sA_nil)) (sA_cons (sE_tup (sA_cons sE_bl sA_nil)) sA_nil))))))))))))))
 (sS_cons (sS_for (passes_of rfl) rfl (sI_seq (sE_op op_addX r2_add (sE_var (pv 7)) (sE_lst (sA_cons (sE_tup (sA_cons (sE_un un_neg r1_neg sE_int) (sA_cons sE_int sA_nil))) (sA_cons (sE_tup (sA_cons (sE_var (pv 3)) (sA_cons sE_int sA_nil))) (sA_cons (sE_tup (sA_cons sE_non (sA_cons sE_int sA_nil))) (sA_cons (sE_tup (sA_cons sE_bl (sA_cons sE_int sA_nil))) (sA_cons (sE_tup (sA_cons sE_int (sA_cons (sE_un un_neg r1_neg sE_int) (sA_cons sE_int sA_nil)))) (sA_cons (sE_tup (sA_cons sE_int (sA_cons sE_bl sA_nil))) (sA_cons (sE_tup (sA_cons sE_str (sA_cons sE_int (sA_cons sE_int sA_nil)))) sA_nil)))))))))) (sG_name (pg_name (i := 8) sc__law_one_right.nd rfl (by first | exact Or.inl rfl | exact Or.inr rfl))) (sS_one (sS_if (sT_cmp ((op_neX hr.units).or (op_neW G_Table___eq__ (hr.mono (by decide)) h_Table___eq__ ne_Table ob_Table)) (r2_alt r2_neX (r2_eqO (neg := true) X_Table.hc n_Table___eq__)) (sE_callO c__law_asked G__law_asked (hr.mono (by decide)) (by rfl) (fun σ => passAt tk σ) (sR_k (sE_var (pv 1)) (sR_k sE_int (sR_k (sE_var (pv 8)) (sR_k sE_int sR_nil))))) sE_str (nomark _)) (sS_one (sS_ret sE_bl)) sS_nil)))
 (sS_cons (sS_asg (sE_tup (sA_cons (sE_callO c__law_take G__law_take (hr.mono (by decide)) (by rfl) (fun σ => passAt tk σ) (sR_p (sE_var (pv 0)) (sR_k (sE_var (pv 3)) sR_nil))) (sA_cons (sE_callO c__law_take G__law_take (hr.mono (by decide)) (by rfl) (fun σ => passAt tk σ) (sR_p (sE_var (pv 0)) (sR_k (sE_var (pv 3)) sR_nil))) sA_nil))) (sG_tup rfl (sGs_cons (sG_name (pg_name (i := 9) sc__law_one_right.nd rfl (by first | exact Or.inl rfl | exact Or.inr rfl))) (sGs_cons (sG_name (pg_name (i := 10) sc__law_one_right.nd rfl (by first | exact Or.inl rfl | exact Or.inr rfl))) sGs_nil)) (lenS (lenS len0))))
 (sS_cons (sS_if (sT_not (sT_tru (sE_callG c__law_is G__law_is hg (hr.mono (by decide)) (by rfl) (fun σ => passAt tk σ) (sR_k (sE_callO c__law_asked G__law_asked (hr.mono (by decide)) (by rfl) (fun σ => passAt tk σ) (sR_k (sE_var (pv 1)) (sR_k sE_int (sR_k (sE_var (pv 9)) (sR_k (sE_var (pv 10)) sR_nil))))) (sR_k (sE_var (pv 2)) (sR_k (sE_var (pv 3)) (sR_k (sE_lcV rfl sc__law_one_right.nd (sI_seq (sE_var (pv 4))) (blkOk_by (own := [("row", 15)]) (N := N__law_one_right) (sc := defScope s__law_one_right) (by decide +kernel)) off_N (by decide) (fun _ _ _ _ _ => (sG_name (pg_name (i := 15) sc__law_one_right.nd rfl (by first | exact Or.inl rfl | exact Or.inr rfl)))) (fun _ _ _ _ _ => (sTs_one (sT_cmp (op_eqX hr.units) r2_eqX (sE_ix ix_seq r2_ix (sE_var (pv 15)) (sE_var (pv 9)) (fun _ _ => rfl)) (sE_ix ix_seq r2_ix (sE_var (pv 15)) (sE_var (pv 10)) (fun _ _ => rfl)) (nomark _)))) (fun _ _ _ _ _ => (sE_var (pv 15)))) sR_nil))))))) (sS_one (sS_ret sE_bl)) sS_nil)
 (sS_cons (sS_for (passes_of rfl) rfl (sI_seq (sE_lst (sA_cons (sE_var (pv 3)) (sA_cons (sE_un un_neg r1_neg sE_int) (sA_cons sE_bl (sA_cons sE_non (sA_cons sE_str (sA_cons (sE_tup (sA_cons sE_int sA_nil)) (sA_cons (sE_lst (sA_cons sE_int sA_nil)) (sA_cons sE_bl (sA_cons (sE_op op_pow r2_pow sE_int sE_int) sA_nil))))))))))) (sG_name (pg_name (i := 8) sc__law_one_right.nd rfl (by first | exact Or.inl rfl | exact Or.inr rfl))) (sS_one (sS_if (PW.pt (sW_or (sT_cmp ((op_neX hr.units).or (op_neW G_Table___eq__ (hr.mono (by decide)) h_Table___eq__ ne_Table ob_Table)) (r2_alt r2_neX (r2_eqO (neg := true) X_Table.hc n_Table___eq__)) (sE_callO c__law_asked G__law_asked (hr.mono (by decide)) (by rfl) (fun σ => passAt tk σ) (sR_k (sE_var (pv 1)) (sR_k sE_int (sR_k (sE_var (pv 8)) (sR_k (sE_var (pv 9)) sR_nil))))) sE_str (nomark _)) (sW_or1 (sT_cmp ((op_neX hr.units).or (op_neW G_Table___eq__ (hr.mono (by decide)) h_Table___eq__ ne_Table ob_Table)) (r2_alt r2_neX (r2_eqO (neg := true) X_Table.hc n_Table___eq__)) (sE_callO c__law_asked G__law_asked (hr.mono (by decide)) (by rfl) (fun σ => passAt tk σ) (sR_k (sE_var (pv 1)) (sR_k sE_int (sR_k (sE_var (pv 9)) (sR_k (sE_var (pv 8)) sR_nil))))) sE_str (nomark _))))) (sS_one (sS_ret sE_bl)) sS_nil)))
 (sS_cons (sS_set (i := 11) sc__law_one_right.nd rfl (by first | exact Or.inl rfl | exact Or.inr rfl) (sE_callO c__law_pick G__law_pick (hr.mono (by decide)) (by rfl) (fun σ => passAt tk σ) (sR_p (sE_var (pv 0)) (sR_k (sE_lcV rfl sc__law_one_right.nd (sI_seq (sE_callO c__law_all G__law_all (hr.mono (by decide)) (by rfl) (fun σ => passAt tk σ) (sR_k (sE_var (pv 2)) (sR_k (sE_var (pv 2)) sR_nil)))) (blkOk_by (own := [("row", 15)]) (N := N__law_one_right) (sc := defScope s__law_one_right) (by decide +kernel)) off_N (by decide) (fun _ _ _ _ _ => (sG_name (pg_name (i := 15) sc__law_one_right.nd rfl (by first | exact Or.inl rfl | exact Or.inr rfl)))) (fun _ _ _ _ _ => (sTs_one (sT_cmp (op_eqX hr.units) r2_eqX (sE_lenSet rfl (by rfl) b_len (by rfl) b_set (sE_var (pv 15))) (sE_var (pv 2)) (nomark _)))) (fun _ _ _ _ _ => (sE_var (pv 15)))) sR_nil))))
 (sS_cons (sS_setLcIV (i := 12) rfl sc__law_one_right.nd rfl rfl rfl (sI_seq (sE_var (pv 4))) (blkOk_by (own := [("row", 15)]) (N := N__law_one_right) (sc := defScope s__law_one_right) (by decide +kernel)) off_N (by decide) (fun _ _ _ _ _ => (sG_name (pg_name (i := 15) sc__law_one_right.nd rfl (by first | exact Or.inl rfl | exact Or.inr rfl)))) (fun _ _ _ _ _ => sTs_nil) (fun _ _ _ _ _ => (sE_callT1 call_tuple_of r1_tuple (by rfl) b_tuple boot_tuple (sE_lcV rfl sc__law_one_right.nd (sI_seq (sE_var (pv 15))) (by show BlkOk N__law_one_right ⟨.function, [(".0", .local), ("row", .local), ("tuple", .globalImplicit), ("order", .cell)], false, false, []⟩ _ _; exact blkOk_by (own := [("value", 17)]) (by decide +kernel)) off_N (by decide) (fun _ _ _ _ _ => (sG_name (pg_name (i := 17) sc__law_one_right.nd rfl (by first | exact Or.inl rfl | exact Or.inr rfl)))) (fun _ _ _ _ _ => sTs_nil) (fun _ _ _ _ _ => (sE_ix ix_seq r2_ix (sE_var (pv 11)) (sE_var (pv 17)) (fun _ _ => rfl)))))))
 (sS_cons (sS_set (i := 13) sc__law_one_right.nd rfl (by first | exact Or.inl rfl | exact Or.inr rfl) (sE_callT1 call_list_of r1_list (by rfl) b_list boot_list (sE_var (pv 11))))
 (sS_cons (sS_if (PW.pt (sW_or (sT_not (sT_tru (sE_callG c__law_is G__law_is hg (hr.mono (by decide)) (by rfl) (fun σ => passAt tk σ) (sR_k (sE_callO c__law_asked G__law_asked (hr.mono (by decide)) (by rfl) (fun σ => passAt tk σ) (sR_k (sE_var (pv 1)) (sR_k sE_int (sR_k (sE_var (pv 13)) (sR_k sE_int sR_nil))))) (sR_k (sE_var (pv 2)) (sR_k (sE_var (pv 3)) (sR_k (sE_var (pv 12)) sR_nil))))))) (sW_or1 (sT_cmp (op_neX hr.units) r2_neX (sE_var (pv 13)) (sE_callT1 call_list_of r1_list (by rfl) b_list boot_list (sE_var (pv 11))) (nomark _))))) (sS_one (sS_ret sE_bl)) sS_nil)
 (sS_cons (sS_set (i := 7) sc__law_one_right.nd rfl (by first | exact Or.inl rfl | exact Or.inr rfl) (sE_lst (sA_cons (sE_lst sA_nil) (sA_cons (sE_op op_addX r2_add (sE_callT1 call_list_of r1_list (by rfl) b_list boot_list (sE_var (pv 11))) (sE_lst (sA_cons sE_int sA_nil))) (sA_cons (sE_var (pv 11)) (sA_cons sE_non (sA_cons sE_int (sA_cons (sE_sl (sE_callT1 call_list_of r1_list (by rfl) b_list boot_list (sE_var (pv 11))) sO_none (sO_some (sE_un un_neg r1_neg sE_int))) sA_nil))))))))
 (sS_cons (sS_set (i := 7) sc__law_one_right.nd rfl (by first | exact Or.inl rfl | exact Or.inr rfl) (sE_op op_addX r2_add (sE_var (pv 7)) (sE_lst (sA_cons (sE_op op_addX r2_add (sE_callT1 call_list_of r1_list (by rfl) b_list boot_list (sE_sl (sE_var (pv 11)) sO_none (sO_some (sE_un un_neg r1_neg sE_int)))) (sE_lst (sA_cons (sE_var (pv 2)) sA_nil))) (sA_cons (sE_op op_mulX r2_mul (sE_lst (sA_cons (sE_cmp (op_eqX hr.units) r2_eqX (sE_ix ix_seq r2_ix (sE_var (pv 11)) sE_int (fun _ _ => rfl)) sE_int (nomark _)) sA_nil)) (sE_var (pv 2))) sA_nil)))))
 (sS_cons (sS_set (i := 7) sc__law_one_right.nd rfl (by first | exact Or.inl rfl | exact Or.inr rfl) (sE_op op_addX r2_add (sE_var (pv 7)) (sE_lst (sA_cons (sE_op op_addX r2_add (sE_callT1 call_list_of r1_list (by rfl) b_list boot_list (sE_sl (sE_var (pv 11)) sO_none (sO_some (sE_un un_neg r1_neg sE_int)))) (sE_lst (sA_cons sE_non sA_nil))) (sA_cons (sE_op op_mulX r2_mul sE_str (sE_var (pv 2))) (sA_cons (sE_op op_addX r2_add (sE_callT1 call_list_of r1_list (by rfl) b_list boot_list (sE_sl (sE_var (pv 11)) sO_none (sO_some (sE_un un_neg r1_neg sE_int)))) (sE_lst (sA_cons (sE_lst (sA_cons sE_int sA_nil)) sA_nil))) (sA_cons (sE_op op_mulX r2_mul (sE_lst (sA_cons (sE_un un_neg r1_neg sE_int) sA_nil)) (sE_var (pv 2))) (sA_cons (sE_op op_mulX r2_mul (sE_lst (sA_cons sE_str sA_nil)) (sE_var (pv 2))) sA_nil))))))))
 (sS_cons (sS_set (i := 7) sc__law_one_right.nd rfl (by first | exact Or.inl rfl | exact Or.inr rfl) (sE_op op_addX r2_add (sE_var (pv 7)) (sE_callO c__law_odd_orders G__law_odd_orders (hr.mono (by decide)) (by rfl) (fun σ => passAt tk σ) (sR_k (sE_var (pv 2)) (sR_k (sE_var (pv 11)) sR_nil)))))
 (sS_one (sS_ret (sE_cmp (op_eqX hr.units) r2_eqX (sE_lcV rfl sc__law_one_right.nd (sI_seq (sE_var (pv 7))) (blkOk_by (own := [("bad", 8)]) (N := N__law_one_right) (sc := defScope s__law_one_right) (by decide +kernel)) off_N (by decide) (fun _ _ _ _ _ => (sG_name (pg_name (i := 8) sc__law_one_right.nd rfl (by first | exact Or.inl rfl | exact Or.inr rfl)))) (fun _ _ _ _ _ => (sTs_one (sT_cmp ((op_neX hr.units).or (op_neW G_Table___eq__ (hr.mono (by decide)) h_Table___eq__ ne_Table ob_Table)) (r2_alt r2_neX (r2_eqO (neg := true) X_Table.hc n_Table___eq__)) (sE_callO c__law_asked G__law_asked (hr.mono (by decide)) (by rfl) (fun σ => passNo σ) (sR_k (sE_var (pv 1)) (sR_k sE_int (sR_k (sE_var (pv 8)) (sR_k sE_int sR_nil))))) sE_str (nomark _)))) (fun _ _ _ _ _ => (sE_var (pv 8)))) (sE_lst sA_nil) (nomark _))))))))))))))))))))
abbrev s_Table___mul__ : Stmt := inCls (top 22) 6
def N_Table___mul__ : List Str := ["self", "other", "one", "two"]
theorem sc_Table___mul__ : FnScope N_Table___mul__ ["self", "other"] (defScope s_Table___mul__) := ⟨rfl, rfl, rfl, by decide +kernel, rfl, by decide +kernel, by decide +kernel⟩
theorem ok_Table___mul__ {f : Addr} {fd : FuncData} {C_Table C_Unlike f_Table___init__ f_Table_rows pr_Table_rows : Addr} {d_Table___init__ d_Table_rows : FuncData} (F : Fun K "__mul__" "Table.__mul__" s_Table___mul__ f fd) (G_Table___init__ : FnOk P w K mg base (L2.CX P w) 4 f_Table___init__ d_Table___init__ ["self", "width", "arity", "rows"] (spF K Γ [true, false, false, false] g_Table___init__)) (k_Table___init__ : Mk K C_Table f_Table___init__) (bd_Table___init__ : Binds K d_Table___init__ ["self", "width", "arity", "rows"] []) (X_Table : ClsX K Γ mg "Table" C_Table) (fl__rows : FldOk K Γ "_rows" clsAll) (G_Table_rows : FnOk P w K mg base (L2.CX P w) 1 f_Table_rows d_Table_rows ["self"] (spF K Γ [false] g_Table_rows)) (p_Table_rows : PropOf K C_Table "rows" pr_Table_rows f_Table_rows) (bd_Table_rows : Binds K d_Table_rows ["self"] []) (fl_arity : FldOk K Γ "arity" clsAll) (fl_width : FldOk K Γ "width" clsAll) (v_GREATEST_ARITY : ∃ t, mg "GREATEST_ARITY" = some (.int 3 t)) (b_isinstance : mg "isinstance" = none) (is_Table : IsOk K Γ (.ref C_Table) (ansC "Table")) (e_Unlike : ErrX K Γ mg "Unlike" C_Unlike) (q_Unlike : PySem.W.excIn K C_Unlike [.type "ValueError", .type "Exception", .type "BaseException", .type "object"] "ValueError.__new__" = true) :
    FnOk P w K mg base (L2.CX P w) 6 f fd ["self", "other"] (spF K Γ [false, false] g_Table___mul__) :=
  okF (N := N_Table___mul__) F sc_Table___mul__ rfl (by decide) fun cdv A outer s H E hr => by
    have tk : Takes (cxOf (L2.CX P w) P w K mg base N_Table___mul__ "Table.__mul__" (defScope s_Table___mul__) f cdv A outer s H E) (fun cls d _ H => E cls d H) := takes_of rfl rfl rfl rfl
    exact (sS_cons (sS_if (PW.pt (sW_or (sT_not (sT_tru (sE_isC (by rfl) b_isinstance (by rfl) X_Table.g is_Table (sE_var (pv 1))))) (sW_or (sT_cmp (op_neX hr.units) r2_neX (sE_fld fl_width (sE_var (pv 1))) (sE_fld fl_width (sE_var (pv 0))) (nomark _)) (sW_or1 (sT_cmp op_gt r2_gt (sE_op op_addX r2_add (sE_fld fl_arity (sE_var (pv 0))) (sE_fld fl_arity (sE_var (pv 1)))) (sE_gint (by rfl) v_GREATEST_ARITY) (nomark _)))))) (sS_one (sS_raise0 rfl tk e_Unlike.hc (pmk_exc0 q_Unlike e_Unlike.g e_Unlike.k (raises_own e_Unlike.ex e_Unlike.ty)))) sS_nil)
 (sS_one (sS_ret (sE_make X_Table.hc rfl k_Table___init__ G_Table___init__ (hr.mono (by decide)) (by rfl) X_Table.g bd_Table___init__ (fun σ => passAt tk σ) (sR_k (sE_fld fl_width (sE_var (pv 0))) (sR_k (sE_op op_addX r2_add (sE_fld fl_arity (sE_var (pv 0))) (sE_fld fl_arity (sE_var (pv 1)))) (sR_k (sE_lc2V (vs1 := [3]) rfl sc_Table___mul__.nd (sI_seq (sE_fld fl__rows (sE_var (pv 0)))) (blkOk_by (own := [("one", 2), ("two", 3)]) (N := N_Table___mul__) (sc := defScope s_Table___mul__) (by decide +kernel)) (by decide) off_N (by decide) off_N (by decide) (fun _ _ _ _ _ => (sG_name (pg_name (i := 2) sc_Table___mul__.nd rfl (by first | exact Or.inl rfl | exact Or.inr rfl)))) (fun _ _ _ _ _ => sTs_nil) (fun _ _ _ _ _ => (sI_seq (sE_prop X_Table.hc (sE_var (pv 1)) X_Table.cls p_Table_rows G_Table_rows (hr.mono (by decide)) bd_Table_rows))) (fun _ _ _ _ _ => (sG_name (pg_name (i := 3) sc_Table___mul__.nd rfl (by first | exact Or.inl rfl | exact Or.inr rfl)))) (fun _ _ _ _ _ => sTs_nil) (fun _ _ _ _ _ => (sE_op op_addX r2_add (sE_var (pv 2)) (sE_var (pv 3))))) sR_nil)))))))
abbrev s__law_behind : Stmt := top 35
def N__law_behind : List Str := ["one", "other"]
theorem sc__law_behind : FnScope N__law_behind ["one", "other"] (defScope s__law_behind) := ⟨rfl, rfl, rfl, by decide +kernel, rfl, by decide +kernel, by decide +kernel⟩
theorem ok__law_behind {f : Addr} {fd : FuncData} {C_Table C_Unlike f_Table___mul__ : Addr} {d_Table___mul__ : FuncData} (F : Fun K "_law_behind" "_law_behind" s__law_behind f fd) (h_ext : ExT K Γ errAll) (G_Table___mul__ : FnOk P w K mg base (L2.CX P w) 6 f_Table___mul__ d_Table___mul__ ["self", "other"] (spF K Γ [false, false] g_Table___mul__)) (h_Table___mul__ : Has K C_Table "__mul__" f_Table___mul__ d_Table___mul__ ["self", "other"]) (r_Table___mul__ : RtOk K Γ C_Table (Operator.Mult).info.2 (okR "Table")) (l_Table___mul__ : LeftO K C_Table (Operator.Mult).info.2) (X_Table : ClsX K Γ mg "Table" C_Table) (e_Unlike : ErrX K Γ mg "Unlike" C_Unlike) :
    FnOk P w K mg base (L2.CX P w) 7 f fd ["one", "other"] (spF K Γ [false, false] g__law_behind) :=
  okF (N := N__law_behind) F sc__law_behind rfl (by decide) fun cdv A outer s H E hr => by
    have tk : Takes (cxOf (L2.CX P w) P w K mg base N__law_behind "_law_behind" (defScope s__law_behind) f cdv A outer s H E) (fun cls d _ H => E cls d H) := takes_of rfl rfl rfl rfl
    exact (sS_one (sS_try h_ext rfl rfl sc__law_behind.nd tk (fun W0 pn0 xe0 tk0 hp0 => (sS_one (sS_ret (sE_binO X_Table.hc r_Table___mul__ G_Table___mul__ (hr.mono (by decide)) h_Table___mul__ l_Table___mul__ (fun σ => passAt tk0 σ) (sE_var (pv 0)) (sE_var (pv 1)))))) (.cons (c := .ref C_Unlike) (oi := none) ⟨rfl, by decide, .inl e_Unlike.g⟩ (.inl ⟨rfl, rfl⟩) (fun a oe cls d pn hz hf => (sS_one (sS_ret sE_str))) .nil) (.s e_Unlike.hc .nil)))
abbrev s_Table___contains__ : Stmt := inCls (top 22) 3
def N_Table___contains__ : List Str := ["self", "row"]
theorem sc_Table___contains__ : FnScope N_Table___contains__ ["self", "row"] (defScope s_Table___contains__) := ⟨rfl, rfl, rfl, by decide +kernel, rfl, by decide +kernel, by decide +kernel⟩
theorem ok_Table___contains__ {f : Addr} {fd : FuncData} {f_is_row : Addr} {d_is_row : FuncData} (F : Fun K "__contains__" "Table.__contains__" s_Table___contains__ f fd) (fl__rows : FldOk K Γ "_rows" clsAll) (c_is_row : Cal K mg "is_row" ["value", "width", "length"] f_is_row d_is_row) (G_is_row : FnOk P w K mg base (L2.CX P w) 3 f_is_row d_is_row ["value", "width", "length"] (spF K Γ [false, false, false] g_is_row)) (fl_arity : FldOk K Γ "arity" clsAll) (fl_width : FldOk K Γ "width" clsAll) :
    FnOk P w K mg base (L2.CX P w) 4 f fd ["self", "row"] (spF K Γ [false, false] g_Table___contains__) :=
  okF (N := N_Table___contains__) F sc_Table___contains__ rfl (by decide) fun cdv A outer s H E hr => by
    have tk : Takes (cxOf (L2.CX P w) P w K mg base N_Table___contains__ "Table.__contains__" (defScope s_Table___contains__) f cdv A outer s H E) (fun cls d _ H => E cls d H) := takes_of rfl rfl rfl rfl
    exact (sS_one (sS_ret (sE_and (sE_callO c_is_row G_is_row (hr.mono (by decide)) (by rfl) (fun σ => passAt tk σ) (sR_k (sE_var (pv 1)) (sR_k (sE_fld fl_width (sE_var (pv 0))) (sR_k (sE_fld fl_arity (sE_var (pv 0))) sR_nil)))) (pe_one (sE_cmp (op_inD hr.u65) r2_in (sE_var (pv 1)) (sE_fld fl__rows (sE_var (pv 0))) rfl)))))
abbrev s_Table___and__ : Stmt := inCls (top 22) 5
def N_Table___and__ : List Str := ["self", "other", "row"]
theorem sc_Table___and__ : FnScope N_Table___and__ ["self", "other"] (defScope s_Table___and__) := ⟨rfl, rfl, rfl, by decide +kernel, rfl, by decide +kernel, by decide +kernel⟩
theorem ok_Table___and__ {f : Addr} {fd : FuncData} {C_Table C_Unlike f_Table___contains__ f_Table___init__ : Addr} {d_Table___contains__ d_Table___init__ : FuncData} (F : Fun K "__and__" "Table.__and__" s_Table___and__ f fd) (G_Table___init__ : FnOk P w K mg base (L2.CX P w) 4 f_Table___init__ d_Table___init__ ["self", "width", "arity", "rows"] (spF K Γ [true, false, false, false] g_Table___init__)) (k_Table___init__ : Mk K C_Table f_Table___init__) (bd_Table___init__ : Binds K d_Table___init__ ["self", "width", "arity", "rows"] []) (X_Table : ClsX K Γ mg "Table" C_Table) (fl__rows : FldOk K Γ "_rows" clsAll) (G_Table___contains__ : FnOk P w K mg base (L2.CX P w) 4 f_Table___contains__ d_Table___contains__ ["self", "row"] (spF K Γ [false, false] g_Table___contains__)) (h_Table___contains__ : Has K C_Table "__contains__" f_Table___contains__ d_Table___contains__ ["self", "row"]) (fl_arity : FldOk K Γ "arity" clsAll) (fl_width : FldOk K Γ "width" clsAll) (b_isinstance : mg "isinstance" = none) (is_Table : IsOk K Γ (.ref C_Table) (ansC "Table")) (e_Unlike : ErrX K Γ mg "Unlike" C_Unlike) (q_Unlike : PySem.W.excIn K C_Unlike [.type "ValueError", .type "Exception", .type "BaseException", .type "object"] "ValueError.__new__" = true) :
    FnOk P w K mg base (L2.CX P w) 6 f fd ["self", "other"] (spF K Γ [false, false] g_Table___and__) :=
  okF (N := N_Table___and__) F sc_Table___and__ rfl (by decide) fun cdv A outer s H E hr => by
    have tk : Takes (cxOf (L2.CX P w) P w K mg base N_Table___and__ "Table.__and__" (defScope s_Table___and__) f cdv A outer s H E) (fun cls d _ H => E cls d H) := takes_of rfl rfl rfl rfl
    exact (sS_cons (sS_if (PW.pt (sW_or (sT_not (sT_tru (sE_isC (by rfl) b_isinstance (by rfl) X_Table.g is_Table (sE_var (pv 1))))) (sW_or (sT_cmp (op_neX hr.units) r2_neX (sE_fld fl_width (sE_var (pv 1))) (sE_fld fl_width (sE_var (pv 0))) (nomark _)) (sW_or1 (sT_cmp (op_neX hr.units) r2_neX (sE_fld fl_arity (sE_var (pv 1))) (sE_fld fl_arity (sE_var (pv 0))) (nomark _)))))) (sS_one (sS_raise0 rfl tk e_Unlike.hc (pmk_exc0 q_Unlike e_Unlike.g e_Unlike.k (raises_own e_Unlike.ex e_Unlike.ty)))) sS_nil)
 (sS_one (sS_ret (sE_make X_Table.hc rfl k_Table___init__ G_Table___init__ (hr.mono (by decide)) (by rfl) X_Table.g bd_Table___init__ (fun σ => passAt tk σ) (sR_k (sE_fld fl_width (sE_var (pv 0))) (sR_k (sE_fld fl_arity (sE_var (pv 0))) (sR_k (sE_lcV rfl sc_Table___and__.nd (sI_seq (sE_fld fl__rows (sE_var (pv 0)))) (blkOk_by (own := [("row", 2)]) (N := N_Table___and__) (sc := defScope s_Table___and__) (by decide +kernel)) off_N (by decide) (fun _ _ _ _ _ => (sG_name (pg_name (i := 2) sc_Table___and__.nd rfl (by first | exact Or.inl rfl | exact Or.inr rfl)))) (fun _ _ _ _ _ => (sTs_one (sT_cmp (op_inW G_Table___contains__ (hr.mono (by decide)) h_Table___contains__) (r2_inO (neg := false) X_Table.hc) (sE_var (pv 2)) (sE_var (pv 1)) rfl))) (fun _ _ _ _ _ => (sE_var (pv 2)))) sR_nil)))))))
abbrev s__law_both : Stmt := top 34
def N__law_both : List Str := ["one", "other"]
theorem sc__law_both : FnScope N__law_both ["one", "other"] (defScope s__law_both) := ⟨rfl, rfl, rfl, by decide +kernel, rfl, by decide +kernel, by decide +kernel⟩
theorem ok__law_both {f : Addr} {fd : FuncData} {C_Table C_Unlike f_Table___and__ : Addr} {d_Table___and__ : FuncData} (F : Fun K "_law_both" "_law_both" s__law_both f fd) (h_ext : ExT K Γ errAll) (G_Table___and__ : FnOk P w K mg base (L2.CX P w) 6 f_Table___and__ d_Table___and__ ["self", "other"] (spF K Γ [false, false] g_Table___and__)) (h_Table___and__ : Has K C_Table "__and__" f_Table___and__ d_Table___and__ ["self", "other"]) (r_Table___and__ : RtOk K Γ C_Table (Operator.BitAnd).info.2 (okR "Table")) (l_Table___and__ : LeftO K C_Table (Operator.BitAnd).info.2) (X_Table : ClsX K Γ mg "Table" C_Table) (e_Unlike : ErrX K Γ mg "Unlike" C_Unlike) :
    FnOk P w K mg base (L2.CX P w) 7 f fd ["one", "other"] (spF K Γ [false, false] g__law_both) :=
  okF (N := N__law_both) F sc__law_both rfl (by decide) fun cdv A outer s H E hr => by
    have tk : Takes (cxOf (L2.CX P w) P w K mg base N__law_both "_law_both" (defScope s__law_both) f cdv A outer s H E) (fun cls d _ H => E cls d H) := takes_of rfl rfl rfl rfl
    exact (sS_one (sS_try h_ext rfl rfl sc__law_both.nd tk (fun W0 pn0 xe0 tk0 hp0 => (sS_one (sS_ret (sE_binO X_Table.hc r_Table___and__ G_Table___and__ (hr.mono (by decide)) h_Table___and__ l_Table___and__ (fun σ => passAt tk0 σ) (sE_var (pv 0)) (sE_var (pv 1)))))) (.cons (c := .ref C_Unlike) (oi := none) ⟨rfl, by decide, .inl e_Unlike.g⟩ (.inl ⟨rfl, rfl⟩) (fun a oe cls d pn hz hf => (sS_one (sS_ret sE_str))) .nil) (.s e_Unlike.hc .nil)))
abbrev s__law_pairs_right : Stmt := top 38
def N__law_pairs_right : List Str := ["one", "other", "first", "second", "row", "rows", "due", "told", "longer", "odd", "more", "bad"]
theorem sc__law_pairs_right : FnScope N__law_pairs_right ["one", "other", "first", "second"] (defScope s__law_pairs_right) := ⟨rfl, rfl, rfl, by decide +kernel, rfl, by decide +kernel, by decide +kernel⟩
theorem ok__law_pairs_right {f : Addr} {fd : FuncData} {C_Table f_Table___eq__ f__law_behind f__law_both f__law_is : Addr} {d_Table___eq__ d__law_behind d__law_both d__law_is : FuncData} (F : Fun K "_law_pairs_right" "_law_pairs_right" s__law_pairs_right f fd) (c__law_behind : Cal K mg "_law_behind" ["one", "other"] f__law_behind d__law_behind) (G__law_behind : FnOk P w K mg base (L2.CX P w) 7 f__law_behind d__law_behind ["one", "other"] (spF K Γ [false, false] g__law_behind)) (G_Table___eq__ : FnOk P w K mg base (L2.CX P w) 1 f_Table___eq__ d_Table___eq__ ["self", "other"] (spF K Γ [false, false] g_Table___eq__)) (h_Table___eq__ : Has K C_Table "__eq__" f_Table___eq__ d_Table___eq__ ["self", "other"]) (n_Table___eq__ : NfOk K Γ C_Table okAll) (ne_Table : PySem.W.findIn K (.ref C_Table) "__ne__" = some (some (.builtin "object.__ne__"))) (ob_Table : PySem.W.subIn K (.ref C_Table) (.type "object") = some true) (X_Table : ClsX K Γ mg "Table" C_Table) (c__law_both : Cal K mg "_law_both" ["one", "other"] f__law_both d__law_both) (G__law_both : FnOk P w K mg base (L2.CX P w) 7 f__law_both d__law_both ["one", "other"] (spF K Γ [false, false] g__law_both)) (c__law_is : Cal K mg "_law_is" ["table", "width", "arity", "rows"] f__law_is d__law_is) (G__law_is : FnG P w K mg base (L2.CX P w) 3 f__law_is d__law_is ["table", "width", "arity", "rows"] (spF K Γ [false, false, false, false] g__law_is)) :
    FnG P w K mg base (L2.CX P w) 8 f fd ["one", "other", "first", "second"] (spF K Γ [false, false, false, false] g__law_pairs_right) :=
  okG (N := N__law_pairs_right) F sc__law_pairs_right rfl (by decide) fun cdv A outer s H E hg hr => by
    have tk : Takes (cxOf (L2.CX P w) P w K mg base N__law_pairs_right "_law_pairs_right" (defScope s__law_pairs_right) f cdv A outer s H E) (fun cls d _ H => E cls d H) := takes_of rfl rfl rfl rfl
    exact (sS_cons (sS_setLcIV (i := 5) rfl sc__law_pairs_right.nd rfl rfl rfl (sI_seq (sE_ix ix_seq r2_ix (sE_var (pv 2)) sE_int (fun _ _ => rfl))) (blkOk_by (own := [("row", 4)]) (N := N__law_pairs_right) (sc := defScope s__law_pairs_right) (by decide +kernel)) off_N (by decide) (fun _ _ _ _ _ => (sG_name (pg_name (i := 4) sc__law_pairs_right.nd rfl (by first | exact Or.inl rfl | exact Or.inr rfl)))) (fun _ _ _ _ _ => (sTs_one (sT_cmp (op_inD hr.u65) r2_in (sE_var (pv 4)) (sE_ix ix_seq r2_ix (sE_var (pv 3)) sE_int (fun _ _ => rfl)) rfl))) (fun _ _ _ _ _ => (sE_var (pv 4))))
 (sS_cons (sS_set (i := 6) sc__law_pairs_right.nd rfl (by first | exact Or.inl rfl | exact Or.inr rfl) (sE_cmp (op_eqX hr.units) r2_eqX (sE_sl (sE_var (pv 2)) sO_none (sO_some sE_int)) (sE_sl (sE_var (pv 3)) sO_none (sO_some sE_int)) (nomark _)))
 (sS_cons (sS_set (i := 7) sc__law_pairs_right.nd rfl (by first | exact Or.inl rfl | exact Or.inr rfl) (sE_callO c__law_both G__law_both (hr.mono (by decide)) (by rfl) (fun σ => passAt tk σ) (sR_k (sE_var (pv 0)) (sR_k (sE_var (pv 1)) sR_nil))))
 (sS_cons (sS_if (PW.pt (sW_or (PW.pt (sW_and (sT_tru (sE_var (pv 6))) (sW_and1 (sT_not (sT_tru (sE_callG c__law_is G__law_is hg (hr.mono (by decide)) (by rfl) (fun σ => passAt tk σ) (sR_k (sE_var (pv 7)) (sR_k (sE_ix ix_seq r2_ix (sE_var (pv 2)) sE_int (fun _ _ => rfl)) (sR_k (sE_ix ix_seq r2_ix (sE_var (pv 2)) sE_int (fun _ _ => rfl)) (sR_k (sE_var (pv 5)) sR_nil)))))))))) (sW_or1 (PW.pt (sW_and (sT_not (sT_tru (sE_var (pv 6)))) (sW_and1 (sT_cmp ((op_neX hr.units).or (op_neW G_Table___eq__ (hr.mono (by decide)) h_Table___eq__ ne_Table ob_Table)) (r2_alt r2_neX (r2_eqO (neg := true) X_Table.hc n_Table___eq__)) (sE_var (pv 7)) sE_str (nomark _)))))))) (sS_one (sS_ret sE_bl)) sS_nil)
 (sS_cons (sS_par (i := 6) (j := 8) rfl sc__law_pairs_right.nd rfl rfl (by decide) rfl rfl (sA_cons (sE_and (sE_cmp (op_eqX hr.units) r2_eqX (sE_ix ix_seq r2_ix (sE_var (pv 2)) sE_int (fun _ _ => rfl)) (sE_ix ix_seq r2_ix (sE_var (pv 3)) sE_int (fun _ _ => rfl)) (nomark _)) (pe_one (sE_cmp op_le r2_le (sE_op op_addX r2_add (sE_ix ix_seq r2_ix (sE_var (pv 2)) sE_int (fun _ _ => rfl)) (sE_ix ix_seq r2_ix (sE_var (pv 3)) sE_int (fun _ _ => rfl))) sE_int (nomark _)))) (sA_cons (sE_lst sA_nil) sA_nil)) rfl)
 (sS_cons (sS_for (passes_of rfl) rfl (sI_seq (sE_ix ix_seq r2_ix (sE_var (pv 2)) sE_int (fun _ _ => rfl))) (sG_name (pg_name (i := 4) sc__law_pairs_right.nd rfl (by first | exact Or.inl rfl | exact Or.inr rfl))) (sS_one (sS_set (i := 8) sc__law_pairs_right.nd rfl (by first | exact Or.inl rfl | exact Or.inr rfl) (sE_op op_addX r2_add (sE_var (pv 8)) (sE_lcV rfl sc__law_pairs_right.nd (sI_seq (sE_ix ix_seq r2_ix (sE_var (pv 3)) sE_int (fun _ _ => rfl))) (blkOk_by (own := [("more", 10)]) (N := N__law_pairs_right) (sc := defScope s__law_pairs_right) (by decide +kernel)) off_N (by decide) (fun _ _ _ _ _ => (sG_name (pg_name (i := 10) sc__law_pairs_right.nd rfl (by first | exact Or.inl rfl | exact Or.inr rfl)))) (fun _ _ _ _ _ => sTs_nil) (fun _ _ _ _ _ => (sE_op op_addX r2_add (sE_var (pv 4)) (sE_var (pv 10)))))))))
 (sS_cons (sS_set (i := 7) sc__law_pairs_right.nd rfl (by first | exact Or.inl rfl | exact Or.inr rfl) (sE_callO c__law_behind G__law_behind (hr.mono (by decide)) (by rfl) (fun σ => passAt tk σ) (sR_k (sE_var (pv 0)) (sR_k (sE_var (pv 1)) sR_nil))))
 (sS_cons (sS_if (PW.pt (sW_or (PW.pt (sW_and (sT_tru (sE_var (pv 6))) (sW_and1 (sT_not (sT_tru (sE_callG c__law_is G__law_is hg (hr.mono (by decide)) (by rfl) (fun σ => passAt tk σ) (sR_k (sE_var (pv 7)) (sR_k (sE_ix ix_seq r2_ix (sE_var (pv 2)) sE_int (fun _ _ => rfl)) (sR_k (sE_op op_addX r2_add (sE_ix ix_seq r2_ix (sE_var (pv 2)) sE_int (fun _ _ => rfl)) (sE_ix ix_seq r2_ix (sE_var (pv 3)) sE_int (fun _ _ => rfl))) (sR_k (sE_var (pv 8)) sR_nil)))))))))) (sW_or1 (PW.pt (sW_and (sT_not (sT_tru (sE_var (pv 6)))) (sW_and1 (sT_cmp ((op_neX hr.units).or (op_neW G_Table___eq__ (hr.mono (by decide)) h_Table___eq__ ne_Table ob_Table)) (r2_alt r2_neX (r2_eqO (neg := true) X_Table.hc n_Table___eq__)) (sE_var (pv 7)) sE_str (nomark _)))))))) (sS_one (sS_ret sE_bl)) sS_nil)
 (sS_cons (sS_set (i := 9) sc__law_pairs_right.nd rfl (by first | exact Or.inl rfl | exact Or.inr rfl) (sE_lst (sA_cons sE_non (sA_cons sE_int (sA_cons (sE_ix ix_seq r2_ix (sE_var (pv 2)) sE_int (fun _ _ => rfl)) (sA_cons sE_str (sA_cons (sE_tup sA_nil) sA_nil)))))))
 (sS_one (sS_ret (sE_cmp (op_eqX hr.units) r2_eqX (sE_lcV rfl sc__law_pairs_right.nd (sI_seq (sE_var (pv 9))) (blkOk_by (own := [("bad", 11)]) (N := N__law_pairs_right) (sc := defScope s__law_pairs_right) (by decide +kernel)) off_N (by decide) (fun _ _ _ _ _ => (sG_name (pg_name (i := 11) sc__law_pairs_right.nd rfl (by first | exact Or.inl rfl | exact Or.inr rfl)))) (fun _ _ _ _ _ => (sTs_one (PW.pt (sW_or (sT_cmp ((op_neX hr.units).or (op_neW G_Table___eq__ (hr.mono (by decide)) h_Table___eq__ ne_Table ob_Table)) (r2_alt r2_neX (r2_eqO (neg := true) X_Table.hc n_Table___eq__)) (sE_callO c__law_both G__law_both (hr.mono (by decide)) (by rfl) (fun σ => passNo σ) (sR_k (sE_var (pv 0)) (sR_k (sE_var (pv 11)) sR_nil))) sE_str (nomark _)) (sW_or1 (sT_cmp ((op_neX hr.units).or (op_neW G_Table___eq__ (hr.mono (by decide)) h_Table___eq__ ne_Table ob_Table)) (r2_alt r2_neX (r2_eqO (neg := true) X_Table.hc n_Table___eq__)) (sE_callO c__law_behind G__law_behind (hr.mono (by decide)) (by rfl) (fun σ => passNo σ) (sR_k (sE_var (pv 0)) (sR_k (sE_var (pv 11)) sR_nil))) sE_str (nomark _))))))) (fun _ _ _ _ _ => (sE_var (pv 11)))) (sE_lst sA_nil) (nomark _)))))))))))))
abbrev s__law_drawn_row : Stmt := top 28
def N__law_drawn_row : List Str := ["feed", "width", "arity", "turn"]
theorem sc__law_drawn_row : FnScope N__law_drawn_row ["feed", "width", "arity"] (defScope s__law_drawn_row) := ⟨rfl, rfl, rfl, by decide +kernel, rfl, by decide +kernel, by decide +kernel⟩
theorem ok__law_drawn_row {f : Addr} {fd : FuncData} {f__law_take : Addr} {d__law_take : FuncData} (F : Fun K "_law_drawn_row" "_law_drawn_row" s__law_drawn_row f fd) (b_range : mg "range" = none) (c__law_take : Cal K mg "_law_take" ["feed", "many"] f__law_take d__law_take) (G__law_take : FnOk P w K mg base (L2.CX P w) 1 f__law_take d__law_take ["feed", "many"] (spF K Γ [true, false] g__law_take)) (b_tuple : mg "tuple" = none) :
    FnOk P w K mg base (L2.CX P w) 2 f fd ["feed", "width", "arity"] (spF K Γ [true, false, false] g__law_drawn_row) :=
  okF (N := N__law_drawn_row) F sc__law_drawn_row rfl (by decide) fun cdv A outer s H E hr => by
    have tk : Takes (cxOf (L2.CX P w) P w K mg base N__law_drawn_row "_law_drawn_row" (defScope s__law_drawn_row) f cdv A outer s H E) (fun cls d _ H => E cls d H) := takes_of rfl rfl rfl rfl
    exact (sS_one (sS_ret (sE_callT1 call_tuple_of r1_tuple (by rfl) b_tuple boot_tuple (sE_lcV rfl sc__law_drawn_row.nd (sI_rng1 (by rfl) b_range (sE_var (pv 2))) (blkOk_by (own := [("turn", 3)]) (N := N__law_drawn_row) (sc := defScope s__law_drawn_row) (by decide +kernel)) off_N (by decide) (fun _ _ _ _ _ => (sG_name (pg_name (i := 3) sc__law_drawn_row.nd rfl (by first | exact Or.inl rfl | exact Or.inr rfl)))) (fun _ _ _ _ _ => sTs_nil) (fun _ _ _ _ _ => (sE_callO c__law_take G__law_take (hr.mono (by decide)) (by rfl) (fun σ => passNo σ) (sR_p (sE_var (pv 0)) (sR_k (sE_var (pv 1)) sR_nil))))))))
abbrev s__law_drawn_rows : Stmt := top 29
def N__law_drawn_rows : List Str := ["feed", "width", "arity", "most", "turn"]
theorem sc__law_drawn_rows : FnScope N__law_drawn_rows ["feed", "width", "arity", "most"] (defScope s__law_drawn_rows) := ⟨rfl, rfl, rfl, by decide +kernel, rfl, by decide +kernel, by decide +kernel⟩
theorem ok__law_drawn_rows {f : Addr} {fd : FuncData} {f__law_drawn_row f__law_take : Addr} {d__law_drawn_row d__law_take : FuncData} (F : Fun K "_law_drawn_rows" "_law_drawn_rows" s__law_drawn_rows f fd) (c__law_take : Cal K mg "_law_take" ["feed", "many"] f__law_take d__law_take) (G__law_take : FnOk P w K mg base (L2.CX P w) 1 f__law_take d__law_take ["feed", "many"] (spF K Γ [true, false] g__law_take)) (b_range : mg "range" = none) (c__law_drawn_row : Cal K mg "_law_drawn_row" ["feed", "width", "arity"] f__law_drawn_row d__law_drawn_row) (G__law_drawn_row : FnOk P w K mg base (L2.CX P w) 2 f__law_drawn_row d__law_drawn_row ["feed", "width", "arity"] (spF K Γ [true, false, false] g__law_drawn_row)) :
    FnOk P w K mg base (L2.CX P w) 3 f fd ["feed", "width", "arity", "most"] (spF K Γ [true, false, false, false] g__law_drawn_rows) :=
  okF (N := N__law_drawn_rows) F sc__law_drawn_rows rfl (by decide) fun cdv A outer s H E hr => by
    have tk : Takes (cxOf (L2.CX P w) P w K mg base N__law_drawn_rows "_law_drawn_rows" (defScope s__law_drawn_rows) f cdv A outer s H E) (fun cls d _ H => E cls d H) := takes_of rfl rfl rfl rfl
    exact (sS_one (sS_ret (sE_lcV rfl sc__law_drawn_rows.nd (sI_rng1 (by rfl) b_range (sE_callO c__law_take G__law_take (hr.mono (by decide)) (by rfl) (fun σ => passAt tk σ) (sR_p (sE_var (pv 0)) (sR_k (sE_op op_addX r2_add (sE_var (pv 3)) sE_int) sR_nil)))) (blkOk_by (own := [("turn", 4)]) (N := N__law_drawn_rows) (sc := defScope s__law_drawn_rows) (by decide +kernel)) off_N (by decide) (fun _ _ _ _ _ => (sG_name (pg_name (i := 4) sc__law_drawn_rows.nd rfl (by first | exact Or.inl rfl | exact Or.inr rfl)))) (fun _ _ _ _ _ => sTs_nil) (fun _ _ _ _ _ => (sE_callO c__law_drawn_row G__law_drawn_row (hr.mono (by decide)) (by rfl) (fun σ => passNo σ) (sR_p (sE_var (pv 0)) (sR_k (sE_var (pv 1)) (sR_k (sE_var (pv 2)) sR_nil))))))))
abbrev s__law_known_tables : Stmt := top 30
def N__law_known_tables : List Str := ["width", "pairs", "threes", "found", "row"]
theorem sc__law_known_tables : FnScope N__law_known_tables ["width"] (defScope s__law_known_tables) := ⟨rfl, rfl, rfl, by decide +kernel, rfl, by decide +kernel, by decide +kernel⟩
theorem ok__law_known_tables {f : Addr} {fd : FuncData} {f__law_all : Addr} {d__law_all : FuncData} (F : Fun K "_law_known_tables" "_law_known_tables" s__law_known_tables f fd) (b_min : mg "min" = none) (b_max : mg "max" = none) (b_sum : mg "sum" = none) (b_int : mg "int" = none) (c__law_all : Cal K mg "_law_all" ["width", "length"] f__law_all d__law_all) (G__law_all : FnOk P w K mg base (L2.CX P w) 1 f__law_all d__law_all ["width", "length"] (spF K Γ [false, false] g__law_all)) :
    FnOk P w K mg base (L2.CX P w) 2 f fd ["width"] (spF K Γ [false] g__law_known_tables) :=
  okF (N := N__law_known_tables) F sc__law_known_tables rfl (by decide) fun cdv A outer s H E hr => by
    have tk : Takes (cxOf (L2.CX P w) P w K mg base N__law_known_tables "_law_known_tables" (defScope s__law_known_tables) f cdv A outer s H E) (fun cls d _ H => E cls d H) := takes_of rfl rfl rfl rfl
    exact (sS_cons (sS_par (i := 1) (j := 2) rfl sc__law_known_tables.nd rfl rfl (by decide) rfl rfl (sA_cons (sE_callO c__law_all G__law_all (hr.mono (by decide)) (by rfl) (fun σ => passAt tk σ) (sR_k (sE_var (pv 0)) (sR_k sE_int sR_nil))) (sA_cons (sE_callO c__law_all G__law_all (hr.mono (by decide)) (by rfl) (fun σ => passAt tk σ) (sR_k (sE_var (pv 0)) (sR_k sE_int sR_nil))) sA_nil)) rfl)
 (sS_cons (sS_setM (i := 3) sc__law_known_tables.nd rfl (by first | exact Or.inl rfl | exact Or.inr rfl) (sE_lst (sA_cons (sE_lst (sA_cons sE_int (sA_cons (sE_lcV rfl sc__law_known_tables.nd (sI_seq (sE_var (pv 1))) (blkOk_by (own := [("row", 4)]) (N := N__law_known_tables) (sc := defScope s__law_known_tables) (by decide +kernel)) off_N (by decide) (fun _ _ _ _ _ => (sG_name (pg_name (i := 4) sc__law_known_tables.nd rfl (by first | exact Or.inl rfl | exact Or.inr rfl)))) (fun _ _ _ _ _ => (sTs_one (sT_cmp op_le r2_le (sE_ix ix_seq r2_ix (sE_var (pv 4)) sE_int (fun _ _ => rfl)) (sE_ix ix_seq r2_ix (sE_var (pv 4)) sE_int (fun _ _ => rfl)) (nomark _)))) (fun _ _ _ _ _ => (sE_var (pv 4)))) sA_nil))) (sA_cons (sE_lst (sA_cons sE_int (sA_cons (sE_lcV rfl sc__law_known_tables.nd (sI_seq (sE_var (pv 1))) (blkOk_by (own := [("row", 4)]) (N := N__law_known_tables) (sc := defScope s__law_known_tables) (by decide +kernel)) off_N (by decide) (fun _ _ _ _ _ => (sG_name (pg_name (i := 4) sc__law_known_tables.nd rfl (by first | exact Or.inl rfl | exact Or.inr rfl)))) (fun _ _ _ _ _ => (sTs_one (sT_cmp (op_neX hr.units) r2_neX (sE_ix ix_seq r2_ix (sE_var (pv 4)) sE_int (fun _ _ => rfl)) (sE_ix ix_seq r2_ix (sE_var (pv 4)) sE_int (fun _ _ => rfl)) (nomark _)))) (fun _ _ _ _ _ => (sE_var (pv 4)))) sA_nil))) sA_nil))))
 (sS_cons (sS_setM (i := 3) sc__law_known_tables.nd rfl (by first | exact Or.inl rfl | exact Or.inr rfl) (sE_op op_addX r2_add (sE_var (pv 3)) (sE_lst (sA_cons (sE_lst (sA_cons sE_int (sA_cons (sE_lcV rfl sc__law_known_tables.nd (sI_seq (sE_var (pv 1))) (blkOk_by (own := [("row", 4)]) (N := N__law_known_tables) (sc := defScope s__law_known_tables) (by decide +kernel)) off_N (by decide) (fun _ _ _ _ _ => (sG_name (pg_name (i := 4) sc__law_known_tables.nd rfl (by first | exact Or.inl rfl | exact Or.inr rfl)))) (fun _ _ _ _ _ => (sTs_one (sT_cmp (op_eqX hr.units) r2_eqX (sE_ix ix_seq r2_ix (sE_var (pv 4)) sE_int (fun _ _ => rfl)) (sE_ix ix_seq r2_ix (sE_var (pv 4)) sE_int (fun _ _ => rfl)) (nomark _)))) (fun _ _ _ _ _ => (sE_var (pv 4)))) sA_nil))) (sA_cons (sE_lst (sA_cons sE_int (sA_cons (sE_lst (sA_cons (sE_tup (sA_cons sE_int sA_nil)) sA_nil)) sA_nil))) (sA_cons (sE_lst (sA_cons sE_int (sA_cons (sE_lst (sA_cons (sE_tup (sA_cons (sE_op op_sub r2_sub (sE_var (pv 0)) sE_int) sA_nil)) sA_nil)) sA_nil))) sA_nil))))))
 (sS_cons (sS_expr (sE_appN (pv 3) (sE_lst (sA_cons sE_int (sA_cons (sE_lcV rfl sc__law_known_tables.nd (sI_seq (sE_var (pv 1))) (blkOk_by (own := [("row", 4)]) (N := N__law_known_tables) (sc := defScope s__law_known_tables) (by decide +kernel)) off_N (by decide) (fun _ _ _ _ _ => (sG_name (pg_name (i := 4) sc__law_known_tables.nd rfl (by first | exact Or.inl rfl | exact Or.inr rfl)))) (fun _ _ _ _ _ => (sTs_one (sT_cmp (op_eqX hr.units) r2_eqX (sE_op op_mod r2_mod (sE_callT1 call_int1 r1_int (by rfl) b_int boot_int (sE_op op_addX r2_add (sE_ix ix_seq r2_ix (sE_var (pv 4)) sE_int (fun _ _ => rfl)) sE_int)) (sE_var (pv 0))) (sE_ix ix_seq r2_ix (sE_var (pv 4)) sE_int (fun _ _ => rfl)) (nomark _)))) (fun _ _ _ _ _ => (sE_var (pv 4)))) sA_nil)))))
 (sS_cons (sS_expr (sE_appN (pv 3) (sE_lst (sA_cons sE_int (sA_cons (sE_lcV rfl sc__law_known_tables.nd (sI_seq (sE_var (pv 1))) (blkOk_by (own := [("row", 4)]) (N := N__law_known_tables) (sc := defScope s__law_known_tables) (by decide +kernel)) off_N (by decide) (fun _ _ _ _ _ => (sG_name (pg_name (i := 4) sc__law_known_tables.nd rfl (by first | exact Or.inl rfl | exact Or.inr rfl)))) (fun _ _ _ _ _ => (sTs_one (sT_cmp (op_eqX hr.units) r2_eqX (sE_call1 (cr_maxX rfl hr.units) r1_max (by rfl) b_max boot_max (sE_var (pv 4))) (sE_op op_sub r2_sub (sE_var (pv 0)) sE_int) (nomark _)))) (fun _ _ _ _ _ => (sE_var (pv 4)))) sA_nil)))))
 (sS_cons (sS_expr (sE_appN (pv 3) (sE_lst (sA_cons sE_int (sA_cons (sE_lcV rfl sc__law_known_tables.nd (sI_seq (sE_var (pv 1))) (blkOk_by (own := [("row", 4)]) (N := N__law_known_tables) (sc := defScope s__law_known_tables) (by decide +kernel)) off_N (by decide) (fun _ _ _ _ _ => (sG_name (pg_name (i := 4) sc__law_known_tables.nd rfl (by first | exact Or.inl rfl | exact Or.inr rfl)))) (fun _ _ _ _ _ => (sTs_one (sT_cmp (op_eqX hr.units) r2_eqX (sE_call1 (cr_minX rfl hr.units) r1_min (by rfl) b_min boot_min (sE_var (pv 4))) sE_int (nomark _)))) (fun _ _ _ _ _ => (sE_var (pv 4)))) sA_nil)))))
 (sS_cons (sS_expr (sE_appN (pv 3) (sE_lst (sA_cons sE_int (sA_cons (sE_lcV rfl sc__law_known_tables.nd (sI_seq (sE_var (pv 2))) (blkOk_by (own := [("row", 4)]) (N := N__law_known_tables) (sc := defScope s__law_known_tables) (by decide +kernel)) off_N (by decide) (fun _ _ _ _ _ => (sG_name (pg_name (i := 4) sc__law_known_tables.nd rfl (by first | exact Or.inl rfl | exact Or.inr rfl)))) (fun _ _ _ _ _ => (sTs_one (sT_cmp op_le r2_le (sE_callB2 (call_min2 rfl) r2_min2 (by rfl) b_min boot_min (sE_ix ix_seq r2_ix (sE_var (pv 4)) sE_int (fun _ _ => rfl)) (sE_ix ix_seq r2_ix (sE_var (pv 4)) sE_int (fun _ _ => rfl))) (sE_ix ix_seq r2_ix (sE_var (pv 4)) sE_int (fun _ _ => rfl)) (nomark _)))) (fun _ _ _ _ _ => (sE_var (pv 4)))) sA_nil)))))
 (sS_cons (sS_expr (sE_appN (pv 3) (sE_lst (sA_cons sE_int (sA_cons (sE_lcV rfl sc__law_known_tables.nd (sI_seq (sE_var (pv 2))) (blkOk_by (own := [("row", 4)]) (N := N__law_known_tables) (sc := defScope s__law_known_tables) (by decide +kernel)) off_N (by decide) (fun _ _ _ _ _ => (sG_name (pg_name (i := 4) sc__law_known_tables.nd rfl (by first | exact Or.inl rfl | exact Or.inr rfl)))) (fun _ _ _ _ _ => (sTs_one (sT_cmp op_ge r2_ge (sE_callB2 (call_max2 rfl) r2_max2 (by rfl) b_max boot_max (sE_ix ix_seq r2_ix (sE_var (pv 4)) sE_int (fun _ _ => rfl)) (sE_ix ix_seq r2_ix (sE_var (pv 4)) sE_int (fun _ _ => rfl))) (sE_ix ix_seq r2_ix (sE_var (pv 4)) sE_int (fun _ _ => rfl)) (nomark _)))) (fun _ _ _ _ _ => (sE_var (pv 4)))) sA_nil)))))
 (sS_cons (sS_expr (sE_appN (pv 3) (sE_lst (sA_cons sE_int (sA_cons (sE_lcV rfl sc__law_known_tables.nd (sI_seq (sE_var (pv 2))) (blkOk_by (own := [("row", 4)]) (N := N__law_known_tables) (sc := defScope s__law_known_tables) (by decide +kernel)) off_N (by decide) (fun _ _ _ _ _ => (sG_name (pg_name (i := 4) sc__law_known_tables.nd rfl (by first | exact Or.inl rfl | exact Or.inr rfl)))) (fun _ _ _ _ _ => (sTs_one (sT_cmp (op_eqX hr.units) r2_eqX (sE_op op_mod r2_mod (sE_callT1 call_int1 r1_int (by rfl) b_int boot_int (sE_call1 (cr_sumX rfl) r1_sum (by rfl) b_sum boot_sum (sE_var (pv 4)))) (sE_var (pv 0))) sE_int (nomark _)))) (fun _ _ _ _ _ => (sE_var (pv 4)))) sA_nil)))))
 (sS_cons (sS_expr (sE_appN (pv 3) (sE_lst (sA_cons sE_int (sA_cons (sE_lcV rfl sc__law_known_tables.nd (sI_seq (sE_var (pv 2))) (blkOk_by (own := [("row", 4)]) (N := N__law_known_tables) (sc := defScope s__law_known_tables) (by decide +kernel)) off_N (by decide) (fun _ _ _ _ _ => (sG_name (pg_name (i := 4) sc__law_known_tables.nd rfl (by first | exact Or.inl rfl | exact Or.inr rfl)))) (fun _ _ _ _ _ => (sTs_one (sT_cmp (op_eqX hr.units) r2_eqX (sE_call1 (cr_sumX rfl) r1_sum (by rfl) b_sum boot_sum (sE_var (pv 4))) sE_int (nomark _)))) (fun _ _ _ _ _ => (sE_var (pv 4)))) sA_nil)))))
 (sS_cons (sS_expr (sE_appN (pv 3) (sE_lst (sA_cons sE_int (sA_cons (sE_lcV rfl sc__law_known_tables.nd (sI_seq (sE_var (pv 2))) (blkOk_by (own := [("row", 4)]) (N := N__law_known_tables) (sc := defScope s__law_known_tables) (by decide +kernel)) off_N (by decide) (fun _ _ _ _ _ => (sG_name (pg_name (i := 4) sc__law_known_tables.nd rfl (by first | exact Or.inl rfl | exact Or.inr rfl)))) (fun _ _ _ _ _ => (sTs_one (sT_cmp (op_eqX hr.units) r2_eqX (sE_call1 (cr_maxX rfl hr.units) r1_max (by rfl) b_max boot_max (sE_var (pv 4))) (sE_op op_sub r2_sub (sE_var (pv 0)) sE_int) (nomark _)))) (fun _ _ _ _ _ => (sE_var (pv 4)))) sA_nil)))))
 (sS_one (sS_ret (sE_op op_addX r2_add (sE_var (pv 3)) (sE_lst (sA_cons (sE_lst (sA_cons sE_int (sA_cons (sE_lcV rfl sc__law_known_tables.nd (sI_seq (sE_var (pv 2))) (blkOk_by (own := [("row", 4)]) (N := N__law_known_tables) (sc := defScope s__law_known_tables) (by decide +kernel)) off_N (by decide) (fun _ _ _ _ _ => (sG_name (pg_name (i := 4) sc__law_known_tables.nd rfl (by first | exact Or.inl rfl | exact Or.inr rfl)))) (fun _ _ _ _ _ => (sTs_one (sT_cmp (op_eqX hr.units) r2_eqX (sE_call1 (cr_minX rfl hr.units) r1_min (by rfl) b_min boot_min (sE_var (pv 4))) sE_int (nomark _)))) (fun _ _ _ _ _ => (sE_var (pv 4)))) sA_nil))) (sA_cons (sE_lst (sA_cons sE_int (sA_cons (sE_lcV rfl sc__law_known_tables.nd (sI_seq (sE_var (pv 2))) (blkOk_by (own := [("row", 4)]) (N := N__law_known_tables) (sc := defScope s__law_known_tables) (by decide +kernel)) off_N (by decide) (fun _ _ _ _ _ => (sG_name (pg_name (i := 4) sc__law_known_tables.nd rfl (by first | exact Or.inl rfl | exact Or.inr rfl)))) (fun _ _ _ _ _ => (sTs_one (sT_cmp op_lt r2_lt (sE_call1 (cr_minX rfl hr.units) r1_min (by rfl) b_min boot_min (sE_var (pv 4))) (sE_call1 (cr_maxX rfl hr.units) r1_max (by rfl) b_max boot_max (sE_var (pv 4))) (nomark _)))) (fun _ _ _ _ _ => (sE_var (pv 4)))) sA_nil))) sA_nil)))))))))))))))))
abbrev s__law_drawn_table : Stmt := top 31
def N__law_drawn_table : List Str := ["feed", "width", "most", "case", "arity"]
theorem sc__law_drawn_table : FnScope N__law_drawn_table ["feed", "width", "most"] (defScope s__law_drawn_table) := ⟨rfl, rfl, rfl, by decide +kernel, rfl, by decide +kernel, by decide +kernel⟩
theorem ok__law_drawn_table {f : Addr} {fd : FuncData} {f__law_drawn_rows f__law_known_tables f__law_pick f__law_take : Addr} {d__law_drawn_rows d__law_known_tables d__law_pick d__law_take : FuncData} (F : Fun K "_law_drawn_table" "_law_drawn_table" s__law_drawn_table f fd) (c__law_drawn_rows : Cal K mg "_law_drawn_rows" ["feed", "width", "arity", "most"] f__law_drawn_rows d__law_drawn_rows) (G__law_drawn_rows : FnOk P w K mg base (L2.CX P w) 3 f__law_drawn_rows d__law_drawn_rows ["feed", "width", "arity", "most"] (spF K Γ [true, false, false, false] g__law_drawn_rows)) (b_sorted : mg "sorted" = none) (b_set : mg "set" = none) (c__law_take : Cal K mg "_law_take" ["feed", "many"] f__law_take d__law_take) (G__law_take : FnOk P w K mg base (L2.CX P w) 1 f__law_take d__law_take ["feed", "many"] (spF K Γ [true, false] g__law_take)) (c__law_pick : Cal K mg "_law_pick" ["feed", "some"] f__law_pick d__law_pick) (G__law_pick : FnOk P w K mg base (L2.CX P w) 2 f__law_pick d__law_pick ["feed", "some"] (spF K Γ [true, false] g__law_pick)) (c__law_known_tables : Cal K mg "_law_known_tables" ["width"] f__law_known_tables d__law_known_tables) (G__law_known_tables : FnOk P w K mg base (L2.CX P w) 2 f__law_known_tables d__law_known_tables ["width"] (spF K Γ [false] g__law_known_tables)) :
    FnOk P w K mg base (L2.CX P w) 4 f fd ["feed", "width", "most"] (spF K Γ [true, false, false] g__law_drawn_table) :=
  okF (N := N__law_drawn_table) F sc__law_drawn_table rfl (by decide) fun cdv A outer s H E hr => by
    have tk : Takes (cxOf (L2.CX P w) P w K mg base N__law_drawn_table "_law_drawn_table" (defScope s__law_drawn_table) f cdv A outer s H E) (fun cls d _ H => E cls d H) := takes_of rfl rfl rfl rfl
    exact (sS_cons (sS_set (i := 3) sc__law_drawn_table.nd rfl (by first | exact Or.inl rfl | exact Or.inr rfl) (sE_callO c__law_take G__law_take (hr.mono (by decide)) (by rfl) (fun σ => passAt tk σ) (sR_p (sE_var (pv 0)) (sR_k sE_int sR_nil))))
 (sS_cons (sS_if (sT_cmp op_lt r2_lt (sE_var (pv 3)) sE_int (nomark _)) (sS_one (sS_ret (sE_callO c__law_pick G__law_pick (hr.mono (by decide)) (by rfl) (fun σ => passAt tk σ) (sR_p (sE_var (pv 0)) (sR_k (sE_callO c__law_known_tables G__law_known_tables (hr.mono (by decide)) (by rfl) (fun σ => passAt tk σ) (sR_k (sE_var (pv 1)) sR_nil)) sR_nil))))) sS_nil)
 (sS_cons (sS_set (i := 4) sc__law_drawn_table.nd rfl (by first | exact Or.inl rfl | exact Or.inr rfl) (sE_op op_addX r2_add sE_int (sE_callO c__law_take G__law_take (hr.mono (by decide)) (by rfl) (fun σ => passAt tk σ) (sR_p (sE_var (pv 0)) (sR_k sE_int sR_nil)))))
 (sS_one (sS_ret (sE_lst (sA_cons (sE_var (pv 4)) (sA_cons (sE_ss rfl hr.units (by rfl) b_sorted (by rfl) b_set (sE_callO c__law_drawn_rows G__law_drawn_rows (hr.mono (by decide)) (by rfl) (fun σ => passAt tk σ) (sR_p (sE_var (pv 0)) (sR_k (sE_var (pv 1)) (sR_k (sE_var (pv 4)) (sR_k (sE_var (pv 2)) sR_nil)))))) sA_nil))))))))
abbrev s__law_width : Stmt := top 32
def N__law_width : List Str := ["feed"]
theorem sc__law_width : FnScope N__law_width ["feed"] (defScope s__law_width) := ⟨rfl, rfl, rfl, by decide +kernel, rfl, by decide +kernel, by decide +kernel⟩
theorem ok__law_width {f : Addr} {fd : FuncData} {f__law_pick : Addr} {d__law_pick : FuncData} (F : Fun K "_law_width" "_law_width" s__law_width f fd) (c__law_pick : Cal K mg "_law_pick" ["feed", "some"] f__law_pick d__law_pick) (G__law_pick : FnOk P w K mg base (L2.CX P w) 2 f__law_pick d__law_pick ["feed", "some"] (spF K Γ [true, false] g__law_pick)) :
    FnOk P w K mg base (L2.CX P w) 3 f fd ["feed"] (spF K Γ [true] g__law_width) :=
  okF (N := N__law_width) F sc__law_width rfl (by decide) fun cdv A outer s H E hr => by
    have tk : Takes (cxOf (L2.CX P w) P w K mg base N__law_width "_law_width" (defScope s__law_width) f cdv A outer s H E) (fun cls d _ H => E cls d H) := takes_of rfl rfl rfl rfl
    exact (sS_one (sS_ret (sE_callO c__law_pick G__law_pick (hr.mono (by decide)) (by rfl) (fun σ => passAt tk σ) (sR_p (sE_var (pv 0)) (sR_k (sE_lst (sA_cons sE_int (sA_cons sE_int (sA_cons sE_int (sA_cons sE_int (sA_cons sE_int (sA_cons sE_int sA_nil))))))) sR_nil)))))
abbrev s__law_feed : Stmt := top 24
def N__law_feed : List Str := ["script", "k", "cell", "digits", "state"]
theorem sc__law_feed : FnScope N__law_feed ["script", "k"] (defScope s__law_feed) := ⟨rfl, rfl, rfl, by decide +kernel, rfl, by decide +kernel, by decide +kernel⟩
theorem ok__law_feed {f : Addr} {fd : FuncData} (F : Fun K "_law_feed" "_law_feed" s__law_feed f fd) (b_int : mg "int" = none) (b_abs : mg "abs" = none) (b_max : mg "max" = none) (b_len : mg "len" = none) :
    FnOk P w K mg base (L2.CX P w) 1 f fd ["script", "k"] (spFf K Γ [false, false] g__law_feed) :=
  okFf (N := N__law_feed) F sc__law_feed rfl (by decide) fun cdv A outer s H E hr => by
    have tk : Takes (cxOf (L2.CX P w) P w K mg base N__law_feed "_law_feed" (defScope s__law_feed) f cdv A outer s H E) (fun cls d _ H => E cls d H) := takes_of rfl rfl rfl rfl
    exact (sF_cons (sS_set (i := 2) sc__law_feed.nd rfl (by first | exact Or.inl rfl | exact Or.inr rfl) (sE_if (sT_cmp op_lt r2_lt (sE_var (pv 1)) (sE_call1 call_lenX r1_len (by rfl) b_len PySem.boot_len (sE_var (pv 0))) (nomark _)) (sE_ix ix_seq r2_ix (sE_var (pv 0)) (sE_var (pv 1)) (fun _ _ => rfl)) (sE_op op_addX r2_add (sE_op op_mulX r2_mul sE_int (sE_var (pv 1))) sE_int)))
 (sF_cons (sS_set (i := 3) sc__law_feed.nd rfl (by first | exact Or.inl rfl | exact Or.inr rfl) (sE_callB2 (call_max2 rfl) r2_max2 (by rfl) b_max boot_max sE_int (sE_op op_sub r2_sub (sE_call1 call_abs r1_abs (by rfl) b_abs boot_abs (sE_var (pv 2))) (sE_op op_pow r2_pow sE_int sE_int))))
 (sF_cons (sS_set (i := 4) sc__law_feed.nd rfl (by first | exact Or.inl rfl | exact Or.inr rfl) (sE_op op_mod r2_mod (sE_callT1 call_int1 r1_int (by rfl) b_int boot_int (sE_op op_addX r2_add (sE_op op_addX r2_add (sE_op op_mulX r2_mul (sE_var (pv 2)) sE_int) (sE_op op_mulX r2_mul sE_int (sE_var (pv 1)))) sE_int)) sE_int))
 (sF_one (sF_ret (sE_lst (sA_cons (sE_var (pv 3)) (sA_cons (sE_var (pv 4)) sA_nil))))))))
abbrev s_law : Stmt := top 43
def N_law : List Str := ["script", "k", "feed", "width", "first", "second", "one", "other"]
theorem sc_law : FnScope N_law ["script"] (defScope s_law) := ⟨rfl, rfl, rfl, by decide +kernel, rfl, by decide +kernel, by decide +kernel⟩
theorem ok_law {f : Addr} {fd : FuncData} {C_Table f_Table___init__ f__law_drawn_rows f__law_drawn_table f__law_feed f__law_is f__law_one_right f__law_pairs_right f__law_pick f__law_statics_right f__law_take f__law_twice_right f__law_width : Addr} {d_Table___init__ d__law_drawn_rows d__law_drawn_table d__law_feed d__law_is d__law_one_right d__law_pairs_right d__law_pick d__law_statics_right d__law_take d__law_twice_right d__law_width : FuncData} (F : Fun K "law" "law" s_law f fd) (b_len : mg "len" = none) (b_min : mg "min" = none) (b_max : mg "max" = none) (b_range : mg "range" = none) (c__law_is : Cal K mg "_law_is" ["table", "width", "arity", "rows"] f__law_is d__law_is) (G__law_is : FnG P w K mg base (L2.CX P w) 3 f__law_is d__law_is ["table", "width", "arity", "rows"] (spF K Γ [false, false, false, false] g__law_is)) (c__law_twice_right : Cal K mg "_law_twice_right" ["feed", "table", "width", "arity", "rows"] f__law_twice_right d__law_twice_right) (G__law_twice_right : FnG P w K mg base (L2.CX P w) 7 f__law_twice_right d__law_twice_right ["feed", "table", "width", "arity", "rows"] (spF K Γ [true, false, false, false, false] g__law_twice_right)) (c__law_statics_right : Cal K mg "_law_statics_right" ["width", "arity"] f__law_statics_right d__law_statics_right) (G__law_statics_right : FnG P w K mg base (L2.CX P w) 8 f__law_statics_right d__law_statics_right ["width", "arity"] (spF K Γ [false, false] g__law_statics_right)) (c__law_one_right : Cal K mg "_law_one_right" ["feed", "table", "width", "arity", "rows"] f__law_one_right d__law_one_right) (G__law_one_right : FnG P w K mg base (L2.CX P w) 8 f__law_one_right d__law_one_right ["feed", "table", "width", "arity", "rows"] (spF K Γ [true, false, false, false, false] g__law_one_right)) (c__law_pairs_right : Cal K mg "_law_pairs_right" ["one", "other", "first", "second"] f__law_pairs_right d__law_pairs_right) (G__law_pairs_right : FnG P w K mg base (L2.CX P w) 8 f__law_pairs_right d__law_pairs_right ["one", "other", "first", "second"] (spF K Γ [false, false, false, false] g__law_pairs_right)) (G_Table___init__ : FnOk P w K mg base (L2.CX P w) 4 f_Table___init__ d_Table___init__ ["self", "width", "arity", "rows"] (spF K Γ [true, false, false, false] g_Table___init__)) (k_Table___init__ : Mk K C_Table f_Table___init__) (bd_Table___init__ : Binds K d_Table___init__ ["self", "width", "arity", "rows"] []) (X_Table : ClsX K Γ mg "Table" C_Table) (b_list : mg "list" = none) (c__law_take : Cal K mg "_law_take" ["feed", "many"] f__law_take d__law_take) (G__law_take : FnOk P w K mg base (L2.CX P w) 1 f__law_take d__law_take ["feed", "many"] (spF K Γ [true, false] g__law_take)) (c__law_drawn_table : Cal K mg "_law_drawn_table" ["feed", "width", "most"] f__law_drawn_table d__law_drawn_table) (G__law_drawn_table : FnOk P w K mg base (L2.CX P w) 4 f__law_drawn_table d__law_drawn_table ["feed", "width", "most"] (spF K Γ [true, false, false] g__law_drawn_table)) (b_tuple : mg "tuple" = none) (c__law_pick : Cal K mg "_law_pick" ["feed", "some"] f__law_pick d__law_pick) (G__law_pick : FnOk P w K mg base (L2.CX P w) 2 f__law_pick d__law_pick ["feed", "some"] (spF K Γ [true, false] g__law_pick)) (c__law_drawn_rows : Cal K mg "_law_drawn_rows" ["feed", "width", "arity", "most"] f__law_drawn_rows d__law_drawn_rows) (G__law_drawn_rows : FnOk P w K mg base (L2.CX P w) 3 f__law_drawn_rows d__law_drawn_rows ["feed", "width", "arity", "most"] (spF K Γ [true, false, false, false] g__law_drawn_rows)) (b_sorted : mg "sorted" = none) (b_set : mg "set" = none) (c__law_width : Cal K mg "_law_width" ["feed"] f__law_width d__law_width) (G__law_width : FnOk P w K mg base (L2.CX P w) 3 f__law_width d__law_width ["feed"] (spF K Γ [true] g__law_width)) (c__law_feed : Cal K mg "_law_feed" ["script", "k"] f__law_feed d__law_feed) (G__law_feed : FnOk P w K mg base (L2.CX P w) 1 f__law_feed d__law_feed ["script", "k"] (spFf K Γ [false, false] g__law_feed)) :
    FnG P w K mg base (L2.CX P w) 9 f fd ["script"] (spF K Γ [false] g_law) :=
  okG (N := N_law) F sc_law rfl (by decide) fun cdv A outer s H E hg hr => by
    have tk : Takes (cxOf (L2.CX P w) P w K mg base N_law "law" (defScope s_law) f cdv A outer s H E) (fun cls d _ H => E cls d H) := takes_of rfl rfl rfl rfl
    exact (sS_cons (sS_for (passes_of rfl) rfl (sI_rng1 (by rfl) b_range (sE_callB2 (call_max2 rfl) r2_max2 (by rfl) b_max boot_max sE_int (sE_callB2 (call_min2 rfl) r2_min2 (by rfl) b_min boot_min sE_int (sE_call1 call_lenX r1_len (by rfl) b_len PySem.boot_len (sE_var (pv 0)))))) (sG_name (pg_name (i := 1) sc_law.nd rfl (by first | exact Or.inl rfl | exact Or.inr rfl))) (sS_cons (sS_setM (i := 2) sc_law.nd rfl (by first | exact Or.inl rfl | exact Or.inr rfl) (sE_callN c__law_feed G__law_feed (hr.mono (by decide)) (by rfl) (fun σ => passAt tk σ) (sR_k (sE_var (pv 0)) (sR_k (sE_var (pv 1)) sR_nil))))
 (sS_cons (sS_set (i := 3) sc_law.nd rfl (by first | exact Or.inl rfl | exact Or.inr rfl) (sE_callO c__law_width G__law_width (hr.mono (by decide)) (by rfl) (fun σ => passAt tk σ) (sR_p (sE_var (pv 2)) sR_nil)))
 (sS_cons (sS_set (i := 4) sc_law.nd rfl (by first | exact Or.inl rfl | exact Or.inr rfl) (sE_op op_addX r2_add (sE_tup (sA_cons (sE_var (pv 3)) sA_nil)) (sE_callT1 call_tuple_of r1_tuple (by rfl) b_tuple boot_tuple (sE_callO c__law_drawn_table G__law_drawn_table (hr.mono (by decide)) (by rfl) (fun σ => passAt tk σ) (sR_p (sE_var (pv 2)) (sR_k (sE_var (pv 3)) (sR_k sE_int sR_nil)))))))
 (sS_cons (sS_set (i := 5) sc_law.nd rfl (by first | exact Or.inl rfl | exact Or.inr rfl) (sE_tup (sA_cons (sE_var (pv 3)) (sA_cons (sE_ix ix_seq r2_ix (sE_var (pv 4)) sE_int (fun _ _ => rfl)) (sA_cons (sE_ss rfl hr.units (by rfl) b_sorted (by rfl) b_set (sE_callO c__law_drawn_rows G__law_drawn_rows (hr.mono (by decide)) (by rfl) (fun σ => passAt tk σ) (sR_p (sE_var (pv 2)) (sR_k (sE_var (pv 3)) (sR_k (sE_ix ix_seq r2_ix (sE_var (pv 4)) sE_int (fun _ _ => rfl)) (sR_k sE_int sR_nil)))))) sA_nil)))))
 (sS_cons (sS_if (sT_cmp (op_eqX hr.units) r2_eqX (sE_callO c__law_take G__law_take (hr.mono (by decide)) (by rfl) (fun σ => passAt tk σ) (sR_p (sE_var (pv 2)) (sR_k sE_int sR_nil))) sE_int (nomark _)) (sS_cons (sS_set (i := 3) sc_law.nd rfl (by first | exact Or.inl rfl | exact Or.inr rfl) (sE_callO c__law_pick G__law_pick (hr.mono (by decide)) (by rfl) (fun σ => passAt tk σ) (sR_p (sE_var (pv 2)) (sR_k (sE_lst (sA_cons (sE_var (pv 3)) (sA_cons sE_int (sA_cons sE_int (sA_cons sE_int sA_nil))))) sR_nil))))
 (sS_one (sS_set (i := 5) sc_law.nd rfl (by first | exact Or.inl rfl | exact Or.inr rfl) (sE_op op_addX r2_add (sE_tup (sA_cons (sE_var (pv 3)) sA_nil)) (sE_callT1 call_tuple_of r1_tuple (by rfl) b_tuple boot_tuple (sE_callO c__law_drawn_table G__law_drawn_table (hr.mono (by decide)) (by rfl) (fun σ => passAt tk σ) (sR_p (sE_var (pv 2)) (sR_k (sE_var (pv 3)) (sR_k sE_int sR_nil))))))))) sS_nil)
 (sS_cons (sS_par (i := 6) (j := 7) rfl sc_law.nd rfl rfl (by decide) rfl rfl (sA_cons (sE_make X_Table.hc rfl k_Table___init__ G_Table___init__ (hr.mono (by decide)) (by rfl) X_Table.g bd_Table___init__ (fun σ => passAt tk σ) (sR_k (sE_ix ix_seq r2_ix (sE_var (pv 4)) sE_int (fun _ _ => rfl)) (sR_k (sE_ix ix_seq r2_ix (sE_var (pv 4)) sE_int (fun _ _ => rfl)) (sR_k (sE_rev (sE_ix ix_seq r2_ix (sE_var (pv 4)) sE_int (fun _ _ => rfl))) sR_nil)))) (sA_cons (sE_make X_Table.hc rfl k_Table___init__ G_Table___init__ (hr.mono (by decide)) (by rfl) X_Table.g bd_Table___init__ (fun σ => passAt tk σ) (sR_k (sE_ix ix_seq r2_ix (sE_var (pv 5)) sE_int (fun _ _ => rfl)) (sR_k (sE_ix ix_seq r2_ix (sE_var (pv 5)) sE_int (fun _ _ => rfl)) (sR_k (sE_callT1 call_list_of r1_list (by rfl) b_list boot_list (sE_ix ix_seq r2_ix (sE_var (pv 5)) sE_int (fun _ _ => rfl))) sR_nil)))) sA_nil)) rfl)
 (sS_cons (sS_if (PW.pt (sW_or (sT_not (sT_tru (sE_callG c__law_pairs_right G__law_pairs_right hg (hr.mono (by decide)) (by rfl) (fun σ => passAt tk σ) (sR_k (sE_var (pv 6)) (sR_k (sE_var (pv 7)) (sR_k (sE_var (pv 4)) (sR_k (sE_var (pv 5)) sR_nil))))))) (sW_or1 (sT_not (sT_tru (sE_callG c__law_pairs_right G__law_pairs_right hg (hr.mono (by decide)) (by rfl) (fun σ => passAt tk σ) (sR_k (sE_var (pv 7)) (sR_k (sE_var (pv 6)) (sR_k (sE_var (pv 5)) (sR_k (sE_var (pv 4)) sR_nil)))))))))) (sS_one (sS_ret sE_bl)) sS_nil)
 (sS_cons (sS_if (sT_not (sT_tru (sE_callG c__law_one_right G__law_one_right hg (hr.mono (by decide)) (by rfl) (fun σ => passAt tk σ) (sR_p (sE_var (pv 2)) (sR_k (sE_var (pv 6)) (sR_k (sE_ix ix_seq r2_ix (sE_var (pv 4)) sE_int (fun _ _ => rfl)) (sR_k (sE_ix ix_seq r2_ix (sE_var (pv 4)) sE_int (fun _ _ => rfl)) (sR_k (sE_ix ix_seq r2_ix (sE_var (pv 4)) sE_int (fun _ _ => rfl)) sR_nil)))))))) (sS_one (sS_ret sE_bl)) sS_nil)
 (sS_cons (sS_if (PW.pt (sW_or (sT_not (sT_tru (sE_callG c__law_statics_right G__law_statics_right hg (hr.mono (by decide)) (by rfl) (fun σ => passAt tk σ) (sR_k (sE_ix ix_seq r2_ix (sE_var (pv 4)) sE_int (fun _ _ => rfl)) (sR_k (sE_ix ix_seq r2_ix (sE_var (pv 5)) sE_int (fun _ _ => rfl)) sR_nil))))) (sW_or1 (sT_not (sT_tru (sE_callG c__law_twice_right G__law_twice_right hg (hr.mono (by decide)) (by rfl) (fun σ => passAt tk σ) (sR_p (sE_var (pv 2)) (sR_k (sE_var (pv 6)) (sR_k (sE_ix ix_seq r2_ix (sE_var (pv 4)) sE_int (fun _ _ => rfl)) (sR_k (sE_ix ix_seq r2_ix (sE_var (pv 4)) sE_int (fun _ _ => rfl)) (sR_k (sE_ix ix_seq r2_ix (sE_var (pv 4)) sE_int (fun _ _ => rfl)) sR_nil))))))))))) (sS_one (sS_ret sE_bl)) sS_nil)
 (sS_one (sS_if (PW.pt (sW_or (sT_not (sT_tru (sE_callG c__law_is G__law_is hg (hr.mono (by decide)) (by rfl) (fun σ => passAt tk σ) (sR_k (sE_var (pv 6)) (sR_k (sE_ix ix_seq r2_ix (sE_var (pv 4)) sE_int (fun _ _ => rfl)) (sR_k (sE_ix ix_seq r2_ix (sE_var (pv 4)) sE_int (fun _ _ => rfl)) (sR_k (sE_ix ix_seq r2_ix (sE_var (pv 4)) sE_int (fun _ _ => rfl)) sR_nil))))))) (sW_or1 (sT_not (sT_tru (sE_callG c__law_is G__law_is hg (hr.mono (by decide)) (by rfl) (fun σ => passAt tk σ) (sR_k (sE_var (pv 7)) (sR_k (sE_ix ix_seq r2_ix (sE_var (pv 5)) sE_int (fun _ _ => rfl)) (sR_k (sE_ix ix_seq r2_ix (sE_var (pv 5)) sE_int (fun _ _ => rfl)) (sR_k (sE_ix ix_seq r2_ix (sE_var (pv 5)) sE_int (fun _ _ => rfl)) sR_nil)))))))))) (sS_one (sS_ret sE_bl)) sS_nil))))))))))))
 (sS_one (sS_ret sE_bl)))
end
end EV
set_option Elab.async false
set_option linter.all false
set_option maxRecDepth 100000
set_option maxHeartbeats 4000000
/-! The classes of the text in a list; what is looked at of them; the end. -/
namespace EV
open PySem PySem.Spec PyProof.Rows L2 PySem.NearX
/-- the classes and the errors of the text, by name -/
def gam (cl el : List (Str × Addr)) : Cls0 := fun c => (cl ++ el).lookup c
theorem look_mem {c : Str} {C : Addr} : ∀ {l : List (Str × Addr)}, l.lookup c = some C → (c, C) ∈ l
  | [], h => by cases h
  | (d, D) :: l, h => by
    rw [List.lookup_cons] at h
    split at h
    · rename_i e
      cases h
      rw [eq_of_beq e]
      exact List.mem_cons_self ..
    · exact List.mem_cons_of_mem _ (look_mem h)
theorem look_here {c : Str} {C : Addr} {l : List (Str × Addr)} : ((c, C) :: l).lookup c = some C := by
  rw [List.lookup_cons, beq_self_eq_true]
theorem look_next {c d : Str} {C D : Addr} {l : List (Str × Addr)} (n : (c == d) = false) (h : l.lookup c = some C) : ((d, D) :: l).lookup c = some C := by
  rw [List.lookup_cons, n]; exact h
structure Names (cl el : List (Str × Addr)) : Prop where
  c : ∀ p ∈ cl, p.1 ∈ clsAll
  e : ∀ p ∈ el, p.1 ∈ errAll
theorem names_of {cl el : List (Str × Addr)} {cn en : List Str} (h1 : cl.map (·.1) = cn) (h2 : el.map (·.1) = en) (h3 : cn.all (fun x => decide (x ∈ clsAll)) = true) (h4 : en.all (fun x => decide (x ∈ errAll)) = true) : Names cl el := by
  subst h1 h2
  rw [List.all_eq_true] at h3 h4
  exact ⟨fun p hp => of_decide_eq_true (h3 _ (List.mem_map_of_mem hp)), fun p hp => of_decide_eq_true (h4 _ (List.mem_map_of_mem hp))⟩
theorem apart : clsAll.all (fun x => decide (x ∉ errAll)) = true := by decide +kernel
section
variable {K : PySem.W.Frag} {cl el : List (Str × Addr)} {c : Str} {C : Addr}
theorem gam_cls (n : Names cl el) (hc : c ∈ clsAll) (h : gam cl el c = some C) : (c, C) ∈ cl := by
  rcases List.mem_append.mp (look_mem h) with m | m
  · exact m
  · exact absurd (n.e _ m) (of_decide_eq_true (List.all_eq_true.mp apart c hc))
theorem gam_err (n : Names cl el) (hc : c ∈ errAll) (h : gam cl el c = some C) : (c, C) ∈ el := by
  rcases List.mem_append.mp (look_mem h) with m | m
  · exact absurd hc (of_decide_eq_true (List.all_eq_true.mp apart c (n.c _ m)))
  · exact m
/-- the classes are plain -/
structure Plain (K : PySem.W.Frag) (cl : List (Str × Addr)) : Prop where
  p : ∀ q ∈ cl, ClsI K q.2
theorem fld_ok {f : Str} (n : Names cl el) (p : Plain K cl) (h : cl.all (fun q => PySem.W.findIn K (.ref q.2) f == some none) = true) : FldOk K (gam cl el) f clsAll := fun c hc C e => by
  have m := gam_cls n hc e
  exact ⟨(p.p _ m).cls, eq_of_beq (List.all_eq_true.mp h _ m)⟩
def isBk (K : PySem.W.Frag) (cl : List (Str × Addr)) (cv : Value) (yes : List String) (cy : List Str) : Bool :=
  (tyNames.all fun n => PySem.W.kitOne K (.type n) cv == some (decide (n ∈ yes))) && cl.all fun q => PySem.W.kitOne K (.ref q.2) cv == some (decide (q.1 ∈ cy))
theorem is_okB {T : Value} {yes : List String} (n : Names cl el) (p : Plain K cl) (h : isBk K cl T yes [] = true) : IsOk K (gam cl el) T (ansB yes) := fun t b ht u hu => by
  unfold isBk at h
  rw [Bool.and_eq_true, List.all_eq_true, List.all_eq_true] at h
  cases t with
  | b m =>
    have ht : (if m ∈ tyNames then some (decide (m ∈ yes)) else none) = some b := ht
    split at ht
    · rename_i hm
      cases ht
      cases hu
      exact ⟨eq_of_beq (h.1 m hm), fun c e => by cases e⟩
    · cases ht
  | o c =>
    have ht : (if c ∈ clsAll then some false else none) = some b := ht
    split at ht
    · rename_i hc
      cases ht
      obtain ⟨C, e, rfl⟩ := Option.map_eq_some_iff.mp (show (gam cl el c).map Value.ref = some u from hu)
      have m := gam_cls n hc e
      refine ⟨?_, fun c' e' C' h' => ?_⟩
      · have := eq_of_beq (h.2 _ m)
        simpa using this
      · cases e'
        exact p.p _ (gam_cls n hc h')
    · cases ht
theorem is_okC {T : Value} {c0 : Str} (n : Names cl el) (p : Plain K cl) (h : isBk K cl T [] [c0] = true) : IsOk K (gam cl el) T (ansC c0) := fun t b ht u hu => by
  unfold isBk at h
  rw [Bool.and_eq_true, List.all_eq_true, List.all_eq_true] at h
  cases t with
  | b m =>
    have ht : (if m ∈ tyNames then some false else none) = some b := ht
    split at ht
    · rename_i hm
      cases ht
      cases hu
      exact ⟨by have := eq_of_beq (h.1 m hm); simpa using this, fun c e => by cases e⟩
    · cases ht
  | o c =>
    have ht : (if c ∈ clsAll then some (decide (c = c0)) else none) = some b := ht
    split at ht
    · rename_i hc
      cases ht
      obtain ⟨C, e, rfl⟩ := Option.map_eq_some_iff.mp (show (gam cl el c).map Value.ref = some u from hu)
      have m := gam_cls n hc e
      refine ⟨?_, fun c' e' C' h' => ?_⟩
      · have := eq_of_beq (h.2 _ m)
        rw [this]
        simp
      · cases e'
        exact p.p _ (gam_cls n hc h')
    · cases ht
def nfB (K : PySem.W.Frag) (cl : List (Str × Addr)) (C : Addr) : Bool := (tyNames.all fun n => PySem.W.notFirst K C (.type n)) && cl.all fun q => PySem.W.notFirst K C (.ref q.2)
theorem nf_ok (n : Names cl el) (p : Plain K cl) (h : nfB K cl C = true) : NfOk K (gam cl el) C okAll := fun t ht u hu => by
  unfold nfB at h
  rw [Bool.and_eq_true, List.all_eq_true, List.all_eq_true] at h
  cases t with
  | b m =>
    cases hu
    exact ⟨h.1 m (of_decide_eq_true ht), fun c e => by cases e⟩
  | o c =>
    have hc : c ∈ clsAll := of_decide_eq_true ht
    obtain ⟨C', e, rfl⟩ := Option.map_eq_some_iff.mp (show (gam cl el c).map Value.ref = some u from hu)
    refine ⟨h.2 _ (gam_cls n hc e), fun c' e' C' h' => ?_⟩
    cases e'
    exact p.p _ (gam_cls n hc h')
def rtB (K : PySem.W.Frag) (C : Addr) (nm : String) : Bool := tyNames.all fun T => (PySem.W.findIn K (.type T) (PySem.dunder nm)).isSome && (PySem.W.findIn K (.type T) (dunderR nm)).isSome && PySem.W.subIn K (.type T) (.ref C) == some false
theorem rt_ok {nm : String} {c0 : Str} (n : Names cl el) (p : Plain K cl) (h0 : gam cl el c0 = some C) (hc0 : c0 ∈ clsAll) (h : rtB K C nm = true) : RtOk K (gam cl el) C nm (okR c0) := fun t ht u hu => by
  unfold rtB at h
  rw [List.all_eq_true] at h
  cases t with
  | b m =>
    cases hu
    have z := h m (of_decide_eq_true ht)
    rw [Bool.and_eq_true, Bool.and_eq_true] at z
    obtain ⟨⟨z1, z2⟩, z3⟩ := z
    obtain ⟨fo, e1⟩ := Option.isSome_iff_exists.mp z1
    obtain ⟨ro, e2⟩ := Option.isSome_iff_exists.mp z2
    exact ⟨.inr ⟨m, rfl, ⟨⟨fo, e1⟩, ⟨ro, e2⟩, eq_of_beq z3⟩⟩, fun c e => by cases e⟩
  | o c =>
    have hc : c = c0 := of_decide_eq_true ht
    subst hc
    have hu : (gam cl el c).map Value.ref = some u := hu
    rw [h0] at hu
    cases hu
    refine ⟨.inl rfl, fun c' e' C' h' => ?_⟩
    cases e'
    exact p.p _ (gam_cls n hc0 h')
def exB (K : PySem.W.Frag) (el : List (Str × Addr)) : Bool := el.all fun p => el.all fun q => PySem.W.exmOne K (.ref p.2) (.ref q.2) == some (decide (p.1 = q.1))
theorem ext_ok (n : Names cl el) (h : exB K el = true) : ExT K (gam cl el) errAll := fun c hc d hd C D e1 e2 => by
  unfold exB at h
  rw [List.all_eq_true] at h
  have := List.all_eq_true.mp (h _ (gam_err n hc e1)) _ (gam_err n hd e2)
  exact eq_of_beq this
end
/-! ### the end -/
theorem noX {P : Program} {w : World} {K : PySem.W.Frag} {mg : Str → Option Value} {base : Heap} {k : Nat} {f : Addr} {fd : FuncData} {ps : List Str} {sp sp' : Sp} (F : FnG P w K mg base (L2.CX P w) k f fd ps sp) (h : ∀ vs H Q E, sp' vs H Q E → sp vs H Q fun _ _ _ => False) : FnG P w K mg base CX0 k f fd ps sp' :=
  ⟨fun vs H Q E z => F.len _ _ _ _ (h vs H Q E z), fun A hA outer s H args us vs Q E hr h0 hb hv hs => codeAny_mono (F.go A hA outer s H args us vs Q _ hr h0 hb hv (h vs H Q E hs)) fun r s' z => by
    cases r with
    | ok c => cases c <;> exact z
    | error e =>
      obtain ⟨a, B, H', cls, d, _, _, _, _, _, _, _, hF⟩ := z
      exact hF.elim⟩
/-- the law told of a script -/
def spLaw63 (K : PySem.W.Frag) : Sp := fun vs H Q _ => ∃ (a : Addr) (ns : List Int), vs = [.ref a] ∧ SqL K H a (ns.map V.int) ∧ ns.length ≤ 63 ∧ ∀ H', Q (.bl true) H'
theorem sp_law {K : PySem.W.Frag} {Γ : Cls0} {g : List D → Out D} (hp : ∀ ns : List Int, ns.length ≤ 63 → ∃ ea, g [.scr ns] = .ok (.bl true) ea) : ∀ vs H Q E, spLaw63 K vs H Q E → spF K Γ [false] g vs H Q fun _ _ _ => False := by
  rintro vs H Q E ⟨a, ns, rfl, hS, hl, hq⟩
  obtain ⟨ea, hg⟩ := hp ns hl
  refine pure_sp (ds := [.scr ns]) rfl rfl (.cons (.scr hS) .nil) hg fun v H' s r => ?_
  cases r
  exact hq H'
end EV
set_option Elab.async false
set_option linter.all false
set_option maxRecDepth 100000
set_option maxHeartbeats 8000000
namespace EV
open PySem PySem.Spec PyProof.Rows L2 PySem.NearX
theorem all_mk {l : PySem.W.OpenLaw} {w : World} {K : PySem.W.Frag} {h : Heap} {mg : Str → Option Value} {fa : Addr} (X : K.In h) (G : h.Ns mainGlobals mg) (hfa : mg "law" = some (.ref fa)) (hl : l.prog = PySem.Challenge.pw_nearsettled_k02_tables_made_of_others)
    {C_Table C_BadArity C_BadOrder C_BadRow C_BadSpots C_BadWidth C_NoList C_Unlike f_Table_rows f__law_is f_is_between f_is_below f_is_row f_check_arity f_check_width f_Table___init__ f_check_order f_Table_renamed f_Table_glued f_Table_seen f__law_take f__law_pick f__law_all f__law_twice_right f_Table_equal f_Table_only f__tuple_after f_all_tuples f_Table_full f__law_static f__law_statics_right f__law_asked f_Table___eq__ f__law_odd_orders f__law_one_right f_Table___mul__ f__law_behind f_Table___contains__ f_Table___and__ f__law_both f__law_pairs_right f__law_drawn_row f__law_drawn_rows f__law_known_tables f__law_drawn_table f__law_width f__law_feed f_law i_BadRow pr_Table_rows st_Table_equal st_Table_full st_Table_only : Addr}
    {t_GREATEST_ARITY t_GREATEST_WIDTH : Tok}
    {rest_Table_rows srest_Table_equal srest_Table_full srest_Table_only : List Value}
    {od_Table_rows an_Table_rows od__law_is an__law_is od_is_between an_is_between od_is_below an_is_below od_is_row an_is_row od_check_arity an_check_arity od_check_width an_check_width od_Table___init__ an_Table___init__ od_check_order an_check_order od_Table_renamed an_Table_renamed od_Table_glued an_Table_glued od_Table_seen an_Table_seen od__law_take an__law_take od__law_pick an__law_pick od__law_all an__law_all od__law_twice_right an__law_twice_right od_Table_equal an_Table_equal od_Table_only an_Table_only od__tuple_after an__tuple_after od_all_tuples an_all_tuples od_Table_full an_Table_full od__law_static an__law_static od__law_statics_right an__law_statics_right od__law_asked an__law_asked od_Table___eq__ an_Table___eq__ od__law_odd_orders an__law_odd_orders od__law_one_right an__law_one_right od_Table___mul__ an_Table___mul__ od__law_behind an__law_behind od_Table___contains__ an_Table___contains__ od_Table___and__ an_Table___and__ od__law_both an__law_both od__law_pairs_right an__law_pairs_right od__law_drawn_row an__law_drawn_row od__law_drawn_rows an__law_drawn_rows od__law_known_tables an__law_known_tables od__law_drawn_table an__law_drawn_table od__law_width an__law_width od__law_feed an__law_feed od_law an_law : Option Addr} {sl_Table_rows sl__law_is sl_is_between sl_is_below sl_is_row sl_check_arity sl_check_width sl_Table___init__ sl_check_order sl_Table_renamed sl_Table_glued sl_Table_seen sl__law_take sl__law_pick sl__law_all sl__law_twice_right sl_Table_equal sl_Table_only sl__tuple_after sl_all_tuples sl_Table_full sl__law_static sl__law_statics_right sl__law_asked sl_Table___eq__ sl__law_odd_orders sl__law_one_right sl_Table___mul__ sl__law_behind sl_Table___contains__ sl_Table___and__ sl__law_both sl__law_pairs_right sl__law_drawn_row sl__law_drawn_rows sl__law_known_tables sl__law_drawn_table sl__law_width sl__law_feed sl_law : Array (Option Value)} {oc_Table_rows kV_Table_rows dc_Table_rows pm_Table_rows cd_Table_rows ct_Table_rows oc__law_is kV__law_is dc__law_is pm__law_is cd__law_is ct__law_is oc_is_between kV_is_between dc_is_between pm_is_between cd_is_between ct_is_between oc_is_below kV_is_below dc_is_below pm_is_below cd_is_below ct_is_below oc_is_row kV_is_row dc_is_row pm_is_row cd_is_row ct_is_row oc_check_arity kV_check_arity dc_check_arity pm_check_arity cd_check_arity ct_check_arity oc_check_width kV_check_width dc_check_width pm_check_width cd_check_width ct_check_width oc_Table___init__ kV_Table___init__ dc_Table___init__ pm_Table___init__ cd_Table___init__ ct_Table___init__ oc_check_order kV_check_order dc_check_order pm_check_order cd_check_order ct_check_order oc_Table_renamed kV_Table_renamed dc_Table_renamed pm_Table_renamed cd_Table_renamed ct_Table_renamed oc_Table_glued kV_Table_glued dc_Table_glued pm_Table_glued cd_Table_glued ct_Table_glued oc_Table_seen kV_Table_seen dc_Table_seen pm_Table_seen cd_Table_seen ct_Table_seen oc__law_take kV__law_take dc__law_take pm__law_take cd__law_take ct__law_take oc__law_pick kV__law_pick dc__law_pick pm__law_pick cd__law_pick ct__law_pick oc__law_all kV__law_all dc__law_all pm__law_all cd__law_all ct__law_all oc__law_twice_right kV__law_twice_right dc__law_twice_right pm__law_twice_right cd__law_twice_right ct__law_twice_right oc_Table_equal kV_Table_equal dc_Table_equal pm_Table_equal cd_Table_equal ct_Table_equal oc_Table_only kV_Table_only dc_Table_only pm_Table_only cd_Table_only ct_Table_only oc__tuple_after kV__tuple_after dc__tuple_after pm__tuple_after cd__tuple_after ct__tuple_after oc_all_tuples kV_all_tuples dc_all_tuples pm_all_tuples cd_all_tuples ct_all_tuples oc_Table_full kV_Table_full dc_Table_full pm_Table_full cd_Table_full ct_Table_full oc__law_static kV__law_static dc__law_static pm__law_static cd__law_static ct__law_static oc__law_statics_right kV__law_statics_right dc__law_statics_right pm__law_statics_right cd__law_statics_right ct__law_statics_right oc__law_asked kV__law_asked dc__law_asked pm__law_asked cd__law_asked ct__law_asked oc_Table___eq__ kV_Table___eq__ dc_Table___eq__ pm_Table___eq__ cd_Table___eq__ ct_Table___eq__ oc__law_odd_orders kV__law_odd_orders dc__law_odd_orders pm__law_odd_orders cd__law_odd_orders ct__law_odd_orders oc__law_one_right kV__law_one_right dc__law_one_right pm__law_one_right cd__law_one_right ct__law_one_right oc_Table___mul__ kV_Table___mul__ dc_Table___mul__ pm_Table___mul__ cd_Table___mul__ ct_Table___mul__ oc__law_behind kV__law_behind dc__law_behind pm__law_behind cd__law_behind ct__law_behind oc_Table___contains__ kV_Table___contains__ dc_Table___contains__ pm_Table___contains__ cd_Table___contains__ ct_Table___contains__ oc_Table___and__ kV_Table___and__ dc_Table___and__ pm_Table___and__ cd_Table___and__ ct_Table___and__ oc__law_both kV__law_both dc__law_both pm__law_both cd__law_both ct__law_both oc__law_pairs_right kV__law_pairs_right dc__law_pairs_right pm__law_pairs_right cd__law_pairs_right ct__law_pairs_right oc__law_drawn_row kV__law_drawn_row dc__law_drawn_row pm__law_drawn_row cd__law_drawn_row ct__law_drawn_row oc__law_drawn_rows kV__law_drawn_rows dc__law_drawn_rows pm__law_drawn_rows cd__law_drawn_rows ct__law_drawn_rows oc__law_known_tables kV__law_known_tables dc__law_known_tables pm__law_known_tables cd__law_known_tables ct__law_known_tables oc__law_drawn_table kV__law_drawn_table dc__law_drawn_table pm__law_drawn_table cd__law_drawn_table ct__law_drawn_table oc__law_width kV__law_width dc__law_width pm__law_width cd__law_width ct__law_width oc__law_feed kV__law_feed dc__law_feed pm__law_feed cd__law_feed ct__law_feed oc_law kV_law dc_law pm_law cd_law ct_law : Value}
    {cda_BadRow cc_BadRow N_BadRow : Addr} {tf_BadRow : Tok} {nm_BadRow q_BadRow file_BadRow : Str} {bs_BadRow bm_BadRow sub_BadRow : List Value} {sn_BadRow : List Str} {ab_BadRow : Bool} {col_BadRow : Option Bool} {dd_BadRow id_BadRow ian_BadRow cdd_BadRow ced_BadRow : Option Addr} {m0_BadRow m1_BadRow m2_BadRow m3_BadRow m5_BadRow : Option Value} {io_BadRow icdc_BadRow ipm_BadRow ict_BadRow cdc_BadRow cec_BadRow : Value} {isl_BadRow cdl_BadRow cel_BadRow : Array (Option Value)} {cvs_BadRow : Array Value}
    (a_Table : PySem.W.nsIn K mainGlobals "Table" = some (some (.ref C_Table)))
    (a_BadArity : PySem.W.nsIn K mainGlobals "BadArity" = some (some (.ref C_BadArity)))
    (a_BadOrder : PySem.W.nsIn K mainGlobals "BadOrder" = some (some (.ref C_BadOrder)))
    (a_BadRow : PySem.W.nsIn K mainGlobals "BadRow" = some (some (.ref C_BadRow)))
    (a_BadSpots : PySem.W.nsIn K mainGlobals "BadSpots" = some (some (.ref C_BadSpots)))
    (a_BadWidth : PySem.W.nsIn K mainGlobals "BadWidth" = some (some (.ref C_BadWidth)))
    (a_NoList : PySem.W.nsIn K mainGlobals "NoList" = some (some (.ref C_NoList)))
    (a_Unlike : PySem.W.nsIn K mainGlobals "Unlike" = some (some (.ref C_Unlike)))
    (pat_Table_rows : PySem.W.findIn K (.ref C_Table) "rows" = some (some (.ref pr_Table_rows)))
    (sat_Table_equal : PySem.W.findCls K (.ref C_Table) (.type "type") "equal" = some (.get (.builtin "staticmethod.__get__") (.ref st_Table_equal) .none (.ref C_Table)))
    (sat_Table_full : PySem.W.findCls K (.ref C_Table) (.type "type") "full" = some (.get (.builtin "staticmethod.__get__") (.ref st_Table_full) .none (.ref C_Table)))
    (sat_Table_only : PySem.W.findCls K (.ref C_Table) (.type "type") "only" = some (.get (.builtin "staticmethod.__get__") (.ref st_Table_only) .none (.ref C_Table)))
    (prc_Table_rows : PySem.W.recIn K pr_Table_rows "property" = some (.ref f_Table_rows :: rest_Table_rows))
    (src_Table_equal : PySem.W.recIn K st_Table_equal "staticmethod" = some (.ref f_Table_equal :: srest_Table_equal))
    (src_Table_full : PySem.W.recIn K st_Table_full "staticmethod" = some (.ref f_Table_full :: srest_Table_full))
    (src_Table_only : PySem.W.recIn K st_Table_only "staticmethod" = some (.ref f_Table_only :: srest_Table_only))
    (g__law_is_ : PySem.W.nsIn K mainGlobals "_law_is" = some (some (.ref f__law_is)))
    (g_is_between_ : PySem.W.nsIn K mainGlobals "is_between" = some (some (.ref f_is_between)))
    (g_is_below_ : PySem.W.nsIn K mainGlobals "is_below" = some (some (.ref f_is_below)))
    (g_is_row_ : PySem.W.nsIn K mainGlobals "is_row" = some (some (.ref f_is_row)))
    (g_check_arity_ : PySem.W.nsIn K mainGlobals "check_arity" = some (some (.ref f_check_arity)))
    (g_check_width_ : PySem.W.nsIn K mainGlobals "check_width" = some (some (.ref f_check_width)))
    (g_check_order_ : PySem.W.nsIn K mainGlobals "check_order" = some (some (.ref f_check_order)))
    (g__law_take_ : PySem.W.nsIn K mainGlobals "_law_take" = some (some (.ref f__law_take)))
    (g__law_pick_ : PySem.W.nsIn K mainGlobals "_law_pick" = some (some (.ref f__law_pick)))
    (g__law_all_ : PySem.W.nsIn K mainGlobals "_law_all" = some (some (.ref f__law_all)))
    (g__law_twice_right_ : PySem.W.nsIn K mainGlobals "_law_twice_right" = some (some (.ref f__law_twice_right)))
    (g__tuple_after_ : PySem.W.nsIn K mainGlobals "_tuple_after" = some (some (.ref f__tuple_after)))
    (g_all_tuples_ : PySem.W.nsIn K mainGlobals "all_tuples" = some (some (.ref f_all_tuples)))
    (g__law_static_ : PySem.W.nsIn K mainGlobals "_law_static" = some (some (.ref f__law_static)))
    (g__law_statics_right_ : PySem.W.nsIn K mainGlobals "_law_statics_right" = some (some (.ref f__law_statics_right)))
    (g__law_asked_ : PySem.W.nsIn K mainGlobals "_law_asked" = some (some (.ref f__law_asked)))
    (g__law_odd_orders_ : PySem.W.nsIn K mainGlobals "_law_odd_orders" = some (some (.ref f__law_odd_orders)))
    (g__law_one_right_ : PySem.W.nsIn K mainGlobals "_law_one_right" = some (some (.ref f__law_one_right)))
    (g__law_behind_ : PySem.W.nsIn K mainGlobals "_law_behind" = some (some (.ref f__law_behind)))
    (g__law_both_ : PySem.W.nsIn K mainGlobals "_law_both" = some (some (.ref f__law_both)))
    (g__law_pairs_right_ : PySem.W.nsIn K mainGlobals "_law_pairs_right" = some (some (.ref f__law_pairs_right)))
    (g__law_drawn_row_ : PySem.W.nsIn K mainGlobals "_law_drawn_row" = some (some (.ref f__law_drawn_row)))
    (g__law_drawn_rows_ : PySem.W.nsIn K mainGlobals "_law_drawn_rows" = some (some (.ref f__law_drawn_rows)))
    (g__law_known_tables_ : PySem.W.nsIn K mainGlobals "_law_known_tables" = some (some (.ref f__law_known_tables)))
    (g__law_drawn_table_ : PySem.W.nsIn K mainGlobals "_law_drawn_table" = some (some (.ref f__law_drawn_table)))
    (g__law_width_ : PySem.W.nsIn K mainGlobals "_law_width" = some (some (.ref f__law_width)))
    (g__law_feed_ : PySem.W.nsIn K mainGlobals "_law_feed" = some (some (.ref f__law_feed)))
    (g_law_ : PySem.W.nsIn K mainGlobals "law" = some (some (.ref f_law)))
    (ic_BadRow : PySem.W.findIn K (.ref C_BadRow) "__init__" = some (some (.ref i_BadRow)))
    (at_Table___and__ : PySem.W.findIn K (.ref C_Table) "__and__" = some (some (.ref f_Table___and__)))
    (at_Table___contains__ : PySem.W.findIn K (.ref C_Table) "__contains__" = some (some (.ref f_Table___contains__)))
    (at_Table___eq__ : PySem.W.findIn K (.ref C_Table) "__eq__" = some (some (.ref f_Table___eq__)))
    (at_Table___mul__ : PySem.W.findIn K (.ref C_Table) "__mul__" = some (some (.ref f_Table___mul__)))
    (at_Table___init__ : PySem.W.findIn K (.ref C_Table) "__init__" = some (some (.ref f_Table___init__)))
    (at_Table_glued : PySem.W.findIn K (.ref C_Table) "glued" = some (some (.ref f_Table_glued)))
    (at_Table_renamed : PySem.W.findIn K (.ref C_Table) "renamed" = some (some (.ref f_Table_renamed)))
    (at_Table_seen : PySem.W.findIn K (.ref C_Table) "seen" = some (some (.ref f_Table_seen)))
    (vv_GREATEST_ARITY : PySem.W.nsIn K mainGlobals "GREATEST_ARITY" = some (some (.int 3 t_GREATEST_ARITY)))
    (vv_GREATEST_WIDTH : PySem.W.nsIn K mainGlobals "GREATEST_WIDTH" = some (some (.int 3 t_GREATEST_WIDTH)))
    (xl_BadRow : K.lookup C_BadRow = some (excClassObj nm_BadRow q_BadRow C_BadRow N_BadRow bs_BadRow bm_BadRow true sn_BadRow sub_BadRow ab_BadRow col_BadRow dd_BadRow m0_BadRow m1_BadRow m2_BadRow m3_BadRow m5_BadRow "ValueError.__new__"))
    (l_Table_rows : K.lookup f_Table_rows = some ⟨oc_Table_rows, od_Table_rows, .func (PySem.W.fnOf "rows" "Table.rows" (defArgs s_Table_rows) (defBody s_Table_rows) (defScope s_Table_rows) .none kV_Table_rows dc_Table_rows pm_Table_rows an_Table_rows cd_Table_rows ct_Table_rows), sl_Table_rows⟩)
    (l__law_is : K.lookup f__law_is = some ⟨oc__law_is, od__law_is, .func (PySem.W.fnOf "_law_is" "_law_is" (defArgs s__law_is) (defBody s__law_is) (defScope s__law_is) .none kV__law_is dc__law_is pm__law_is an__law_is cd__law_is ct__law_is), sl__law_is⟩)
    (l_is_between : K.lookup f_is_between = some ⟨oc_is_between, od_is_between, .func (PySem.W.fnOf "is_between" "is_between" (defArgs s_is_between) (defBody s_is_between) (defScope s_is_between) .none kV_is_between dc_is_between pm_is_between an_is_between cd_is_between ct_is_between), sl_is_between⟩)
    (l_is_below : K.lookup f_is_below = some ⟨oc_is_below, od_is_below, .func (PySem.W.fnOf "is_below" "is_below" (defArgs s_is_below) (defBody s_is_below) (defScope s_is_below) .none kV_is_below dc_is_below pm_is_below an_is_below cd_is_below ct_is_below), sl_is_below⟩)
    (l_is_row : K.lookup f_is_row = some ⟨oc_is_row, od_is_row, .func (PySem.W.fnOf "is_row" "is_row" (defArgs s_is_row) (defBody s_is_row) (defScope s_is_row) .none kV_is_row dc_is_row pm_is_row an_is_row cd_is_row ct_is_row), sl_is_row⟩)
    (l_check_arity : K.lookup f_check_arity = some ⟨oc_check_arity, od_check_arity, .func (PySem.W.fnOf "check_arity" "check_arity" (defArgs s_check_arity) (defBody s_check_arity) (defScope s_check_arity) .none kV_check_arity dc_check_arity pm_check_arity an_check_arity cd_check_arity ct_check_arity), sl_check_arity⟩)
    (l_check_width : K.lookup f_check_width = some ⟨oc_check_width, od_check_width, .func (PySem.W.fnOf "check_width" "check_width" (defArgs s_check_width) (defBody s_check_width) (defScope s_check_width) .none kV_check_width dc_check_width pm_check_width an_check_width cd_check_width ct_check_width), sl_check_width⟩)
    (l_Table___init__ : K.lookup f_Table___init__ = some ⟨oc_Table___init__, od_Table___init__, .func (PySem.W.fnOf "__init__" "Table.__init__" (defArgs s_Table___init__) (defBody s_Table___init__) (defScope s_Table___init__) .none kV_Table___init__ dc_Table___init__ pm_Table___init__ an_Table___init__ cd_Table___init__ ct_Table___init__), sl_Table___init__⟩)
    (l_check_order : K.lookup f_check_order = some ⟨oc_check_order, od_check_order, .func (PySem.W.fnOf "check_order" "check_order" (defArgs s_check_order) (defBody s_check_order) (defScope s_check_order) .none kV_check_order dc_check_order pm_check_order an_check_order cd_check_order ct_check_order), sl_check_order⟩)
    (l_Table_renamed : K.lookup f_Table_renamed = some ⟨oc_Table_renamed, od_Table_renamed, .func (PySem.W.fnOf "renamed" "Table.renamed" (defArgs s_Table_renamed) (defBody s_Table_renamed) (defScope s_Table_renamed) .none kV_Table_renamed dc_Table_renamed pm_Table_renamed an_Table_renamed cd_Table_renamed ct_Table_renamed), sl_Table_renamed⟩)
    (l_Table_glued : K.lookup f_Table_glued = some ⟨oc_Table_glued, od_Table_glued, .func (PySem.W.fnOf "glued" "Table.glued" (defArgs s_Table_glued) (defBody s_Table_glued) (defScope s_Table_glued) .none kV_Table_glued dc_Table_glued pm_Table_glued an_Table_glued cd_Table_glued ct_Table_glued), sl_Table_glued⟩)
    (l_Table_seen : K.lookup f_Table_seen = some ⟨oc_Table_seen, od_Table_seen, .func (PySem.W.fnOf "seen" "Table.seen" (defArgs s_Table_seen) (defBody s_Table_seen) (defScope s_Table_seen) .none kV_Table_seen dc_Table_seen pm_Table_seen an_Table_seen cd_Table_seen ct_Table_seen), sl_Table_seen⟩)
    (l__law_take : K.lookup f__law_take = some ⟨oc__law_take, od__law_take, .func (PySem.W.fnOf "_law_take" "_law_take" (defArgs s__law_take) (defBody s__law_take) (defScope s__law_take) .none kV__law_take dc__law_take pm__law_take an__law_take cd__law_take ct__law_take), sl__law_take⟩)
    (l__law_pick : K.lookup f__law_pick = some ⟨oc__law_pick, od__law_pick, .func (PySem.W.fnOf "_law_pick" "_law_pick" (defArgs s__law_pick) (defBody s__law_pick) (defScope s__law_pick) .none kV__law_pick dc__law_pick pm__law_pick an__law_pick cd__law_pick ct__law_pick), sl__law_pick⟩)
    (l__law_all : K.lookup f__law_all = some ⟨oc__law_all, od__law_all, .func (PySem.W.fnOf "_law_all" "_law_all" (defArgs s__law_all) (defBody s__law_all) (defScope s__law_all) .none kV__law_all dc__law_all pm__law_all an__law_all cd__law_all ct__law_all), sl__law_all⟩)
    (l__law_twice_right : K.lookup f__law_twice_right = some ⟨oc__law_twice_right, od__law_twice_right, .func (PySem.W.fnOf "_law_twice_right" "_law_twice_right" (defArgs s__law_twice_right) (defBody s__law_twice_right) (defScope s__law_twice_right) .none kV__law_twice_right dc__law_twice_right pm__law_twice_right an__law_twice_right cd__law_twice_right ct__law_twice_right), sl__law_twice_right⟩)
    (l_Table_equal : K.lookup f_Table_equal = some ⟨oc_Table_equal, od_Table_equal, .func (PySem.W.fnOf "equal" "Table.equal" (defArgs s_Table_equal) (defBody s_Table_equal) (defScope s_Table_equal) .none kV_Table_equal dc_Table_equal pm_Table_equal an_Table_equal cd_Table_equal ct_Table_equal), sl_Table_equal⟩)
    (l_Table_only : K.lookup f_Table_only = some ⟨oc_Table_only, od_Table_only, .func (PySem.W.fnOf "only" "Table.only" (defArgs s_Table_only) (defBody s_Table_only) (defScope s_Table_only) .none kV_Table_only dc_Table_only pm_Table_only an_Table_only cd_Table_only ct_Table_only), sl_Table_only⟩)
    (l__tuple_after : K.lookup f__tuple_after = some ⟨oc__tuple_after, od__tuple_after, .func (PySem.W.fnOf "_tuple_after" "_tuple_after" (defArgs s__tuple_after) (defBody s__tuple_after) (defScope s__tuple_after) .none kV__tuple_after dc__tuple_after pm__tuple_after an__tuple_after cd__tuple_after ct__tuple_after), sl__tuple_after⟩)
    (l_all_tuples : K.lookup f_all_tuples = some ⟨oc_all_tuples, od_all_tuples, .func (PySem.W.fnOf "all_tuples" "all_tuples" (defArgs s_all_tuples) (defBody s_all_tuples) (defScope s_all_tuples) .none kV_all_tuples dc_all_tuples pm_all_tuples an_all_tuples cd_all_tuples ct_all_tuples), sl_all_tuples⟩)
    (l_Table_full : K.lookup f_Table_full = some ⟨oc_Table_full, od_Table_full, .func (PySem.W.fnOf "full" "Table.full" (defArgs s_Table_full) (defBody s_Table_full) (defScope s_Table_full) .none kV_Table_full dc_Table_full pm_Table_full an_Table_full cd_Table_full ct_Table_full), sl_Table_full⟩)
    (l__law_static : K.lookup f__law_static = some ⟨oc__law_static, od__law_static, .func (PySem.W.fnOf "_law_static" "_law_static" (defArgs s__law_static) (defBody s__law_static) (defScope s__law_static) .none kV__law_static dc__law_static pm__law_static an__law_static cd__law_static ct__law_static), sl__law_static⟩)
    (l__law_statics_right : K.lookup f__law_statics_right = some ⟨oc__law_statics_right, od__law_statics_right, .func (PySem.W.fnOf "_law_statics_right" "_law_statics_right" (defArgs s__law_statics_right) (defBody s__law_statics_right) (defScope s__law_statics_right) .none kV__law_statics_right dc__law_statics_right pm__law_statics_right an__law_statics_right cd__law_statics_right ct__law_statics_right), sl__law_statics_right⟩)
    (l__law_asked : K.lookup f__law_asked = some ⟨oc__law_asked, od__law_asked, .func (PySem.W.fnOf "_law_asked" "_law_asked" (defArgs s__law_asked) (defBody s__law_asked) (defScope s__law_asked) .none kV__law_asked dc__law_asked pm__law_asked an__law_asked cd__law_asked ct__law_asked), sl__law_asked⟩)
    (l_Table___eq__ : K.lookup f_Table___eq__ = some ⟨oc_Table___eq__, od_Table___eq__, .func (PySem.W.fnOf "__eq__" "Table.__eq__" (defArgs s_Table___eq__) (defBody s_Table___eq__) (defScope s_Table___eq__) .none kV_Table___eq__ dc_Table___eq__ pm_Table___eq__ an_Table___eq__ cd_Table___eq__ ct_Table___eq__), sl_Table___eq__⟩)
    (l__law_odd_orders : K.lookup f__law_odd_orders = some ⟨oc__law_odd_orders, od__law_odd_orders, .func (PySem.W.fnOf "_law_odd_orders" "_law_odd_orders" (defArgs s__law_odd_orders) (defBody s__law_odd_orders) (defScope s__law_odd_orders) .none kV__law_odd_orders dc__law_odd_orders pm__law_odd_orders an__law_odd_orders cd__law_odd_orders ct__law_odd_orders), sl__law_odd_orders⟩)
    (l__law_one_right : K.lookup f__law_one_right = some ⟨oc__law_one_right, od__law_one_right, .func (PySem.W.fnOf "_law_one_right" "_law_one_right" (defArgs s__law_one_right) (defBody s__law_one_right) (defScope s__law_one_right) .none kV__law_one_right dc__law_one_right pm__law_one_right an__law_one_right cd__law_one_right ct__law_one_right), sl__law_one_right⟩)
    (l_Table___mul__ : K.lookup f_Table___mul__ = some ⟨oc_Table___mul__, od_Table___mul__, .func (PySem.W.fnOf "__mul__" "Table.__mul__" (defArgs s_Table___mul__) (defBody s_Table___mul__) (defScope s_Table___mul__) .none kV_Table___mul__ dc_Table___mul__ pm_Table___mul__ an_Table___mul__ cd_Table___mul__ ct_Table___mul__), sl_Table___mul__⟩)
    (l__law_behind : K.lookup f__law_behind = some ⟨oc__law_behind, od__law_behind, .func (PySem.W.fnOf "_law_behind" "_law_behind" (defArgs s__law_behind) (defBody s__law_behind) (defScope s__law_behind) .none kV__law_behind dc__law_behind pm__law_behind an__law_behind cd__law_behind ct__law_behind), sl__law_behind⟩)
    (l_Table___contains__ : K.lookup f_Table___contains__ = some ⟨oc_Table___contains__, od_Table___contains__, .func (PySem.W.fnOf "__contains__" "Table.__contains__" (defArgs s_Table___contains__) (defBody s_Table___contains__) (defScope s_Table___contains__) .none kV_Table___contains__ dc_Table___contains__ pm_Table___contains__ an_Table___contains__ cd_Table___contains__ ct_Table___contains__), sl_Table___contains__⟩)
    (l_Table___and__ : K.lookup f_Table___and__ = some ⟨oc_Table___and__, od_Table___and__, .func (PySem.W.fnOf "__and__" "Table.__and__" (defArgs s_Table___and__) (defBody s_Table___and__) (defScope s_Table___and__) .none kV_Table___and__ dc_Table___and__ pm_Table___and__ an_Table___and__ cd_Table___and__ ct_Table___and__), sl_Table___and__⟩)
    (l__law_both : K.lookup f__law_both = some ⟨oc__law_both, od__law_both, .func (PySem.W.fnOf "_law_both" "_law_both" (defArgs s__law_both) (defBody s__law_both) (defScope s__law_both) .none kV__law_both dc__law_both pm__law_both an__law_both cd__law_both ct__law_both), sl__law_both⟩)
    (l__law_pairs_right : K.lookup f__law_pairs_right = some ⟨oc__law_pairs_right, od__law_pairs_right, .func (PySem.W.fnOf "_law_pairs_right" "_law_pairs_right" (defArgs s__law_pairs_right) (defBody s__law_pairs_right) (defScope s__law_pairs_right) .none kV__law_pairs_right dc__law_pairs_right pm__law_pairs_right an__law_pairs_right cd__law_pairs_right ct__law_pairs_right), sl__law_pairs_right⟩)
    (l__law_drawn_row : K.lookup f__law_drawn_row = some ⟨oc__law_drawn_row, od__law_drawn_row, .func (PySem.W.fnOf "_law_drawn_row" "_law_drawn_row" (defArgs s__law_drawn_row) (defBody s__law_drawn_row) (defScope s__law_drawn_row) .none kV__law_drawn_row dc__law_drawn_row pm__law_drawn_row an__law_drawn_row cd__law_drawn_row ct__law_drawn_row), sl__law_drawn_row⟩)
    (l__law_drawn_rows : K.lookup f__law_drawn_rows = some ⟨oc__law_drawn_rows, od__law_drawn_rows, .func (PySem.W.fnOf "_law_drawn_rows" "_law_drawn_rows" (defArgs s__law_drawn_rows) (defBody s__law_drawn_rows) (defScope s__law_drawn_rows) .none kV__law_drawn_rows dc__law_drawn_rows pm__law_drawn_rows an__law_drawn_rows cd__law_drawn_rows ct__law_drawn_rows), sl__law_drawn_rows⟩)
    (l__law_known_tables : K.lookup f__law_known_tables = some ⟨oc__law_known_tables, od__law_known_tables, .func (PySem.W.fnOf "_law_known_tables" "_law_known_tables" (defArgs s__law_known_tables) (defBody s__law_known_tables) (defScope s__law_known_tables) .none kV__law_known_tables dc__law_known_tables pm__law_known_tables an__law_known_tables cd__law_known_tables ct__law_known_tables), sl__law_known_tables⟩)
    (l__law_drawn_table : K.lookup f__law_drawn_table = some ⟨oc__law_drawn_table, od__law_drawn_table, .func (PySem.W.fnOf "_law_drawn_table" "_law_drawn_table" (defArgs s__law_drawn_table) (defBody s__law_drawn_table) (defScope s__law_drawn_table) .none kV__law_drawn_table dc__law_drawn_table pm__law_drawn_table an__law_drawn_table cd__law_drawn_table ct__law_drawn_table), sl__law_drawn_table⟩)
    (l__law_width : K.lookup f__law_width = some ⟨oc__law_width, od__law_width, .func (PySem.W.fnOf "_law_width" "_law_width" (defArgs s__law_width) (defBody s__law_width) (defScope s__law_width) .none kV__law_width dc__law_width pm__law_width an__law_width cd__law_width ct__law_width), sl__law_width⟩)
    (l__law_feed : K.lookup f__law_feed = some ⟨oc__law_feed, od__law_feed, .func (PySem.W.fnOf "_law_feed" "_law_feed" (defArgs s__law_feed) (defBody s__law_feed) (defScope s__law_feed) .none kV__law_feed dc__law_feed pm__law_feed an__law_feed cd__law_feed ct__law_feed), sl__law_feed⟩)
    (l_law : K.lookup f_law = some ⟨oc_law, od_law, .func (PySem.W.fnOf "law" "law" (defArgs s_law) (defBody s_law) (defScope s_law) .none kV_law dc_law pm_law an_law cd_law ct_law), sl_law⟩)
    (li_BadRow : K.lookup i_BadRow = some ⟨io_BadRow, id_BadRow, .func (PySem.W.ksFn "__init__" "BadRow.__init__" (defArgs s_BadRow) (defBody s_BadRow) (defScope s_BadRow) .none .none icdc_BadRow ipm_BadRow ian_BadRow (.ref cda_BadRow) ict_BadRow cc_BadRow), isl_BadRow⟩)
    (cdx_BadRow : K.lookup cda_BadRow = some ⟨cdc_BadRow, cdd_BadRow, .fields cvs_BadRow, cdl_BadRow⟩)
    (vs_BadRow : cvs_BadRow[2]? = some (.str file_BadRow tf_BadRow))
    (ce_BadRow : K.lookup cc_BadRow = some ⟨cec_BadRow, ced_BadRow, .cell (some (.ref C_BadRow)), cel_BadRow⟩)
    (cd_Table_rows_ : PySem.W.codeIn K cd_Table_rows "Table.rows" = true)
    (kf_Table_rows : PySem.W.keepIn K (.ref f_Table_rows) = true)
    (cd__law_is_ : PySem.W.codeIn K cd__law_is "_law_is" = true)
    (kf__law_is : PySem.W.keepIn K (.ref f__law_is) = true)
    (cd_is_between_ : PySem.W.codeIn K cd_is_between "is_between" = true)
    (kf_is_between : PySem.W.keepIn K (.ref f_is_between) = true)
    (cd_is_below_ : PySem.W.codeIn K cd_is_below "is_below" = true)
    (kf_is_below : PySem.W.keepIn K (.ref f_is_below) = true)
    (cd_is_row_ : PySem.W.codeIn K cd_is_row "is_row" = true)
    (kf_is_row : PySem.W.keepIn K (.ref f_is_row) = true)
    (cd_check_arity_ : PySem.W.codeIn K cd_check_arity "check_arity" = true)
    (kf_check_arity : PySem.W.keepIn K (.ref f_check_arity) = true)
    (cd_check_width_ : PySem.W.codeIn K cd_check_width "check_width" = true)
    (kf_check_width : PySem.W.keepIn K (.ref f_check_width) = true)
    (cd_Table___init___ : PySem.W.codeIn K cd_Table___init__ "Table.__init__" = true)
    (kf_Table___init__ : PySem.W.keepIn K (.ref f_Table___init__) = true)
    (cd_check_order_ : PySem.W.codeIn K cd_check_order "check_order" = true)
    (kf_check_order : PySem.W.keepIn K (.ref f_check_order) = true)
    (cd_Table_renamed_ : PySem.W.codeIn K cd_Table_renamed "Table.renamed" = true)
    (kf_Table_renamed : PySem.W.keepIn K (.ref f_Table_renamed) = true)
    (cd_Table_glued_ : PySem.W.codeIn K cd_Table_glued "Table.glued" = true)
    (kf_Table_glued : PySem.W.keepIn K (.ref f_Table_glued) = true)
    (cd_Table_seen_ : PySem.W.codeIn K cd_Table_seen "Table.seen" = true)
    (kf_Table_seen : PySem.W.keepIn K (.ref f_Table_seen) = true)
    (cd__law_take_ : PySem.W.codeIn K cd__law_take "_law_take" = true)
    (kf__law_take : PySem.W.keepIn K (.ref f__law_take) = true)
    (cd__law_pick_ : PySem.W.codeIn K cd__law_pick "_law_pick" = true)
    (kf__law_pick : PySem.W.keepIn K (.ref f__law_pick) = true)
    (cd__law_all_ : PySem.W.codeIn K cd__law_all "_law_all" = true)
    (kf__law_all : PySem.W.keepIn K (.ref f__law_all) = true)
    (cd__law_twice_right_ : PySem.W.codeIn K cd__law_twice_right "_law_twice_right" = true)
    (kf__law_twice_right : PySem.W.keepIn K (.ref f__law_twice_right) = true)
    (cd_Table_equal_ : PySem.W.codeIn K cd_Table_equal "Table.equal" = true)
    (kf_Table_equal : PySem.W.keepIn K (.ref f_Table_equal) = true)
    (cd_Table_only_ : PySem.W.codeIn K cd_Table_only "Table.only" = true)
    (kf_Table_only : PySem.W.keepIn K (.ref f_Table_only) = true)
    (cd__tuple_after_ : PySem.W.codeIn K cd__tuple_after "_tuple_after" = true)
    (kf__tuple_after : PySem.W.keepIn K (.ref f__tuple_after) = true)
    (cd_all_tuples_ : PySem.W.codeIn K cd_all_tuples "all_tuples" = true)
    (kf_all_tuples : PySem.W.keepIn K (.ref f_all_tuples) = true)
    (cd_Table_full_ : PySem.W.codeIn K cd_Table_full "Table.full" = true)
    (kf_Table_full : PySem.W.keepIn K (.ref f_Table_full) = true)
    (cd__law_static_ : PySem.W.codeIn K cd__law_static "_law_static" = true)
    (kf__law_static : PySem.W.keepIn K (.ref f__law_static) = true)
    (cd__law_statics_right_ : PySem.W.codeIn K cd__law_statics_right "_law_statics_right" = true)
    (kf__law_statics_right : PySem.W.keepIn K (.ref f__law_statics_right) = true)
    (cd__law_asked_ : PySem.W.codeIn K cd__law_asked "_law_asked" = true)
    (kf__law_asked : PySem.W.keepIn K (.ref f__law_asked) = true)
    (cd_Table___eq___ : PySem.W.codeIn K cd_Table___eq__ "Table.__eq__" = true)
    (kf_Table___eq__ : PySem.W.keepIn K (.ref f_Table___eq__) = true)
    (cd__law_odd_orders_ : PySem.W.codeIn K cd__law_odd_orders "_law_odd_orders" = true)
    (kf__law_odd_orders : PySem.W.keepIn K (.ref f__law_odd_orders) = true)
    (cd__law_one_right_ : PySem.W.codeIn K cd__law_one_right "_law_one_right" = true)
    (kf__law_one_right : PySem.W.keepIn K (.ref f__law_one_right) = true)
    (cd_Table___mul___ : PySem.W.codeIn K cd_Table___mul__ "Table.__mul__" = true)
    (kf_Table___mul__ : PySem.W.keepIn K (.ref f_Table___mul__) = true)
    (cd__law_behind_ : PySem.W.codeIn K cd__law_behind "_law_behind" = true)
    (kf__law_behind : PySem.W.keepIn K (.ref f__law_behind) = true)
    (cd_Table___contains___ : PySem.W.codeIn K cd_Table___contains__ "Table.__contains__" = true)
    (kf_Table___contains__ : PySem.W.keepIn K (.ref f_Table___contains__) = true)
    (cd_Table___and___ : PySem.W.codeIn K cd_Table___and__ "Table.__and__" = true)
    (kf_Table___and__ : PySem.W.keepIn K (.ref f_Table___and__) = true)
    (cd__law_both_ : PySem.W.codeIn K cd__law_both "_law_both" = true)
    (kf__law_both : PySem.W.keepIn K (.ref f__law_both) = true)
    (cd__law_pairs_right_ : PySem.W.codeIn K cd__law_pairs_right "_law_pairs_right" = true)
    (kf__law_pairs_right : PySem.W.keepIn K (.ref f__law_pairs_right) = true)
    (cd__law_drawn_row_ : PySem.W.codeIn K cd__law_drawn_row "_law_drawn_row" = true)
    (kf__law_drawn_row : PySem.W.keepIn K (.ref f__law_drawn_row) = true)
    (cd__law_drawn_rows_ : PySem.W.codeIn K cd__law_drawn_rows "_law_drawn_rows" = true)
    (kf__law_drawn_rows : PySem.W.keepIn K (.ref f__law_drawn_rows) = true)
    (cd__law_known_tables_ : PySem.W.codeIn K cd__law_known_tables "_law_known_tables" = true)
    (kf__law_known_tables : PySem.W.keepIn K (.ref f__law_known_tables) = true)
    (cd__law_drawn_table_ : PySem.W.codeIn K cd__law_drawn_table "_law_drawn_table" = true)
    (kf__law_drawn_table : PySem.W.keepIn K (.ref f__law_drawn_table) = true)
    (cd__law_width_ : PySem.W.codeIn K cd__law_width "_law_width" = true)
    (kf__law_width : PySem.W.keepIn K (.ref f__law_width) = true)
    (cd__law_feed_ : PySem.W.codeIn K cd__law_feed "_law_feed" = true)
    (kf__law_feed : PySem.W.keepIn K (.ref f__law_feed) = true)
    (cd_law_ : PySem.W.codeIn K cd_law "law" = true)
    (kf_law : PySem.W.keepIn K (.ref f_law) = true)
    (hn_ : PySem.W.specialIn K (.builtin "object.__class__") "__get__" = some (some (.builtin "getset_descriptor.__get__")))
    (ht_ : PySem.W.takesIn K (.builtin "object.__class__") = some true)
    (tp_ : PySem.W.nsIn K cStatics "thirdparty.any" = some none)
    (m_super_ : PySem.W.nsIn K mainGlobals "super" = some none)
    (tpg_Table : PySem.W.plainGet K C_Table Str.empty = true)
    (thd_Table : PySem.W.hasDictIn K C_Table = true)
    (tpo_Table : PySem.W.plainOver K C_Table = true)
    (tsa_Table : PySem.W.findIn K (.ref C_Table) "__setattr__" = some (some (.builtin "object.__setattr__")))
    (tcl_Table : PySem.W.findIn K (.ref C_Table) "__class__" = some (some (.builtin "object.__class__")))
    (tob_Table : PySem.W.mroIn K C_Table (.type "object") = some true)
    (xk_BadArity : PySem.W.keepIn K (.ref C_BadArity) = true)
    (xe_BadArity : PySem.W.subIn K (.ref C_BadArity) (.type "BaseException") = some true)
    (xt_BadArity : PySem.W.typeIn K (.ref C_BadArity) = some (.type "type"))
    (xk_BadOrder : PySem.W.keepIn K (.ref C_BadOrder) = true)
    (xe_BadOrder : PySem.W.subIn K (.ref C_BadOrder) (.type "BaseException") = some true)
    (xt_BadOrder : PySem.W.typeIn K (.ref C_BadOrder) = some (.type "type"))
    (xk_BadRow : PySem.W.keepIn K (.ref C_BadRow) = true)
    (xe_BadRow : PySem.W.subIn K (.ref C_BadRow) (.type "BaseException") = some true)
    (xt_BadRow : PySem.W.typeIn K (.ref C_BadRow) = some (.type "type"))
    (xk_BadSpots : PySem.W.keepIn K (.ref C_BadSpots) = true)
    (xe_BadSpots : PySem.W.subIn K (.ref C_BadSpots) (.type "BaseException") = some true)
    (xt_BadSpots : PySem.W.typeIn K (.ref C_BadSpots) = some (.type "type"))
    (xk_BadWidth : PySem.W.keepIn K (.ref C_BadWidth) = true)
    (xe_BadWidth : PySem.W.subIn K (.ref C_BadWidth) (.type "BaseException") = some true)
    (xt_BadWidth : PySem.W.typeIn K (.ref C_BadWidth) = some (.type "type"))
    (xk_NoList : PySem.W.keepIn K (.ref C_NoList) = true)
    (xe_NoList : PySem.W.subIn K (.ref C_NoList) (.type "BaseException") = some true)
    (xt_NoList : PySem.W.typeIn K (.ref C_NoList) = some (.type "type"))
    (xk_Unlike : PySem.W.keepIn K (.ref C_Unlike) = true)
    (xe_Unlike : PySem.W.subIn K (.ref C_Unlike) (.type "BaseException") = some true)
    (xt_Unlike : PySem.W.typeIn K (.ref C_Unlike) = some (.type "type"))
    (rv_BadRow : PySem.HandSPX.refsVE bm_BadRow = true)
    (sa_BadRow : PySem.W.findIn K (.ref C_BadRow) "__setattr__" = some (some (.builtin "object.__setattr__")))
    (ga_BadRow : PySem.W.findIn K (.ref C_BadRow) "__getattribute__" = some (some (.builtin "BaseException.__getattribute__")))
    (gg_BadRow : PySem.W.findIn K (.ref C_BadRow) "__getattr__" = some none)
    (no_BadRow : PySem.W.findIn K (.ref C_BadRow) "number" = some none)
    (ti_BadRow : PySem.W.typeIn K (.ref i_BadRow) = some (.type "function"))
    (hd_BadRow : PySem.W.hasDictIn K C_BadRow = true)
    (ex1_BadRow : PySem.W.exmOne K (.ref C_BadRow) (.ref C_BadRow) = some true)
    (sv_BadRow : PySem.W.subIn K (.ref C_BadRow) (.type "ValueError") = some true)
    (sm_BadRow : PySem.W.mroIn K C_BadRow (.ref C_BadRow) = some true)
    (su_BadRow : PySem.W.ks_superIn K C_BadRow C_BadRow "__init__" = some (some (.builtin "ValueError.__init__")))
    (ci_BadRow : PySem.W.codeIn K (.ref cda_BadRow) "BadRow.__init__" = true)
    (fi_BadRow : ((PySem.Challenge.pw_nearsettled_k02_tables_made_of_others.main.file : Str) == file_BadRow) = true)
    (mm_abs : PySem.W.nsIn K mainGlobals "abs" = some none)
    (mm_all : PySem.W.nsIn K mainGlobals "all" = some none)
    (mm_bool : PySem.W.nsIn K mainGlobals "bool" = some none)
    (mm_enumerate : PySem.W.nsIn K mainGlobals "enumerate" = some none)
    (mm_int : PySem.W.nsIn K mainGlobals "int" = some none)
    (mm_isinstance : PySem.W.nsIn K mainGlobals "isinstance" = some none)
    (mm_len : PySem.W.nsIn K mainGlobals "len" = some none)
    (mm_list : PySem.W.nsIn K mainGlobals "list" = some none)
    (mm_max : PySem.W.nsIn K mainGlobals "max" = some none)
    (mm_min : PySem.W.nsIn K mainGlobals "min" = some none)
    (mm_range : PySem.W.nsIn K mainGlobals "range" = some none)
    (mm_repr : PySem.W.nsIn K mainGlobals "repr" = some none)
    (mm_set : PySem.W.nsIn K mainGlobals "set" = some none)
    (mm_sorted : PySem.W.nsIn K mainGlobals "sorted" = some none)
    (mm_sum : PySem.W.nsIn K mainGlobals "sum" = some none)
    (mm_tuple : PySem.W.nsIn K mainGlobals "tuple" = some none)
    (fB__rows : (([("Table", C_Table)] : List (Str × Addr)).all fun q => PySem.W.findIn K (.ref q.2) "_rows" == some none) = true)
    (fB_arity : (([("Table", C_Table)] : List (Str × Addr)).all fun q => PySem.W.findIn K (.ref q.2) "arity" == some none) = true)
    (fB_width : (([("Table", C_Table)] : List (Str × Addr)).all fun q => PySem.W.findIn K (.ref q.2) "width" == some none) = true)
    (fn_Table___and__ : PySem.W.isFn K (.ref f_Table___and__) = true)
    (fn_Table___contains__ : PySem.W.isFn K (.ref f_Table___contains__) = true)
    (fn_Table___eq__ : PySem.W.isFn K (.ref f_Table___eq__) = true)
    (fn_Table___mul__ : PySem.W.isFn K (.ref f_Table___mul__) = true)
    (exB_ : exB K [("BadArity", C_BadArity), ("BadOrder", C_BadOrder), ("BadRow", C_BadRow), ("BadSpots", C_BadSpots), ("BadWidth", C_BadWidth), ("NoList", C_NoList), ("Unlike", C_Unlike)] = true)
    (iB_Table : isBk K [("Table", C_Table)] (.ref C_Table) [] ["Table"] = true)
    (iB_bool : isBk K [("Table", C_Table)] (.type "bool") ["bool"] [] = true)
    (iB_int : isBk K [("Table", C_Table)] (.type "int") ["int", "bool"] [] = true)
    (iB_list : isBk K [("Table", C_Table)] (.type "list") ["list"] [] = true)
    (iB_tuple : isBk K [("Table", C_Table)] (.type "tuple") ["tuple"] [] = true)
    (fn_Table___init__ : PySem.W.isFn K (.ref f_Table___init__) = true)
    (mk_Table : PySem.W.makesIn K C_Table = true)
    (kp_Table : PySem.W.keepIn K (.ref C_Table) = true)
    (sf_Table : PySem.W.selfFirst K C_Table = true)
    (bk_Table_BitAnd : PySem.W.findIn K (.ref C_Table) (dunderR (Operator.BitAnd).info.2) = some none)
    (bk_Table_Mult : PySem.W.findIn K (.ref C_Table) (dunderR (Operator.Mult).info.2) = some none)
    (fn_Table_glued : PySem.W.isFn K (.ref f_Table_glued) = true)
    (fn_Table_renamed : PySem.W.isFn K (.ref f_Table_renamed) = true)
    (fn_Table_seen : PySem.W.isFn K (.ref f_Table_seen) = true)
    (nB_Table : nfB K [("Table", C_Table)] C_Table = true)
    (nee_Table : PySem.W.findIn K (.ref C_Table) "__ne__" = some (some (.builtin "object.__ne__")))
    (obb_Table : PySem.W.subIn K (.ref C_Table) (.type "object") = some true)
    (pgt_Table_rows : PySem.W.specialIn K (.ref pr_Table_rows) "__get__" = some (some (.builtin "property.__get__")))
    (ptk_Table_rows : PySem.W.takesIn K (.ref pr_Table_rows) = some true)
    (q_BadArity : PySem.W.excIn K C_BadArity [.type "ValueError", .type "Exception", .type "BaseException", .type "object"] "ValueError.__new__" = true)
    (q_BadOrder : PySem.W.excIn K C_BadOrder [.type "ValueError", .type "Exception", .type "BaseException", .type "object"] "ValueError.__new__" = true)
    (q_BadSpots : PySem.W.excIn K C_BadSpots [.type "ValueError", .type "Exception", .type "BaseException", .type "object"] "ValueError.__new__" = true)
    (q_BadWidth : PySem.W.excIn K C_BadWidth [.type "ValueError", .type "Exception", .type "BaseException", .type "object"] "ValueError.__new__" = true)
    (q_NoList : PySem.W.excIn K C_NoList [.type "ValueError", .type "Exception", .type "BaseException", .type "object"] "ValueError.__new__" = true)
    (q_Unlike : PySem.W.excIn K C_Unlike [.type "ValueError", .type "Exception", .type "BaseException", .type "object"] "ValueError.__new__" = true)
    (rB_Table_BitAnd : rtB K C_Table (Operator.BitAnd).info.2 = true)
    (rB_Table_Mult : rtB K C_Table (Operator.Mult).info.2 = true)
    (rd_Table : PySem.W.readsIn K C_Table (.type "type") = true)
    (rg_Table : PySem.W.specialIn K (.ref C_Table) "__getattribute__" = some (some (.builtin "type.__getattribute__"))) :
    ∃ fd : FuncData, (∀ (s : Shared) (u : Value), BindsTo s fd ⟨[u], []⟩ [("script", u)]) ∧ ∀ base : Heap, K.In base → base.Ns mainGlobals mg → FnG l.prog w K mg base CX0 9 fa fd ["script"] (spLaw63 K) := by
  have e := hfa.symm.trans (PySem.W.mg_of X G g_law_)
  cases e
  rw [hl]
  have F_Table_rows := fun_mk (st := s_Table_rows) l_Table_rows cd_Table_rows_ kf_Table_rows
  have F__law_is := fun_mk (st := s__law_is) l__law_is cd__law_is_ kf__law_is
  have F_is_between := fun_mk (st := s_is_between) l_is_between cd_is_between_ kf_is_between
  have F_is_below := fun_mk (st := s_is_below) l_is_below cd_is_below_ kf_is_below
  have F_is_row := fun_mk (st := s_is_row) l_is_row cd_is_row_ kf_is_row
  have F_check_arity := fun_mk (st := s_check_arity) l_check_arity cd_check_arity_ kf_check_arity
  have F_check_width := fun_mk (st := s_check_width) l_check_width cd_check_width_ kf_check_width
  have F_Table___init__ := fun_mk (st := s_Table___init__) l_Table___init__ cd_Table___init___ kf_Table___init__
  have F_check_order := fun_mk (st := s_check_order) l_check_order cd_check_order_ kf_check_order
  have F_Table_renamed := fun_mk (st := s_Table_renamed) l_Table_renamed cd_Table_renamed_ kf_Table_renamed
  have F_Table_glued := fun_mk (st := s_Table_glued) l_Table_glued cd_Table_glued_ kf_Table_glued
  have F_Table_seen := fun_mk (st := s_Table_seen) l_Table_seen cd_Table_seen_ kf_Table_seen
  have F__law_take := fun_mk (st := s__law_take) l__law_take cd__law_take_ kf__law_take
  have F__law_pick := fun_mk (st := s__law_pick) l__law_pick cd__law_pick_ kf__law_pick
  have F__law_all := fun_mk (st := s__law_all) l__law_all cd__law_all_ kf__law_all
  have F__law_twice_right := fun_mk (st := s__law_twice_right) l__law_twice_right cd__law_twice_right_ kf__law_twice_right
  have F_Table_equal := fun_mk (st := s_Table_equal) l_Table_equal cd_Table_equal_ kf_Table_equal
  have F_Table_only := fun_mk (st := s_Table_only) l_Table_only cd_Table_only_ kf_Table_only
  have F__tuple_after := fun_mk (st := s__tuple_after) l__tuple_after cd__tuple_after_ kf__tuple_after
  have F_all_tuples := fun_mk (st := s_all_tuples) l_all_tuples cd_all_tuples_ kf_all_tuples
  have F_Table_full := fun_mk (st := s_Table_full) l_Table_full cd_Table_full_ kf_Table_full
  have F__law_static := fun_mk (st := s__law_static) l__law_static cd__law_static_ kf__law_static
  have F__law_statics_right := fun_mk (st := s__law_statics_right) l__law_statics_right cd__law_statics_right_ kf__law_statics_right
  have F__law_asked := fun_mk (st := s__law_asked) l__law_asked cd__law_asked_ kf__law_asked
  have F_Table___eq__ := fun_mk (st := s_Table___eq__) l_Table___eq__ cd_Table___eq___ kf_Table___eq__
  have F__law_odd_orders := fun_mk (st := s__law_odd_orders) l__law_odd_orders cd__law_odd_orders_ kf__law_odd_orders
  have F__law_one_right := fun_mk (st := s__law_one_right) l__law_one_right cd__law_one_right_ kf__law_one_right
  have F_Table___mul__ := fun_mk (st := s_Table___mul__) l_Table___mul__ cd_Table___mul___ kf_Table___mul__
  have F__law_behind := fun_mk (st := s__law_behind) l__law_behind cd__law_behind_ kf__law_behind
  have F_Table___contains__ := fun_mk (st := s_Table___contains__) l_Table___contains__ cd_Table___contains___ kf_Table___contains__
  have F_Table___and__ := fun_mk (st := s_Table___and__) l_Table___and__ cd_Table___and___ kf_Table___and__
  have F__law_both := fun_mk (st := s__law_both) l__law_both cd__law_both_ kf__law_both
  have F__law_pairs_right := fun_mk (st := s__law_pairs_right) l__law_pairs_right cd__law_pairs_right_ kf__law_pairs_right
  have F__law_drawn_row := fun_mk (st := s__law_drawn_row) l__law_drawn_row cd__law_drawn_row_ kf__law_drawn_row
  have F__law_drawn_rows := fun_mk (st := s__law_drawn_rows) l__law_drawn_rows cd__law_drawn_rows_ kf__law_drawn_rows
  have F__law_known_tables := fun_mk (st := s__law_known_tables) l__law_known_tables cd__law_known_tables_ kf__law_known_tables
  have F__law_drawn_table := fun_mk (st := s__law_drawn_table) l__law_drawn_table cd__law_drawn_table_ kf__law_drawn_table
  have F__law_width := fun_mk (st := s__law_width) l__law_width cd__law_width_ kf__law_width
  have F__law_feed := fun_mk (st := s__law_feed) l__law_feed cd__law_feed_ kf__law_feed
  have F_law := fun_mk (st := s_law) l_law cd_law_ kf_law
  have cls_Table : Cls K C_Table := ⟨tpg_Table, thd_Table, tpo_Table, tsa_Table⟩
  have clI_Table : ClsI K C_Table := ⟨cls_Table, tcl_Table, hn_, ht_, tob_Table⟩
  have X_Table : ClsX K (gam [("Table", C_Table)] [("BadArity", C_BadArity), ("BadOrder", C_BadOrder), ("BadRow", C_BadRow), ("BadSpots", C_BadSpots), ("BadWidth", C_BadWidth), ("NoList", C_NoList), ("Unlike", C_Unlike)]) mg "Table" C_Table := ⟨(show (([("Table", C_Table)] : List (Str × Addr)) ++ ([("BadArity", C_BadArity), ("BadOrder", C_BadOrder), ("BadRow", C_BadRow), ("BadSpots", C_BadSpots), ("BadWidth", C_BadWidth), ("NoList", C_NoList), ("Unlike", C_Unlike)] : List (Str × Addr))).lookup ("Table" : Str) = some C_Table from look_here), PySem.W.mg_of X G a_Table, cls_Table⟩
  have NN : Names [("Table", C_Table)] [("BadArity", C_BadArity), ("BadOrder", C_BadOrder), ("BadRow", C_BadRow), ("BadSpots", C_BadSpots), ("BadWidth", C_BadWidth), ("NoList", C_NoList), ("Unlike", C_Unlike)] := names_of (cn := ["Table"]) (en := ["BadArity", "BadOrder", "BadRow", "BadSpots", "BadWidth", "NoList", "Unlike"]) rfl rfl (by decide +kernel) (by decide +kernel)
  have PN : Plain K [("Table", C_Table)] := ⟨fun q hq => by
    simp only [List.mem_cons, List.not_mem_nil, or_false] at hq
    subst hq; exact clI_Table⟩
  have e_BadArity : ErrX K (gam [("Table", C_Table)] [("BadArity", C_BadArity), ("BadOrder", C_BadOrder), ("BadRow", C_BadRow), ("BadSpots", C_BadSpots), ("BadWidth", C_BadWidth), ("NoList", C_NoList), ("Unlike", C_Unlike)]) mg "BadArity" C_BadArity := ⟨(show (([("Table", C_Table)] : List (Str × Addr)) ++ ([("BadArity", C_BadArity), ("BadOrder", C_BadOrder), ("BadRow", C_BadRow), ("BadSpots", C_BadSpots), ("BadWidth", C_BadWidth), ("NoList", C_NoList), ("Unlike", C_Unlike)] : List (Str × Addr))).lookup ("BadArity" : Str) = some C_BadArity from look_next (by decide +kernel) (look_here)), PySem.W.mg_of X G a_BadArity, xk_BadArity, xe_BadArity, xt_BadArity⟩
  have e_BadOrder : ErrX K (gam [("Table", C_Table)] [("BadArity", C_BadArity), ("BadOrder", C_BadOrder), ("BadRow", C_BadRow), ("BadSpots", C_BadSpots), ("BadWidth", C_BadWidth), ("NoList", C_NoList), ("Unlike", C_Unlike)]) mg "BadOrder" C_BadOrder := ⟨(show (([("Table", C_Table)] : List (Str × Addr)) ++ ([("BadArity", C_BadArity), ("BadOrder", C_BadOrder), ("BadRow", C_BadRow), ("BadSpots", C_BadSpots), ("BadWidth", C_BadWidth), ("NoList", C_NoList), ("Unlike", C_Unlike)] : List (Str × Addr))).lookup ("BadOrder" : Str) = some C_BadOrder from look_next (by decide +kernel) (look_next (by decide +kernel) (look_here))), PySem.W.mg_of X G a_BadOrder, xk_BadOrder, xe_BadOrder, xt_BadOrder⟩
  have e_BadRow : ErrX K (gam [("Table", C_Table)] [("BadArity", C_BadArity), ("BadOrder", C_BadOrder), ("BadRow", C_BadRow), ("BadSpots", C_BadSpots), ("BadWidth", C_BadWidth), ("NoList", C_NoList), ("Unlike", C_Unlike)]) mg "BadRow" C_BadRow := ⟨(show (([("Table", C_Table)] : List (Str × Addr)) ++ ([("BadArity", C_BadArity), ("BadOrder", C_BadOrder), ("BadRow", C_BadRow), ("BadSpots", C_BadSpots), ("BadWidth", C_BadWidth), ("NoList", C_NoList), ("Unlike", C_Unlike)] : List (Str × Addr))).lookup ("BadRow" : Str) = some C_BadRow from look_next (by decide +kernel) (look_next (by decide +kernel) (look_next (by decide +kernel) (look_here)))), PySem.W.mg_of X G a_BadRow, xk_BadRow, xe_BadRow, xt_BadRow⟩
  have e_BadSpots : ErrX K (gam [("Table", C_Table)] [("BadArity", C_BadArity), ("BadOrder", C_BadOrder), ("BadRow", C_BadRow), ("BadSpots", C_BadSpots), ("BadWidth", C_BadWidth), ("NoList", C_NoList), ("Unlike", C_Unlike)]) mg "BadSpots" C_BadSpots := ⟨(show (([("Table", C_Table)] : List (Str × Addr)) ++ ([("BadArity", C_BadArity), ("BadOrder", C_BadOrder), ("BadRow", C_BadRow), ("BadSpots", C_BadSpots), ("BadWidth", C_BadWidth), ("NoList", C_NoList), ("Unlike", C_Unlike)] : List (Str × Addr))).lookup ("BadSpots" : Str) = some C_BadSpots from look_next (by decide +kernel) (look_next (by decide +kernel) (look_next (by decide +kernel) (look_next (by decide +kernel) (look_here))))), PySem.W.mg_of X G a_BadSpots, xk_BadSpots, xe_BadSpots, xt_BadSpots⟩
  have e_BadWidth : ErrX K (gam [("Table", C_Table)] [("BadArity", C_BadArity), ("BadOrder", C_BadOrder), ("BadRow", C_BadRow), ("BadSpots", C_BadSpots), ("BadWidth", C_BadWidth), ("NoList", C_NoList), ("Unlike", C_Unlike)]) mg "BadWidth" C_BadWidth := ⟨(show (([("Table", C_Table)] : List (Str × Addr)) ++ ([("BadArity", C_BadArity), ("BadOrder", C_BadOrder), ("BadRow", C_BadRow), ("BadSpots", C_BadSpots), ("BadWidth", C_BadWidth), ("NoList", C_NoList), ("Unlike", C_Unlike)] : List (Str × Addr))).lookup ("BadWidth" : Str) = some C_BadWidth from look_next (by decide +kernel) (look_next (by decide +kernel) (look_next (by decide +kernel) (look_next (by decide +kernel) (look_next (by decide +kernel) (look_here)))))), PySem.W.mg_of X G a_BadWidth, xk_BadWidth, xe_BadWidth, xt_BadWidth⟩
  have e_NoList : ErrX K (gam [("Table", C_Table)] [("BadArity", C_BadArity), ("BadOrder", C_BadOrder), ("BadRow", C_BadRow), ("BadSpots", C_BadSpots), ("BadWidth", C_BadWidth), ("NoList", C_NoList), ("Unlike", C_Unlike)]) mg "NoList" C_NoList := ⟨(show (([("Table", C_Table)] : List (Str × Addr)) ++ ([("BadArity", C_BadArity), ("BadOrder", C_BadOrder), ("BadRow", C_BadRow), ("BadSpots", C_BadSpots), ("BadWidth", C_BadWidth), ("NoList", C_NoList), ("Unlike", C_Unlike)] : List (Str × Addr))).lookup ("NoList" : Str) = some C_NoList from look_next (by decide +kernel) (look_next (by decide +kernel) (look_next (by decide +kernel) (look_next (by decide +kernel) (look_next (by decide +kernel) (look_next (by decide +kernel) (look_here))))))), PySem.W.mg_of X G a_NoList, xk_NoList, xe_NoList, xt_NoList⟩
  have e_Unlike : ErrX K (gam [("Table", C_Table)] [("BadArity", C_BadArity), ("BadOrder", C_BadOrder), ("BadRow", C_BadRow), ("BadSpots", C_BadSpots), ("BadWidth", C_BadWidth), ("NoList", C_NoList), ("Unlike", C_Unlike)]) mg "Unlike" C_Unlike := ⟨(show (([("Table", C_Table)] : List (Str × Addr)) ++ ([("BadArity", C_BadArity), ("BadOrder", C_BadOrder), ("BadRow", C_BadRow), ("BadSpots", C_BadSpots), ("BadWidth", C_BadWidth), ("NoList", C_NoList), ("Unlike", C_Unlike)] : List (Str × Addr))).lookup ("Unlike" : Str) = some C_Unlike from look_next (by decide +kernel) (look_next (by decide +kernel) (look_next (by decide +kernel) (look_next (by decide +kernel) (look_next (by decide +kernel) (look_next (by decide +kernel) (look_next (by decide +kernel) (look_here)))))))), PySem.W.mg_of X G a_Unlike, xk_Unlike, xe_Unlike, xt_Unlike⟩
  have n_BadRow : NearTxt PySem.Challenge.pw_nearsettled_k02_tables_made_of_others K mg "BadRow" "number" C_BadRow i_BadRow (jsOf s_BadRow).1 (jsOf s_BadRow).2 :=
    { fs := .inl rfl, gC := PySem.W.mg_of X G a_BadRow, cls := ⟨nm_BadRow, q_BadRow, N_BadRow, bs_BadRow, bm_BadRow, sn_BadRow, sub_BadRow, ab_BadRow, col_BadRow, dd_BadRow, m0_BadRow, m1_BadRow, m2_BadRow, m3_BadRow, m5_BadRow, xl_BadRow, rv_BadRow⟩, sa := sa_BadRow, ga := ga_BadRow, gg := gg_BadRow, noN := no_BadRow, iC := ic_BadRow, tC := ti_BadRow, kC := xk_BadRow, exC := xe_BadRow, tyC := xt_BadRow, hdC := hd_BadRow, te := ex1_BadRow,
      subV := sv_BadRow, subC := sm_BadRow, tp := tp_, sup := su_BadRow, nosup := PySem.W.mg_none_of X G m_super_, htop := (by decide +kernel),
      fn := ⟨io_BadRow, id_BadRow, icdc_BadRow, ipm_BadRow, ian_BadRow, cda_BadRow, ict_BadRow, isl_BadRow, cc_BadRow, "BadRow.__init__", _, _, _, _, _, _, _, _, _, _, _, li_BadRow, ci_BadRow, ⟨cdc_BadRow, cdd_BadRow, cvs_BadRow, cdl_BadRow, file_BadRow, tf_BadRow, cdx_BadRow, vs_BadRow, fi_BadRow⟩, ⟨cec_BadRow, ced_BadRow, cel_BadRow, ce_BadRow⟩, ⟨_, fun env => rfl⟩⟩ }
  have b_abs : mg "abs" = none := PySem.W.mg_none_of X G mm_abs
  have b_all : mg "all" = none := PySem.W.mg_none_of X G mm_all
  have b_bool : mg "bool" = none := PySem.W.mg_none_of X G mm_bool
  have b_enumerate : mg "enumerate" = none := PySem.W.mg_none_of X G mm_enumerate
  have b_int : mg "int" = none := PySem.W.mg_none_of X G mm_int
  have b_isinstance : mg "isinstance" = none := PySem.W.mg_none_of X G mm_isinstance
  have b_len : mg "len" = none := PySem.W.mg_none_of X G mm_len
  have b_list : mg "list" = none := PySem.W.mg_none_of X G mm_list
  have b_max : mg "max" = none := PySem.W.mg_none_of X G mm_max
  have b_min : mg "min" = none := PySem.W.mg_none_of X G mm_min
  have b_range : mg "range" = none := PySem.W.mg_none_of X G mm_range
  have b_repr : mg "repr" = none := PySem.W.mg_none_of X G mm_repr
  have b_set : mg "set" = none := PySem.W.mg_none_of X G mm_set
  have b_sorted : mg "sorted" = none := PySem.W.mg_none_of X G mm_sorted
  have b_sum : mg "sum" = none := PySem.W.mg_none_of X G mm_sum
  have b_tuple : mg "tuple" = none := PySem.W.mg_none_of X G mm_tuple
  have bd_Table___init__ : Binds K (PySem.W.fnOf "__init__" "Table.__init__" (defArgs s_Table___init__) (defBody s_Table___init__) (defScope s_Table___init__) .none kV_Table___init__ dc_Table___init__ pm_Table___init__ an_Table___init__ cd_Table___init__ ct_Table___init__) ["self", "width", "arity", "rows"] [] := Binds.all fun us hl => match us, hl with | [_, _, _, _], _ => rfl
  have bd_Table_equal : Binds K (PySem.W.fnOf "equal" "Table.equal" (defArgs s_Table_equal) (defBody s_Table_equal) (defScope s_Table_equal) .none kV_Table_equal dc_Table_equal pm_Table_equal an_Table_equal cd_Table_equal ct_Table_equal) ["width"] [] := Binds.all fun us hl => match us, hl with | [_], _ => rfl
  have bd_Table_full : Binds K (PySem.W.fnOf "full" "Table.full" (defArgs s_Table_full) (defBody s_Table_full) (defScope s_Table_full) .none kV_Table_full dc_Table_full pm_Table_full an_Table_full cd_Table_full ct_Table_full) ["width", "arity"] [] := Binds.all fun us hl => match us, hl with | [_, _], _ => rfl
  have bd_Table_glued : Binds K (PySem.W.fnOf "glued" "Table.glued" (defArgs s_Table_glued) (defBody s_Table_glued) (defScope s_Table_glued) .none kV_Table_glued dc_Table_glued pm_Table_glued an_Table_glued cd_Table_glued ct_Table_glued) ["self", "one", "other"] [] := Binds.all fun us hl => match us, hl with | [_, _, _], _ => rfl
  have bd_Table_only : Binds K (PySem.W.fnOf "only" "Table.only" (defArgs s_Table_only) (defBody s_Table_only) (defScope s_Table_only) .none kV_Table_only dc_Table_only pm_Table_only an_Table_only cd_Table_only ct_Table_only) ["width", "value"] [] := Binds.all fun us hl => match us, hl with | [_, _], _ => rfl
  have bd_Table_renamed : Binds K (PySem.W.fnOf "renamed" "Table.renamed" (defArgs s_Table_renamed) (defBody s_Table_renamed) (defScope s_Table_renamed) .none kV_Table_renamed dc_Table_renamed pm_Table_renamed an_Table_renamed cd_Table_renamed ct_Table_renamed) ["self", "order"] [] := Binds.all fun us hl => match us, hl with | [_, _], _ => rfl
  have bd_Table_rows : Binds K (PySem.W.fnOf "rows" "Table.rows" (defArgs s_Table_rows) (defBody s_Table_rows) (defScope s_Table_rows) .none kV_Table_rows dc_Table_rows pm_Table_rows an_Table_rows cd_Table_rows ct_Table_rows) ["self"] [] := Binds.all fun us hl => match us, hl with | [_], _ => rfl
  have bd_Table_seen : Binds K (PySem.W.fnOf "seen" "Table.seen" (defArgs s_Table_seen) (defBody s_Table_seen) (defScope s_Table_seen) .none kV_Table_seen dc_Table_seen pm_Table_seen an_Table_seen cd_Table_seen ct_Table_seen) ["self", "spots"] [] := Binds.all fun us hl => match us, hl with | [_, _], _ => rfl
  have c__law_all : Cal K mg "_law_all" ["width", "length"] f__law_all (PySem.W.fnOf "_law_all" "_law_all" (defArgs s__law_all) (defBody s__law_all) (defScope s__law_all) .none kV__law_all dc__law_all pm__law_all an__law_all cd__law_all ct__law_all) := ⟨PySem.W.mg_of X G g__law_all_, kf__law_all, F__law_all.binds (ps := ["width", "length"]) fun _ _ _ _ _ _ us hl => match us, hl with | [_, _], _ => rfl⟩
  have c__law_asked : Cal K mg "_law_asked" ["table", "nth", "value", "more"] f__law_asked (PySem.W.fnOf "_law_asked" "_law_asked" (defArgs s__law_asked) (defBody s__law_asked) (defScope s__law_asked) .none kV__law_asked dc__law_asked pm__law_asked an__law_asked cd__law_asked ct__law_asked) := ⟨PySem.W.mg_of X G g__law_asked_, kf__law_asked, F__law_asked.binds (ps := ["table", "nth", "value", "more"]) fun _ _ _ _ _ _ us hl => match us, hl with | [_, _, _, _], _ => rfl⟩
  have c__law_behind : Cal K mg "_law_behind" ["one", "other"] f__law_behind (PySem.W.fnOf "_law_behind" "_law_behind" (defArgs s__law_behind) (defBody s__law_behind) (defScope s__law_behind) .none kV__law_behind dc__law_behind pm__law_behind an__law_behind cd__law_behind ct__law_behind) := ⟨PySem.W.mg_of X G g__law_behind_, kf__law_behind, F__law_behind.binds (ps := ["one", "other"]) fun _ _ _ _ _ _ us hl => match us, hl with | [_, _], _ => rfl⟩
  have c__law_both : Cal K mg "_law_both" ["one", "other"] f__law_both (PySem.W.fnOf "_law_both" "_law_both" (defArgs s__law_both) (defBody s__law_both) (defScope s__law_both) .none kV__law_both dc__law_both pm__law_both an__law_both cd__law_both ct__law_both) := ⟨PySem.W.mg_of X G g__law_both_, kf__law_both, F__law_both.binds (ps := ["one", "other"]) fun _ _ _ _ _ _ us hl => match us, hl with | [_, _], _ => rfl⟩
  have c__law_drawn_row : Cal K mg "_law_drawn_row" ["feed", "width", "arity"] f__law_drawn_row (PySem.W.fnOf "_law_drawn_row" "_law_drawn_row" (defArgs s__law_drawn_row) (defBody s__law_drawn_row) (defScope s__law_drawn_row) .none kV__law_drawn_row dc__law_drawn_row pm__law_drawn_row an__law_drawn_row cd__law_drawn_row ct__law_drawn_row) := ⟨PySem.W.mg_of X G g__law_drawn_row_, kf__law_drawn_row, F__law_drawn_row.binds (ps := ["feed", "width", "arity"]) fun _ _ _ _ _ _ us hl => match us, hl with | [_, _, _], _ => rfl⟩
  have c__law_drawn_rows : Cal K mg "_law_drawn_rows" ["feed", "width", "arity", "most"] f__law_drawn_rows (PySem.W.fnOf "_law_drawn_rows" "_law_drawn_rows" (defArgs s__law_drawn_rows) (defBody s__law_drawn_rows) (defScope s__law_drawn_rows) .none kV__law_drawn_rows dc__law_drawn_rows pm__law_drawn_rows an__law_drawn_rows cd__law_drawn_rows ct__law_drawn_rows) := ⟨PySem.W.mg_of X G g__law_drawn_rows_, kf__law_drawn_rows, F__law_drawn_rows.binds (ps := ["feed", "width", "arity", "most"]) fun _ _ _ _ _ _ us hl => match us, hl with | [_, _, _, _], _ => rfl⟩
  have c__law_drawn_table : Cal K mg "_law_drawn_table" ["feed", "width", "most"] f__law_drawn_table (PySem.W.fnOf "_law_drawn_table" "_law_drawn_table" (defArgs s__law_drawn_table) (defBody s__law_drawn_table) (defScope s__law_drawn_table) .none kV__law_drawn_table dc__law_drawn_table pm__law_drawn_table an__law_drawn_table cd__law_drawn_table ct__law_drawn_table) := ⟨PySem.W.mg_of X G g__law_drawn_table_, kf__law_drawn_table, F__law_drawn_table.binds (ps := ["feed", "width", "most"]) fun _ _ _ _ _ _ us hl => match us, hl with | [_, _, _], _ => rfl⟩
  have c__law_feed : Cal K mg "_law_feed" ["script", "k"] f__law_feed (PySem.W.fnOf "_law_feed" "_law_feed" (defArgs s__law_feed) (defBody s__law_feed) (defScope s__law_feed) .none kV__law_feed dc__law_feed pm__law_feed an__law_feed cd__law_feed ct__law_feed) := ⟨PySem.W.mg_of X G g__law_feed_, kf__law_feed, F__law_feed.binds (ps := ["script", "k"]) fun _ _ _ _ _ _ us hl => match us, hl with | [_, _], _ => rfl⟩
  have c__law_is : Cal K mg "_law_is" ["table", "width", "arity", "rows"] f__law_is (PySem.W.fnOf "_law_is" "_law_is" (defArgs s__law_is) (defBody s__law_is) (defScope s__law_is) .none kV__law_is dc__law_is pm__law_is an__law_is cd__law_is ct__law_is) := ⟨PySem.W.mg_of X G g__law_is_, kf__law_is, F__law_is.binds (ps := ["table", "width", "arity", "rows"]) fun _ _ _ _ _ _ us hl => match us, hl with | [_, _, _, _], _ => rfl⟩
  have c__law_known_tables : Cal K mg "_law_known_tables" ["width"] f__law_known_tables (PySem.W.fnOf "_law_known_tables" "_law_known_tables" (defArgs s__law_known_tables) (defBody s__law_known_tables) (defScope s__law_known_tables) .none kV__law_known_tables dc__law_known_tables pm__law_known_tables an__law_known_tables cd__law_known_tables ct__law_known_tables) := ⟨PySem.W.mg_of X G g__law_known_tables_, kf__law_known_tables, F__law_known_tables.binds (ps := ["width"]) fun _ _ _ _ _ _ us hl => match us, hl with | [_], _ => rfl⟩
  have c__law_odd_orders : Cal K mg "_law_odd_orders" ["width", "order"] f__law_odd_orders (PySem.W.fnOf "_law_odd_orders" "_law_odd_orders" (defArgs s__law_odd_orders) (defBody s__law_odd_orders) (defScope s__law_odd_orders) .none kV__law_odd_orders dc__law_odd_orders pm__law_odd_orders an__law_odd_orders cd__law_odd_orders ct__law_odd_orders) := ⟨PySem.W.mg_of X G g__law_odd_orders_, kf__law_odd_orders, F__law_odd_orders.binds (ps := ["width", "order"]) fun _ _ _ _ _ _ us hl => match us, hl with | [_, _], _ => rfl⟩
  have c__law_one_right : Cal K mg "_law_one_right" ["feed", "table", "width", "arity", "rows"] f__law_one_right (PySem.W.fnOf "_law_one_right" "_law_one_right" (defArgs s__law_one_right) (defBody s__law_one_right) (defScope s__law_one_right) .none kV__law_one_right dc__law_one_right pm__law_one_right an__law_one_right cd__law_one_right ct__law_one_right) := ⟨PySem.W.mg_of X G g__law_one_right_, kf__law_one_right, F__law_one_right.binds (ps := ["feed", "table", "width", "arity", "rows"]) fun _ _ _ _ _ _ us hl => match us, hl with | [_, _, _, _, _], _ => rfl⟩
  have c__law_pairs_right : Cal K mg "_law_pairs_right" ["one", "other", "first", "second"] f__law_pairs_right (PySem.W.fnOf "_law_pairs_right" "_law_pairs_right" (defArgs s__law_pairs_right) (defBody s__law_pairs_right) (defScope s__law_pairs_right) .none kV__law_pairs_right dc__law_pairs_right pm__law_pairs_right an__law_pairs_right cd__law_pairs_right ct__law_pairs_right) := ⟨PySem.W.mg_of X G g__law_pairs_right_, kf__law_pairs_right, F__law_pairs_right.binds (ps := ["one", "other", "first", "second"]) fun _ _ _ _ _ _ us hl => match us, hl with | [_, _, _, _], _ => rfl⟩
  have c__law_pick : Cal K mg "_law_pick" ["feed", "some"] f__law_pick (PySem.W.fnOf "_law_pick" "_law_pick" (defArgs s__law_pick) (defBody s__law_pick) (defScope s__law_pick) .none kV__law_pick dc__law_pick pm__law_pick an__law_pick cd__law_pick ct__law_pick) := ⟨PySem.W.mg_of X G g__law_pick_, kf__law_pick, F__law_pick.binds (ps := ["feed", "some"]) fun _ _ _ _ _ _ us hl => match us, hl with | [_, _], _ => rfl⟩
  have c__law_static : Cal K mg "_law_static" ["nth", "width", "more"] f__law_static (PySem.W.fnOf "_law_static" "_law_static" (defArgs s__law_static) (defBody s__law_static) (defScope s__law_static) .none kV__law_static dc__law_static pm__law_static an__law_static cd__law_static ct__law_static) := ⟨PySem.W.mg_of X G g__law_static_, kf__law_static, F__law_static.binds (ps := ["nth", "width", "more"]) fun _ _ _ _ _ _ us hl => match us, hl with | [_, _, _], _ => rfl⟩
  have c__law_statics_right : Cal K mg "_law_statics_right" ["width", "arity"] f__law_statics_right (PySem.W.fnOf "_law_statics_right" "_law_statics_right" (defArgs s__law_statics_right) (defBody s__law_statics_right) (defScope s__law_statics_right) .none kV__law_statics_right dc__law_statics_right pm__law_statics_right an__law_statics_right cd__law_statics_right ct__law_statics_right) := ⟨PySem.W.mg_of X G g__law_statics_right_, kf__law_statics_right, F__law_statics_right.binds (ps := ["width", "arity"]) fun _ _ _ _ _ _ us hl => match us, hl with | [_, _], _ => rfl⟩
  have c__law_take : Cal K mg "_law_take" ["feed", "many"] f__law_take (PySem.W.fnOf "_law_take" "_law_take" (defArgs s__law_take) (defBody s__law_take) (defScope s__law_take) .none kV__law_take dc__law_take pm__law_take an__law_take cd__law_take ct__law_take) := ⟨PySem.W.mg_of X G g__law_take_, kf__law_take, F__law_take.binds (ps := ["feed", "many"]) fun _ _ _ _ _ _ us hl => match us, hl with | [_, _], _ => rfl⟩
  have c__law_twice_right : Cal K mg "_law_twice_right" ["feed", "table", "width", "arity", "rows"] f__law_twice_right (PySem.W.fnOf "_law_twice_right" "_law_twice_right" (defArgs s__law_twice_right) (defBody s__law_twice_right) (defScope s__law_twice_right) .none kV__law_twice_right dc__law_twice_right pm__law_twice_right an__law_twice_right cd__law_twice_right ct__law_twice_right) := ⟨PySem.W.mg_of X G g__law_twice_right_, kf__law_twice_right, F__law_twice_right.binds (ps := ["feed", "table", "width", "arity", "rows"]) fun _ _ _ _ _ _ us hl => match us, hl with | [_, _, _, _, _], _ => rfl⟩
  have c__law_width : Cal K mg "_law_width" ["feed"] f__law_width (PySem.W.fnOf "_law_width" "_law_width" (defArgs s__law_width) (defBody s__law_width) (defScope s__law_width) .none kV__law_width dc__law_width pm__law_width an__law_width cd__law_width ct__law_width) := ⟨PySem.W.mg_of X G g__law_width_, kf__law_width, F__law_width.binds (ps := ["feed"]) fun _ _ _ _ _ _ us hl => match us, hl with | [_], _ => rfl⟩
  have c__tuple_after : Cal K mg "_tuple_after" ["some", "width"] f__tuple_after (PySem.W.fnOf "_tuple_after" "_tuple_after" (defArgs s__tuple_after) (defBody s__tuple_after) (defScope s__tuple_after) .none kV__tuple_after dc__tuple_after pm__tuple_after an__tuple_after cd__tuple_after ct__tuple_after) := ⟨PySem.W.mg_of X G g__tuple_after_, kf__tuple_after, F__tuple_after.binds (ps := ["some", "width"]) fun _ _ _ _ _ _ us hl => match us, hl with | [_, _], _ => rfl⟩
  have c_all_tuples : Cal K mg "all_tuples" ["width", "length"] f_all_tuples (PySem.W.fnOf "all_tuples" "all_tuples" (defArgs s_all_tuples) (defBody s_all_tuples) (defScope s_all_tuples) .none kV_all_tuples dc_all_tuples pm_all_tuples an_all_tuples cd_all_tuples ct_all_tuples) := ⟨PySem.W.mg_of X G g_all_tuples_, kf_all_tuples, F_all_tuples.binds (ps := ["width", "length"]) fun _ _ _ _ _ _ us hl => match us, hl with | [_, _], _ => rfl⟩
  have c_check_arity : Cal K mg "check_arity" ["arity", "greatest"] f_check_arity (PySem.W.fnOf "check_arity" "check_arity" (defArgs s_check_arity) (defBody s_check_arity) (defScope s_check_arity) .none kV_check_arity dc_check_arity pm_check_arity an_check_arity cd_check_arity ct_check_arity) := ⟨PySem.W.mg_of X G g_check_arity_, kf_check_arity, F_check_arity.binds (ps := ["arity", "greatest"]) fun _ _ _ _ _ _ us hl => match us, hl with | [_, _], _ => rfl⟩
  have c_check_order : Cal K mg "check_order" ["order", "width"] f_check_order (PySem.W.fnOf "check_order" "check_order" (defArgs s_check_order) (defBody s_check_order) (defScope s_check_order) .none kV_check_order dc_check_order pm_check_order an_check_order cd_check_order ct_check_order) := ⟨PySem.W.mg_of X G g_check_order_, kf_check_order, F_check_order.binds (ps := ["order", "width"]) fun _ _ _ _ _ _ us hl => match us, hl with | [_, _], _ => rfl⟩
  have c_check_width : Cal K mg "check_width" ["width"] f_check_width (PySem.W.fnOf "check_width" "check_width" (defArgs s_check_width) (defBody s_check_width) (defScope s_check_width) .none kV_check_width dc_check_width pm_check_width an_check_width cd_check_width ct_check_width) := ⟨PySem.W.mg_of X G g_check_width_, kf_check_width, F_check_width.binds (ps := ["width"]) fun _ _ _ _ _ _ us hl => match us, hl with | [_], _ => rfl⟩
  have c_is_below : Cal K mg "is_below" ["value", "limit"] f_is_below (PySem.W.fnOf "is_below" "is_below" (defArgs s_is_below) (defBody s_is_below) (defScope s_is_below) .none kV_is_below dc_is_below pm_is_below an_is_below cd_is_below ct_is_below) := ⟨PySem.W.mg_of X G g_is_below_, kf_is_below, F_is_below.binds (ps := ["value", "limit"]) fun _ _ _ _ _ _ us hl => match us, hl with | [_, _], _ => rfl⟩
  have c_is_between : Cal K mg "is_between" ["value", "least", "greatest"] f_is_between (PySem.W.fnOf "is_between" "is_between" (defArgs s_is_between) (defBody s_is_between) (defScope s_is_between) .none kV_is_between dc_is_between pm_is_between an_is_between cd_is_between ct_is_between) := ⟨PySem.W.mg_of X G g_is_between_, kf_is_between, F_is_between.binds (ps := ["value", "least", "greatest"]) fun _ _ _ _ _ _ us hl => match us, hl with | [_, _, _], _ => rfl⟩
  have c_is_row : Cal K mg "is_row" ["value", "width", "length"] f_is_row (PySem.W.fnOf "is_row" "is_row" (defArgs s_is_row) (defBody s_is_row) (defScope s_is_row) .none kV_is_row dc_is_row pm_is_row an_is_row cd_is_row ct_is_row) := ⟨PySem.W.mg_of X G g_is_row_, kf_is_row, F_is_row.binds (ps := ["value", "width", "length"]) fun _ _ _ _ _ _ us hl => match us, hl with | [_, _, _], _ => rfl⟩
  have fc_BadRow : FldC K C_BadRow "number" := fldC_of n_BadRow
  have fl__rows := fld_ok (f := "_rows") NN PN fB__rows
  have fl_arity := fld_ok (f := "arity") NN PN fB_arity
  have fl_width := fld_ok (f := "width") NN PN fB_width
  have h_Table___and__ : Has K C_Table "__and__" f_Table___and__ (PySem.W.fnOf "__and__" "Table.__and__" (defArgs s_Table___and__) (defBody s_Table___and__) (defScope s_Table___and__) .none kV_Table___and__ dc_Table___and__ pm_Table___and__ an_Table___and__ cd_Table___and__ ct_Table___and__) ["self", "other"] := ⟨at_Table___and__, fn_Table___and__, Binds.all fun us hl => match us, hl with | [_, _], _ => rfl⟩
  have h_Table___contains__ : Has K C_Table "__contains__" f_Table___contains__ (PySem.W.fnOf "__contains__" "Table.__contains__" (defArgs s_Table___contains__) (defBody s_Table___contains__) (defScope s_Table___contains__) .none kV_Table___contains__ dc_Table___contains__ pm_Table___contains__ an_Table___contains__ cd_Table___contains__ ct_Table___contains__) ["self", "row"] := ⟨at_Table___contains__, fn_Table___contains__, Binds.all fun us hl => match us, hl with | [_, _], _ => rfl⟩
  have h_Table___eq__ : Has K C_Table "__eq__" f_Table___eq__ (PySem.W.fnOf "__eq__" "Table.__eq__" (defArgs s_Table___eq__) (defBody s_Table___eq__) (defScope s_Table___eq__) .none kV_Table___eq__ dc_Table___eq__ pm_Table___eq__ an_Table___eq__ cd_Table___eq__ ct_Table___eq__) ["self", "other"] := ⟨at_Table___eq__, fn_Table___eq__, Binds.all fun us hl => match us, hl with | [_, _], _ => rfl⟩
  have h_Table___mul__ : Has K C_Table "__mul__" f_Table___mul__ (PySem.W.fnOf "__mul__" "Table.__mul__" (defArgs s_Table___mul__) (defBody s_Table___mul__) (defScope s_Table___mul__) .none kV_Table___mul__ dc_Table___mul__ pm_Table___mul__ an_Table___mul__ cd_Table___mul__ ct_Table___mul__) ["self", "other"] := ⟨at_Table___mul__, fn_Table___mul__, Binds.all fun us hl => match us, hl with | [_, _], _ => rfl⟩
  have h_ext := ext_ok (cl := [("Table", C_Table)]) NN exB_
  have is_Table := is_okC (c0 := "Table") NN PN iB_Table
  have is_bool := is_okB (yes := ["bool"]) NN PN iB_bool
  have is_int := is_okB (yes := ["int", "bool"]) NN PN iB_int
  have is_list := is_okB (yes := ["list"]) NN PN iB_list
  have is_tuple := is_okB (yes := ["tuple"]) NN PN iB_tuple
  have k_Table___init__ : Mk K C_Table f_Table___init__ := ⟨mk_Table, at_Table___init__, fn_Table___init__, kp_Table⟩
  have kp_Table_equal := kf_Table_equal
  have kp_Table_full := kf_Table_full
  have kp_Table_only := kf_Table_only
  have l_Table___and__ : LeftO K C_Table (Operator.BitAnd).info.2 := ⟨sf_Table, bk_Table_BitAnd⟩
  have l_Table___mul__ : LeftO K C_Table (Operator.Mult).info.2 := ⟨sf_Table, bk_Table_Mult⟩
  have m_Table_glued : Meth K C_Table "glued" f_Table_glued := ⟨at_Table_glued, fn_Table_glued, kf_Table_glued⟩
  have m_Table_renamed : Meth K C_Table "renamed" f_Table_renamed := ⟨at_Table_renamed, fn_Table_renamed, kf_Table_renamed⟩
  have m_Table_seen : Meth K C_Table "seen" f_Table_seen := ⟨at_Table_seen, fn_Table_seen, kf_Table_seen⟩
  have n_Table___eq__ := nf_ok (C := C_Table) NN PN nB_Table
  have ne_Table := nee_Table
  have ob_Table := obb_Table
  have p_Table_rows : PropOf K C_Table "rows" pr_Table_rows f_Table_rows := ⟨pat_Table_rows, pgt_Table_rows, ptk_Table_rows, rest_Table_rows, prc_Table_rows⟩
  have r_Table___and__ := rt_ok (nm := (Operator.BitAnd).info.2) (c0 := "Table") NN PN X_Table.hc (by decide +kernel) rB_Table_BitAnd
  have r_Table___mul__ := rt_ok (nm := (Operator.Mult).info.2) (c0 := "Table") NN PN X_Table.hc (by decide +kernel) rB_Table_Mult
  have s_Table_equal : StatM K C_Table "equal" f_Table_equal := ⟨⟨rd_Table, rg_Table⟩, st_Table_equal, srest_Table_equal, sat_Table_equal, src_Table_equal⟩
  have s_Table_full : StatM K C_Table "full" f_Table_full := ⟨⟨rd_Table, rg_Table⟩, st_Table_full, srest_Table_full, sat_Table_full, src_Table_full⟩
  have s_Table_only : StatM K C_Table "only" f_Table_only := ⟨⟨rd_Table, rg_Table⟩, st_Table_only, srest_Table_only, sat_Table_only, src_Table_only⟩
  have v_GREATEST_ARITY : ∃ t, mg "GREATEST_ARITY" = some (.int 3 t) := ⟨t_GREATEST_ARITY, PySem.W.mg_of X G vv_GREATEST_ARITY⟩
  have v_GREATEST_WIDTH : ∃ t, mg "GREATEST_WIDTH" = some (.int 3 t) := ⟨t_GREATEST_WIDTH, PySem.W.mg_of X G vv_GREATEST_WIDTH⟩
  refine ⟨PySem.W.fnOf "law" "law" (defArgs s_law) (defBody s_law) (defScope s_law) .none kV_law dc_law pm_law an_law cd_law ct_law, fun s v => .of_eq rfl, fun base _ _ => ?_⟩
  have G_Table_rows := ok_Table_rows (P := PySem.Challenge.pw_nearsettled_k02_tables_made_of_others) (w := w) (Γ := (gam [("Table", C_Table)] [("BadArity", C_BadArity), ("BadOrder", C_BadOrder), ("BadRow", C_BadRow), ("BadSpots", C_BadSpots), ("BadWidth", C_BadWidth), ("NoList", C_NoList), ("Unlike", C_Unlike)])) (mg := mg) (base := base) F_Table_rows fl__rows b_list
  have G__law_is := ok__law_is (P := PySem.Challenge.pw_nearsettled_k02_tables_made_of_others) (w := w) (Γ := (gam [("Table", C_Table)] [("BadArity", C_BadArity), ("BadOrder", C_BadOrder), ("BadRow", C_BadRow), ("BadSpots", C_BadSpots), ("BadWidth", C_BadWidth), ("NoList", C_NoList), ("Unlike", C_Unlike)])) (mg := mg) (base := base) F__law_is G_Table_rows p_Table_rows bd_Table_rows X_Table b_repr b_sorted b_set fl_arity fl_width b_isinstance is_Table
  have G_is_between := ok_is_between (P := PySem.Challenge.pw_nearsettled_k02_tables_made_of_others) (w := w) (Γ := (gam [("Table", C_Table)] [("BadArity", C_BadArity), ("BadOrder", C_BadOrder), ("BadRow", C_BadRow), ("BadSpots", C_BadSpots), ("BadWidth", C_BadWidth), ("NoList", C_NoList), ("Unlike", C_Unlike)])) (mg := mg) (base := base) F_is_between b_isinstance is_bool b_bool is_int b_int
  have G_is_below := ok_is_below (P := PySem.Challenge.pw_nearsettled_k02_tables_made_of_others) (w := w) (Γ := (gam [("Table", C_Table)] [("BadArity", C_BadArity), ("BadOrder", C_BadOrder), ("BadRow", C_BadRow), ("BadSpots", C_BadSpots), ("BadWidth", C_BadWidth), ("NoList", C_NoList), ("Unlike", C_Unlike)])) (mg := mg) (base := base) F_is_below c_is_between G_is_between
  have G_is_row := ok_is_row (P := PySem.Challenge.pw_nearsettled_k02_tables_made_of_others) (w := w) (Γ := (gam [("Table", C_Table)] [("BadArity", C_BadArity), ("BadOrder", C_BadOrder), ("BadRow", C_BadRow), ("BadSpots", C_BadSpots), ("BadWidth", C_BadWidth), ("NoList", C_NoList), ("Unlike", C_Unlike)])) (mg := mg) (base := base) F_is_row c_is_below G_is_below b_all b_len b_isinstance is_tuple b_tuple
  have G_check_arity := ok_check_arity (P := PySem.Challenge.pw_nearsettled_k02_tables_made_of_others) (w := w) (Γ := (gam [("Table", C_Table)] [("BadArity", C_BadArity), ("BadOrder", C_BadOrder), ("BadRow", C_BadRow), ("BadSpots", C_BadSpots), ("BadWidth", C_BadWidth), ("NoList", C_NoList), ("Unlike", C_Unlike)])) (mg := mg) (base := base) F_check_arity c_is_between G_is_between e_BadArity q_BadArity
  have G_check_width := ok_check_width (P := PySem.Challenge.pw_nearsettled_k02_tables_made_of_others) (w := w) (Γ := (gam [("Table", C_Table)] [("BadArity", C_BadArity), ("BadOrder", C_BadOrder), ("BadRow", C_BadRow), ("BadSpots", C_BadSpots), ("BadWidth", C_BadWidth), ("NoList", C_NoList), ("Unlike", C_Unlike)])) (mg := mg) (base := base) F_check_width c_is_between G_is_between v_GREATEST_WIDTH e_BadWidth q_BadWidth
  have G_Table___init__ := ok_Table___init__ (P := PySem.Challenge.pw_nearsettled_k02_tables_made_of_others) (w := w) (Γ := (gam [("Table", C_Table)] [("BadArity", C_BadArity), ("BadOrder", C_BadOrder), ("BadRow", C_BadRow), ("BadSpots", C_BadSpots), ("BadWidth", C_BadWidth), ("NoList", C_NoList), ("Unlike", C_Unlike)])) (mg := mg) (base := base) F_Table___init__ b_sorted b_set fl__rows fl_arity fl_width b_enumerate c_is_row G_is_row e_BadRow n_BadRow b_isinstance is_list b_list e_NoList q_NoList c_check_arity G_check_arity v_GREATEST_ARITY c_check_width G_check_width
  have G_check_order := ok_check_order (P := PySem.Challenge.pw_nearsettled_k02_tables_made_of_others) (w := w) (Γ := (gam [("Table", C_Table)] [("BadArity", C_BadArity), ("BadOrder", C_BadOrder), ("BadRow", C_BadRow), ("BadSpots", C_BadSpots), ("BadWidth", C_BadWidth), ("NoList", C_NoList), ("Unlike", C_Unlike)])) (mg := mg) (base := base) F_check_order b_len b_set c_is_row G_is_row b_tuple b_isinstance is_list b_list e_BadOrder q_BadOrder
  have G_Table_renamed := ok_Table_renamed (P := PySem.Challenge.pw_nearsettled_k02_tables_made_of_others) (w := w) (Γ := (gam [("Table", C_Table)] [("BadArity", C_BadArity), ("BadOrder", C_BadOrder), ("BadRow", C_BadRow), ("BadSpots", C_BadSpots), ("BadWidth", C_BadWidth), ("NoList", C_NoList), ("Unlike", C_Unlike)])) (mg := mg) (base := base) F_Table_renamed G_Table___init__ k_Table___init__ bd_Table___init__ X_Table fl__rows b_tuple fl_arity fl_width c_check_order G_check_order
  have G_Table_glued := ok_Table_glued (P := PySem.Challenge.pw_nearsettled_k02_tables_made_of_others) (w := w) (Γ := (gam [("Table", C_Table)] [("BadArity", C_BadArity), ("BadOrder", C_BadOrder), ("BadRow", C_BadRow), ("BadSpots", C_BadSpots), ("BadWidth", C_BadWidth), ("NoList", C_NoList), ("Unlike", C_Unlike)])) (mg := mg) (base := base) F_Table_glued G_Table___init__ k_Table___init__ bd_Table___init__ X_Table fl__rows fl_arity fl_width c_is_below G_is_below e_BadSpots q_BadSpots
  have G_Table_seen := ok_Table_seen (P := PySem.Challenge.pw_nearsettled_k02_tables_made_of_others) (w := w) (Γ := (gam [("Table", C_Table)] [("BadArity", C_BadArity), ("BadOrder", C_BadOrder), ("BadRow", C_BadRow), ("BadSpots", C_BadSpots), ("BadWidth", C_BadWidth), ("NoList", C_NoList), ("Unlike", C_Unlike)])) (mg := mg) (base := base) F_Table_seen G_Table___init__ k_Table___init__ bd_Table___init__ X_Table fl__rows b_tuple b_len fl_width c_is_row G_is_row fl_arity e_BadSpots q_BadSpots c_is_between G_is_between v_GREATEST_ARITY b_isinstance is_tuple
  have G__law_take := ok__law_take (P := PySem.Challenge.pw_nearsettled_k02_tables_made_of_others) (w := w) (Γ := (gam [("Table", C_Table)] [("BadArity", C_BadArity), ("BadOrder", C_BadOrder), ("BadRow", C_BadRow), ("BadSpots", C_BadSpots), ("BadWidth", C_BadWidth), ("NoList", C_NoList), ("Unlike", C_Unlike)])) (mg := mg) (base := base) F__law_take b_int
  have G__law_pick := ok__law_pick (P := PySem.Challenge.pw_nearsettled_k02_tables_made_of_others) (w := w) (Γ := (gam [("Table", C_Table)] [("BadArity", C_BadArity), ("BadOrder", C_BadOrder), ("BadRow", C_BadRow), ("BadSpots", C_BadSpots), ("BadWidth", C_BadWidth), ("NoList", C_NoList), ("Unlike", C_Unlike)])) (mg := mg) (base := base) F__law_pick c__law_take G__law_take b_len
  have G__law_all := ok__law_all (P := PySem.Challenge.pw_nearsettled_k02_tables_made_of_others) (w := w) (Γ := (gam [("Table", C_Table)] [("BadArity", C_BadArity), ("BadOrder", C_BadOrder), ("BadRow", C_BadRow), ("BadSpots", C_BadSpots), ("BadWidth", C_BadWidth), ("NoList", C_NoList), ("Unlike", C_Unlike)])) (mg := mg) (base := base) F__law_all b_range
  have G__law_twice_right := ok__law_twice_right (P := PySem.Challenge.pw_nearsettled_k02_tables_made_of_others) (w := w) (Γ := (gam [("Table", C_Table)] [("BadArity", C_BadArity), ("BadOrder", C_BadOrder), ("BadRow", C_BadRow), ("BadSpots", C_BadSpots), ("BadWidth", C_BadWidth), ("NoList", C_NoList), ("Unlike", C_Unlike)])) (mg := mg) (base := base) F__law_twice_right c__law_is G__law_is G_Table_renamed m_Table_renamed bd_Table_renamed X_Table b_tuple G_Table_glued m_Table_glued bd_Table_glued b_len G_Table_seen m_Table_seen bd_Table_seen c__law_pick G__law_pick c__law_all G__law_all b_set b_list b_range c__law_take G__law_take
  have G_Table_equal := ok_Table_equal (P := PySem.Challenge.pw_nearsettled_k02_tables_made_of_others) (w := w) (Γ := (gam [("Table", C_Table)] [("BadArity", C_BadArity), ("BadOrder", C_BadOrder), ("BadRow", C_BadRow), ("BadSpots", C_BadSpots), ("BadWidth", C_BadWidth), ("NoList", C_NoList), ("Unlike", C_Unlike)])) (mg := mg) (base := base) F_Table_equal G_Table___init__ k_Table___init__ bd_Table___init__ X_Table b_range c_check_width G_check_width
  have G_Table_only := ok_Table_only (P := PySem.Challenge.pw_nearsettled_k02_tables_made_of_others) (w := w) (Γ := (gam [("Table", C_Table)] [("BadArity", C_BadArity), ("BadOrder", C_BadOrder), ("BadRow", C_BadRow), ("BadSpots", C_BadSpots), ("BadWidth", C_BadWidth), ("NoList", C_NoList), ("Unlike", C_Unlike)])) (mg := mg) (base := base) F_Table_only G_Table___init__ k_Table___init__ bd_Table___init__ X_Table
  have G__tuple_after := ok__tuple_after (P := PySem.Challenge.pw_nearsettled_k02_tables_made_of_others) (w := w) (Γ := (gam [("Table", C_Table)] [("BadArity", C_BadArity), ("BadOrder", C_BadOrder), ("BadRow", C_BadRow), ("BadSpots", C_BadSpots), ("BadWidth", C_BadWidth), ("NoList", C_NoList), ("Unlike", C_Unlike)])) (mg := mg) (base := base) F__tuple_after b_len b_range
  have G_all_tuples := ok_all_tuples (P := PySem.Challenge.pw_nearsettled_k02_tables_made_of_others) (w := w) (Γ := (gam [("Table", C_Table)] [("BadArity", C_BadArity), ("BadOrder", C_BadOrder), ("BadRow", C_BadRow), ("BadSpots", C_BadSpots), ("BadWidth", C_BadWidth), ("NoList", C_NoList), ("Unlike", C_Unlike)])) (mg := mg) (base := base) l_all_tuples cd_all_tuples_ c__tuple_after G__tuple_after
  have G_Table_full := ok_Table_full (P := PySem.Challenge.pw_nearsettled_k02_tables_made_of_others) (w := w) (Γ := (gam [("Table", C_Table)] [("BadArity", C_BadArity), ("BadOrder", C_BadOrder), ("BadRow", C_BadRow), ("BadSpots", C_BadSpots), ("BadWidth", C_BadWidth), ("NoList", C_NoList), ("Unlike", C_Unlike)])) (mg := mg) (base := base) F_Table_full G_Table___init__ k_Table___init__ bd_Table___init__ X_Table c_all_tuples G_all_tuples b_list c_check_arity G_check_arity v_GREATEST_ARITY c_check_width G_check_width
  have G__law_static := ok__law_static (P := PySem.Challenge.pw_nearsettled_k02_tables_made_of_others) (w := w) (Γ := (gam [("Table", C_Table)] [("BadArity", C_BadArity), ("BadOrder", C_BadOrder), ("BadRow", C_BadRow), ("BadSpots", C_BadSpots), ("BadWidth", C_BadWidth), ("NoList", C_NoList), ("Unlike", C_Unlike)])) (mg := mg) (base := base) F__law_static h_ext G_Table_equal s_Table_equal bd_Table_equal kp_Table_equal X_Table G_Table_only s_Table_only bd_Table_only kp_Table_only G_Table_full s_Table_full bd_Table_full kp_Table_full e_BadRow fc_BadRow e_BadArity e_BadWidth
  have G__law_statics_right := ok__law_statics_right (P := PySem.Challenge.pw_nearsettled_k02_tables_made_of_others) (w := w) (Γ := (gam [("Table", C_Table)] [("BadArity", C_BadArity), ("BadOrder", C_BadOrder), ("BadRow", C_BadRow), ("BadSpots", C_BadSpots), ("BadWidth", C_BadWidth), ("NoList", C_NoList), ("Unlike", C_Unlike)])) (mg := mg) (base := base) F__law_statics_right c__law_static G__law_static b_range c__law_is G__law_is c__law_all G__law_all
  have G__law_asked := ok__law_asked (P := PySem.Challenge.pw_nearsettled_k02_tables_made_of_others) (w := w) (Γ := (gam [("Table", C_Table)] [("BadArity", C_BadArity), ("BadOrder", C_BadOrder), ("BadRow", C_BadRow), ("BadSpots", C_BadSpots), ("BadWidth", C_BadWidth), ("NoList", C_NoList), ("Unlike", C_Unlike)])) (mg := mg) (base := base) F__law_asked h_ext G_Table_glued m_Table_glued bd_Table_glued X_Table G_Table_renamed m_Table_renamed bd_Table_renamed G_Table_seen m_Table_seen bd_Table_seen e_BadOrder e_BadSpots
  have G_Table___eq__ := ok_Table___eq__ (P := PySem.Challenge.pw_nearsettled_k02_tables_made_of_others) (w := w) (Γ := (gam [("Table", C_Table)] [("BadArity", C_BadArity), ("BadOrder", C_BadOrder), ("BadRow", C_BadRow), ("BadSpots", C_BadSpots), ("BadWidth", C_BadWidth), ("NoList", C_NoList), ("Unlike", C_Unlike)])) (mg := mg) (base := base) F_Table___eq__ fl__rows fl_arity fl_width b_isinstance is_Table X_Table
  have G__law_odd_orders := ok__law_odd_orders (P := PySem.Challenge.pw_nearsettled_k02_tables_made_of_others) (w := w) (Γ := (gam [("Table", C_Table)] [("BadArity", C_BadArity), ("BadOrder", C_BadOrder), ("BadRow", C_BadRow), ("BadSpots", C_BadSpots), ("BadWidth", C_BadWidth), ("NoList", C_NoList), ("Unlike", C_Unlike)])) (mg := mg) (base := base) F__law_odd_orders b_list b_range
  have G__law_one_right := ok__law_one_right (P := PySem.Challenge.pw_nearsettled_k02_tables_made_of_others) (w := w) (Γ := (gam [("Table", C_Table)] [("BadArity", C_BadArity), ("BadOrder", C_BadOrder), ("BadRow", C_BadRow), ("BadSpots", C_BadSpots), ("BadWidth", C_BadWidth), ("NoList", C_NoList), ("Unlike", C_Unlike)])) (mg := mg) (base := base) F__law_one_right c__law_asked G__law_asked G_Table___eq__ h_Table___eq__ n_Table___eq__ ne_Table ob_Table X_Table c__law_odd_orders G__law_odd_orders b_list c__law_is G__law_is b_tuple c__law_pick G__law_pick c__law_all G__law_all b_len b_set c__law_take G__law_take b_range
  have G_Table___mul__ := ok_Table___mul__ (P := PySem.Challenge.pw_nearsettled_k02_tables_made_of_others) (w := w) (Γ := (gam [("Table", C_Table)] [("BadArity", C_BadArity), ("BadOrder", C_BadOrder), ("BadRow", C_BadRow), ("BadSpots", C_BadSpots), ("BadWidth", C_BadWidth), ("NoList", C_NoList), ("Unlike", C_Unlike)])) (mg := mg) (base := base) F_Table___mul__ G_Table___init__ k_Table___init__ bd_Table___init__ X_Table fl__rows G_Table_rows p_Table_rows bd_Table_rows fl_arity fl_width v_GREATEST_ARITY b_isinstance is_Table e_Unlike q_Unlike
  have G__law_behind := ok__law_behind (P := PySem.Challenge.pw_nearsettled_k02_tables_made_of_others) (w := w) (Γ := (gam [("Table", C_Table)] [("BadArity", C_BadArity), ("BadOrder", C_BadOrder), ("BadRow", C_BadRow), ("BadSpots", C_BadSpots), ("BadWidth", C_BadWidth), ("NoList", C_NoList), ("Unlike", C_Unlike)])) (mg := mg) (base := base) F__law_behind h_ext G_Table___mul__ h_Table___mul__ r_Table___mul__ l_Table___mul__ X_Table e_Unlike
  have G_Table___contains__ := ok_Table___contains__ (P := PySem.Challenge.pw_nearsettled_k02_tables_made_of_others) (w := w) (Γ := (gam [("Table", C_Table)] [("BadArity", C_BadArity), ("BadOrder", C_BadOrder), ("BadRow", C_BadRow), ("BadSpots", C_BadSpots), ("BadWidth", C_BadWidth), ("NoList", C_NoList), ("Unlike", C_Unlike)])) (mg := mg) (base := base) F_Table___contains__ fl__rows c_is_row G_is_row fl_arity fl_width
  have G_Table___and__ := ok_Table___and__ (P := PySem.Challenge.pw_nearsettled_k02_tables_made_of_others) (w := w) (Γ := (gam [("Table", C_Table)] [("BadArity", C_BadArity), ("BadOrder", C_BadOrder), ("BadRow", C_BadRow), ("BadSpots", C_BadSpots), ("BadWidth", C_BadWidth), ("NoList", C_NoList), ("Unlike", C_Unlike)])) (mg := mg) (base := base) F_Table___and__ G_Table___init__ k_Table___init__ bd_Table___init__ X_Table fl__rows G_Table___contains__ h_Table___contains__ fl_arity fl_width b_isinstance is_Table e_Unlike q_Unlike
  have G__law_both := ok__law_both (P := PySem.Challenge.pw_nearsettled_k02_tables_made_of_others) (w := w) (Γ := (gam [("Table", C_Table)] [("BadArity", C_BadArity), ("BadOrder", C_BadOrder), ("BadRow", C_BadRow), ("BadSpots", C_BadSpots), ("BadWidth", C_BadWidth), ("NoList", C_NoList), ("Unlike", C_Unlike)])) (mg := mg) (base := base) F__law_both h_ext G_Table___and__ h_Table___and__ r_Table___and__ l_Table___and__ X_Table e_Unlike
  have G__law_pairs_right := ok__law_pairs_right (P := PySem.Challenge.pw_nearsettled_k02_tables_made_of_others) (w := w) (Γ := (gam [("Table", C_Table)] [("BadArity", C_BadArity), ("BadOrder", C_BadOrder), ("BadRow", C_BadRow), ("BadSpots", C_BadSpots), ("BadWidth", C_BadWidth), ("NoList", C_NoList), ("Unlike", C_Unlike)])) (mg := mg) (base := base) F__law_pairs_right c__law_behind G__law_behind G_Table___eq__ h_Table___eq__ n_Table___eq__ ne_Table ob_Table X_Table c__law_both G__law_both c__law_is G__law_is
  have G__law_drawn_row := ok__law_drawn_row (P := PySem.Challenge.pw_nearsettled_k02_tables_made_of_others) (w := w) (Γ := (gam [("Table", C_Table)] [("BadArity", C_BadArity), ("BadOrder", C_BadOrder), ("BadRow", C_BadRow), ("BadSpots", C_BadSpots), ("BadWidth", C_BadWidth), ("NoList", C_NoList), ("Unlike", C_Unlike)])) (mg := mg) (base := base) F__law_drawn_row b_range c__law_take G__law_take b_tuple
  have G__law_drawn_rows := ok__law_drawn_rows (P := PySem.Challenge.pw_nearsettled_k02_tables_made_of_others) (w := w) (Γ := (gam [("Table", C_Table)] [("BadArity", C_BadArity), ("BadOrder", C_BadOrder), ("BadRow", C_BadRow), ("BadSpots", C_BadSpots), ("BadWidth", C_BadWidth), ("NoList", C_NoList), ("Unlike", C_Unlike)])) (mg := mg) (base := base) F__law_drawn_rows c__law_take G__law_take b_range c__law_drawn_row G__law_drawn_row
  have G__law_known_tables := ok__law_known_tables (P := PySem.Challenge.pw_nearsettled_k02_tables_made_of_others) (w := w) (Γ := (gam [("Table", C_Table)] [("BadArity", C_BadArity), ("BadOrder", C_BadOrder), ("BadRow", C_BadRow), ("BadSpots", C_BadSpots), ("BadWidth", C_BadWidth), ("NoList", C_NoList), ("Unlike", C_Unlike)])) (mg := mg) (base := base) F__law_known_tables b_min b_max b_sum b_int c__law_all G__law_all
  have G__law_drawn_table := ok__law_drawn_table (P := PySem.Challenge.pw_nearsettled_k02_tables_made_of_others) (w := w) (Γ := (gam [("Table", C_Table)] [("BadArity", C_BadArity), ("BadOrder", C_BadOrder), ("BadRow", C_BadRow), ("BadSpots", C_BadSpots), ("BadWidth", C_BadWidth), ("NoList", C_NoList), ("Unlike", C_Unlike)])) (mg := mg) (base := base) F__law_drawn_table c__law_drawn_rows G__law_drawn_rows b_sorted b_set c__law_take G__law_take c__law_pick G__law_pick c__law_known_tables G__law_known_tables
  have G__law_width := ok__law_width (P := PySem.Challenge.pw_nearsettled_k02_tables_made_of_others) (w := w) (Γ := (gam [("Table", C_Table)] [("BadArity", C_BadArity), ("BadOrder", C_BadOrder), ("BadRow", C_BadRow), ("BadSpots", C_BadSpots), ("BadWidth", C_BadWidth), ("NoList", C_NoList), ("Unlike", C_Unlike)])) (mg := mg) (base := base) F__law_width c__law_pick G__law_pick
  have G__law_feed := ok__law_feed (P := PySem.Challenge.pw_nearsettled_k02_tables_made_of_others) (w := w) (Γ := (gam [("Table", C_Table)] [("BadArity", C_BadArity), ("BadOrder", C_BadOrder), ("BadRow", C_BadRow), ("BadSpots", C_BadSpots), ("BadWidth", C_BadWidth), ("NoList", C_NoList), ("Unlike", C_Unlike)])) (mg := mg) (base := base) F__law_feed b_int b_abs b_max b_len
  have G_law := ok_law (P := PySem.Challenge.pw_nearsettled_k02_tables_made_of_others) (w := w) (Γ := (gam [("Table", C_Table)] [("BadArity", C_BadArity), ("BadOrder", C_BadOrder), ("BadRow", C_BadRow), ("BadSpots", C_BadSpots), ("BadWidth", C_BadWidth), ("NoList", C_NoList), ("Unlike", C_Unlike)])) (mg := mg) (base := base) F_law b_len b_min b_max b_range c__law_is G__law_is c__law_twice_right G__law_twice_right c__law_statics_right G__law_statics_right c__law_one_right G__law_one_right c__law_pairs_right G__law_pairs_right G_Table___init__ k_Table___init__ bd_Table___init__ X_Table b_list c__law_take G__law_take c__law_drawn_table G__law_drawn_table b_tuple c__law_pick G__law_pick c__law_drawn_rows G__law_drawn_rows b_sorted b_set c__law_width G__law_width c__law_feed G__law_feed
  exact noX G_law (sp_law fun ns hl => p_law hl)
end EV
open PySem PySem.W PyProof.Rows
set_option maxRecDepth 100000 in
set_option maxHeartbeats 0 in
theorem PySem.Challenge.cw_nearsettled_k02_tables_made_of_others_holds : PySem.Challenge.rw_nearsettled_k02_tables_made_of_others.Holds := by
  w_on; o_law; k_head; (case hw => w_witness2)
  k_fill
  refine L2.walk_ofG (l := PySem.Challenge.rw_nearsettled_k02_tables_made_of_others) (n := 63) (k := 9) (x := "script") (sp := EV.spLaw63) rfl (by decide) rfl ⟨rfl, by decide, by decide⟩ (fun w h Y => PySem.W.kIn_of Y) ?F (fun K H a ns hl hS => ⟨a, ns, rfl, hS, hl, fun _ => rfl⟩)
  case F =>
    intro w mg fa h KX G hmg
    refine' EV.all_mk KX G hmg rfl ?a_Table ?a_BadArity ?a_BadOrder ?a_BadRow ?a_BadSpots ?a_BadWidth ?a_NoList ?a_Unlike ?pat_Table_rows ?sat_Table_equal ?sat_Table_full ?sat_Table_only ?prc_Table_rows ?src_Table_equal ?src_Table_full ?src_Table_only ?g__law_is_ ?g_is_between_ ?g_is_below_ ?g_is_row_ ?g_check_arity_ ?g_check_width_ ?g_check_order_ ?g__law_take_ ?g__law_pick_ ?g__law_all_ ?g__law_twice_right_ ?g__tuple_after_ ?g_all_tuples_ ?g__law_static_ ?g__law_statics_right_ ?g__law_asked_ ?g__law_odd_orders_ ?g__law_one_right_ ?g__law_behind_ ?g__law_both_ ?g__law_pairs_right_ ?g__law_drawn_row_ ?g__law_drawn_rows_ ?g__law_known_tables_ ?g__law_drawn_table_ ?g__law_width_ ?g__law_feed_ ?g_law_ ?ic_BadRow ?at_Table___and__ ?at_Table___contains__ ?at_Table___eq__ ?at_Table___mul__ ?at_Table___init__ ?at_Table_glued ?at_Table_renamed ?at_Table_seen ?vv_GREATEST_ARITY ?vv_GREATEST_WIDTH ?xl_BadRow ?l_Table_rows ?l__law_is ?l_is_between ?l_is_below ?l_is_row ?l_check_arity ?l_check_width ?l_Table___init__ ?l_check_order ?l_Table_renamed ?l_Table_glued ?l_Table_seen ?l__law_take ?l__law_pick ?l__law_all ?l__law_twice_right ?l_Table_equal ?l_Table_only ?l__tuple_after ?l_all_tuples ?l_Table_full ?l__law_static ?l__law_statics_right ?l__law_asked ?l_Table___eq__ ?l__law_odd_orders ?l__law_one_right ?l_Table___mul__ ?l__law_behind ?l_Table___contains__ ?l_Table___and__ ?l__law_both ?l__law_pairs_right ?l__law_drawn_row ?l__law_drawn_rows ?l__law_known_tables ?l__law_drawn_table ?l__law_width ?l__law_feed ?l_law ?li_BadRow ?cdx_BadRow ?vs_BadRow ?ce_BadRow ?cd_Table_rows_ ?kf_Table_rows ?cd__law_is_ ?kf__law_is ?cd_is_between_ ?kf_is_between ?cd_is_below_ ?kf_is_below ?cd_is_row_ ?kf_is_row ?cd_check_arity_ ?kf_check_arity ?cd_check_width_ ?kf_check_width ?cd_Table___init___ ?kf_Table___init__ ?cd_check_order_ ?kf_check_order ?cd_Table_renamed_ ?kf_Table_renamed ?cd_Table_glued_ ?kf_Table_glued ?cd_Table_seen_ ?kf_Table_seen ?cd__law_take_ ?kf__law_take ?cd__law_pick_ ?kf__law_pick ?cd__law_all_ ?kf__law_all ?cd__law_twice_right_ ?kf__law_twice_right ?cd_Table_equal_ ?kf_Table_equal ?cd_Table_only_ ?kf_Table_only ?cd__tuple_after_ ?kf__tuple_after ?cd_all_tuples_ ?kf_all_tuples ?cd_Table_full_ ?kf_Table_full ?cd__law_static_ ?kf__law_static ?cd__law_statics_right_ ?kf__law_statics_right ?cd__law_asked_ ?kf__law_asked ?cd_Table___eq___ ?kf_Table___eq__ ?cd__law_odd_orders_ ?kf__law_odd_orders ?cd__law_one_right_ ?kf__law_one_right ?cd_Table___mul___ ?kf_Table___mul__ ?cd__law_behind_ ?kf__law_behind ?cd_Table___contains___ ?kf_Table___contains__ ?cd_Table___and___ ?kf_Table___and__ ?cd__law_both_ ?kf__law_both ?cd__law_pairs_right_ ?kf__law_pairs_right ?cd__law_drawn_row_ ?kf__law_drawn_row ?cd__law_drawn_rows_ ?kf__law_drawn_rows ?cd__law_known_tables_ ?kf__law_known_tables ?cd__law_drawn_table_ ?kf__law_drawn_table ?cd__law_width_ ?kf__law_width ?cd__law_feed_ ?kf__law_feed ?cd_law_ ?kf_law ?hn_ ?ht_ ?tp_ ?m_super_ ?tpg_Table ?thd_Table ?tpo_Table ?tsa_Table ?tcl_Table ?tob_Table ?xk_BadArity ?xe_BadArity ?xt_BadArity ?xk_BadOrder ?xe_BadOrder ?xt_BadOrder ?xk_BadRow ?xe_BadRow ?xt_BadRow ?xk_BadSpots ?xe_BadSpots ?xt_BadSpots ?xk_BadWidth ?xe_BadWidth ?xt_BadWidth ?xk_NoList ?xe_NoList ?xt_NoList ?xk_Unlike ?xe_Unlike ?xt_Unlike ?rv_BadRow ?sa_BadRow ?ga_BadRow ?gg_BadRow ?no_BadRow ?ti_BadRow ?hd_BadRow ?ex1_BadRow ?sv_BadRow ?sm_BadRow ?su_BadRow ?ci_BadRow ?fi_BadRow ?mm_abs ?mm_all ?mm_bool ?mm_enumerate ?mm_int ?mm_isinstance ?mm_len ?mm_list ?mm_max ?mm_min ?mm_range ?mm_repr ?mm_set ?mm_sorted ?mm_sum ?mm_tuple ?fB__rows ?fB_arity ?fB_width ?fn_Table___and__ ?fn_Table___contains__ ?fn_Table___eq__ ?fn_Table___mul__ ?exB_ ?iB_Table ?iB_bool ?iB_int ?iB_list ?iB_tuple ?fn_Table___init__ ?mk_Table ?kp_Table ?sf_Table ?bk_Table_BitAnd ?bk_Table_Mult ?fn_Table_glued ?fn_Table_renamed ?fn_Table_seen ?nB_Table ?nee_Table ?obb_Table ?pgt_Table_rows ?ptk_Table_rows ?q_BadArity ?q_BadOrder ?q_BadSpots ?q_BadWidth ?q_NoList ?q_Unlike ?rB_Table_BitAnd ?rB_Table_Mult ?rd_Table ?rg_Table
    (case a_Table => k_is)
    (case a_BadArity => k_is)
    (case a_BadOrder => k_is)
    (case a_BadRow => k_is)
    (case a_BadSpots => k_is)
    (case a_BadWidth => k_is)
    (case a_NoList => k_is)
    (case a_Unlike => k_is)
    (case pat_Table_rows => k_is)
    (case sat_Table_equal => first | k_is | rfl | kernel_rfl)
    (case sat_Table_full => first | k_is | rfl | kernel_rfl)
    (case sat_Table_only => first | k_is | rfl | kernel_rfl)
    (case prc_Table_rows => first | k_is | rfl | kernel_rfl)
    (case src_Table_equal => first | k_is | rfl | kernel_rfl)
    (case src_Table_full => first | k_is | rfl | kernel_rfl)
    (case src_Table_only => first | k_is | rfl | kernel_rfl)
    (case g__law_is_ => k_is)
    (case g_is_between_ => k_is)
    (case g_is_below_ => k_is)
    (case g_is_row_ => k_is)
    (case g_check_arity_ => k_is)
    (case g_check_width_ => k_is)
    (case g_check_order_ => k_is)
    (case g__law_take_ => k_is)
    (case g__law_pick_ => k_is)
    (case g__law_all_ => k_is)
    (case g__law_twice_right_ => k_is)
    (case g__tuple_after_ => k_is)
    (case g_all_tuples_ => k_is)
    (case g__law_static_ => k_is)
    (case g__law_statics_right_ => k_is)
    (case g__law_asked_ => k_is)
    (case g__law_odd_orders_ => k_is)
    (case g__law_one_right_ => k_is)
    (case g__law_behind_ => k_is)
    (case g__law_both_ => k_is)
    (case g__law_pairs_right_ => k_is)
    (case g__law_drawn_row_ => k_is)
    (case g__law_drawn_rows_ => k_is)
    (case g__law_known_tables_ => k_is)
    (case g__law_drawn_table_ => k_is)
    (case g__law_width_ => k_is)
    (case g__law_feed_ => k_is)
    (case g_law_ => k_is)
    (case ic_BadRow => k_is)
    (case at_Table___and__ => k_is)
    (case at_Table___contains__ => k_is)
    (case at_Table___eq__ => k_is)
    (case at_Table___mul__ => k_is)
    (case at_Table___init__ => k_is)
    (case at_Table_glued => k_is)
    (case at_Table_renamed => k_is)
    (case at_Table_seen => k_is)
    (case vv_GREATEST_ARITY => k_is)
    (case vv_GREATEST_WIDTH => k_is)
    (case xl_BadRow => k_is)
    (case l_Table_rows => k_is)
    (case l__law_is => k_is)
    (case l_is_between => k_is)
    (case l_is_below => k_is)
    (case l_is_row => k_is)
    (case l_check_arity => k_is)
    (case l_check_width => k_is)
    (case l_Table___init__ => k_is)
    (case l_check_order => k_is)
    (case l_Table_renamed => k_is)
    (case l_Table_glued => k_is)
    (case l_Table_seen => k_is)
    (case l__law_take => k_is)
    (case l__law_pick => k_is)
    (case l__law_all => k_is)
    (case l__law_twice_right => k_is)
    (case l_Table_equal => k_is)
    (case l_Table_only => k_is)
    (case l__tuple_after => k_is)
    (case l_all_tuples => k_is)
    (case l_Table_full => k_is)
    (case l__law_static => k_is)
    (case l__law_statics_right => k_is)
    (case l__law_asked => k_is)
    (case l_Table___eq__ => k_is)
    (case l__law_odd_orders => k_is)
    (case l__law_one_right => k_is)
    (case l_Table___mul__ => k_is)
    (case l__law_behind => k_is)
    (case l_Table___contains__ => k_is)
    (case l_Table___and__ => k_is)
    (case l__law_both => k_is)
    (case l__law_pairs_right => k_is)
    (case l__law_drawn_row => k_is)
    (case l__law_drawn_rows => k_is)
    (case l__law_known_tables => k_is)
    (case l__law_drawn_table => k_is)
    (case l__law_width => k_is)
    (case l__law_feed => k_is)
    (case l_law => k_is)
    (case li_BadRow => k_is)
    (case cdx_BadRow => k_is)
    (case vs_BadRow => rfl)
    (case ce_BadRow => k_is)
    (case cd_Table_rows_ => k_is)
    (case kf_Table_rows => k_is)
    (case cd__law_is_ => k_is)
    (case kf__law_is => k_is)
    (case cd_is_between_ => k_is)
    (case kf_is_between => k_is)
    (case cd_is_below_ => k_is)
    (case kf_is_below => k_is)
    (case cd_is_row_ => k_is)
    (case kf_is_row => k_is)
    (case cd_check_arity_ => k_is)
    (case kf_check_arity => k_is)
    (case cd_check_width_ => k_is)
    (case kf_check_width => k_is)
    (case cd_Table___init___ => k_is)
    (case kf_Table___init__ => k_is)
    (case cd_check_order_ => k_is)
    (case kf_check_order => k_is)
    (case cd_Table_renamed_ => k_is)
    (case kf_Table_renamed => k_is)
    (case cd_Table_glued_ => k_is)
    (case kf_Table_glued => k_is)
    (case cd_Table_seen_ => k_is)
    (case kf_Table_seen => k_is)
    (case cd__law_take_ => k_is)
    (case kf__law_take => k_is)
    (case cd__law_pick_ => k_is)
    (case kf__law_pick => k_is)
    (case cd__law_all_ => k_is)
    (case kf__law_all => k_is)
    (case cd__law_twice_right_ => k_is)
    (case kf__law_twice_right => k_is)
    (case cd_Table_equal_ => k_is)
    (case kf_Table_equal => k_is)
    (case cd_Table_only_ => k_is)
    (case kf_Table_only => k_is)
    (case cd__tuple_after_ => k_is)
    (case kf__tuple_after => k_is)
    (case cd_all_tuples_ => k_is)
    (case kf_all_tuples => k_is)
    (case cd_Table_full_ => k_is)
    (case kf_Table_full => k_is)
    (case cd__law_static_ => k_is)
    (case kf__law_static => k_is)
    (case cd__law_statics_right_ => k_is)
    (case kf__law_statics_right => k_is)
    (case cd__law_asked_ => k_is)
    (case kf__law_asked => k_is)
    (case cd_Table___eq___ => k_is)
    (case kf_Table___eq__ => k_is)
    (case cd__law_odd_orders_ => k_is)
    (case kf__law_odd_orders => k_is)
    (case cd__law_one_right_ => k_is)
    (case kf__law_one_right => k_is)
    (case cd_Table___mul___ => k_is)
    (case kf_Table___mul__ => k_is)
    (case cd__law_behind_ => k_is)
    (case kf__law_behind => k_is)
    (case cd_Table___contains___ => k_is)
    (case kf_Table___contains__ => k_is)
    (case cd_Table___and___ => k_is)
    (case kf_Table___and__ => k_is)
    (case cd__law_both_ => k_is)
    (case kf__law_both => k_is)
    (case cd__law_pairs_right_ => k_is)
    (case kf__law_pairs_right => k_is)
    (case cd__law_drawn_row_ => k_is)
    (case kf__law_drawn_row => k_is)
    (case cd__law_drawn_rows_ => k_is)
    (case kf__law_drawn_rows => k_is)
    (case cd__law_known_tables_ => k_is)
    (case kf__law_known_tables => k_is)
    (case cd__law_drawn_table_ => k_is)
    (case kf__law_drawn_table => k_is)
    (case cd__law_width_ => k_is)
    (case kf__law_width => k_is)
    (case cd__law_feed_ => k_is)
    (case kf__law_feed => k_is)
    (case cd_law_ => k_is)
    (case kf_law => k_is)
    (case hn_ => k_is)
    (case ht_ => k_is)
    (case tp_ => k_is)
    (case m_super_ => k_is)
    (case tpg_Table => k_is)
    (case thd_Table => k_is)
    (case tpo_Table => k_is)
    (case tsa_Table => k_is)
    (case tcl_Table => k_is)
    (case tob_Table => k_is)
    (case xk_BadArity => k_is)
    (case xe_BadArity => k_is)
    (case xt_BadArity => k_is)
    (case xk_BadOrder => k_is)
    (case xe_BadOrder => k_is)
    (case xt_BadOrder => k_is)
    (case xk_BadRow => k_is)
    (case xe_BadRow => k_is)
    (case xt_BadRow => k_is)
    (case xk_BadSpots => k_is)
    (case xe_BadSpots => k_is)
    (case xt_BadSpots => k_is)
    (case xk_BadWidth => k_is)
    (case xe_BadWidth => k_is)
    (case xt_BadWidth => k_is)
    (case xk_NoList => k_is)
    (case xe_NoList => k_is)
    (case xt_NoList => k_is)
    (case xk_Unlike => k_is)
    (case xe_Unlike => k_is)
    (case xt_Unlike => k_is)
    (case rv_BadRow => decide +kernel)
    (case sa_BadRow => k_is)
    (case ga_BadRow => k_is)
    (case gg_BadRow => k_is)
    (case no_BadRow => k_is)
    (case ti_BadRow => k_is)
    (case hd_BadRow => k_is)
    (case ex1_BadRow => first | rfl | k_is | kernel_rfl)
    (case sv_BadRow => k_is)
    (case sm_BadRow => k_is)
    (case su_BadRow => first | k_is | ks_is | kernel_rfl)
    (case ci_BadRow => k_is)
    (case fi_BadRow => decide +kernel)
    (case mm_abs => k_is)
    (case mm_all => k_is)
    (case mm_bool => k_is)
    (case mm_enumerate => k_is)
    (case mm_int => k_is)
    (case mm_isinstance => k_is)
    (case mm_len => k_is)
    (case mm_list => k_is)
    (case mm_max => k_is)
    (case mm_min => k_is)
    (case mm_range => k_is)
    (case mm_repr => k_is)
    (case mm_set => k_is)
    (case mm_sorted => k_is)
    (case mm_sum => k_is)
    (case mm_tuple => k_is)
    (case fB__rows => kernel_rfl)
    (case fB_arity => kernel_rfl)
    (case fB_width => kernel_rfl)
    (case fn_Table___and__ => k_is)
    (case fn_Table___contains__ => k_is)
    (case fn_Table___eq__ => k_is)
    (case fn_Table___mul__ => k_is)
    (case exB_ => kernel_rfl)
    (case iB_Table => kernel_rfl)
    (case iB_bool => kernel_rfl)
    (case iB_int => kernel_rfl)
    (case iB_list => kernel_rfl)
    (case iB_tuple => kernel_rfl)
    (case fn_Table___init__ => k_is)
    (case mk_Table => k_is)
    (case kp_Table => k_is)
    (case sf_Table => first | k_is | rfl | kernel_rfl)
    (case bk_Table_BitAnd => first | k_is | rfl | kernel_rfl)
    (case bk_Table_Mult => first | k_is | rfl | kernel_rfl)
    (case fn_Table_glued => k_is)
    (case fn_Table_renamed => k_is)
    (case fn_Table_seen => k_is)
    (case nB_Table => kernel_rfl)
    (case nee_Table => k_is)
    (case obb_Table => k_is)
    (case pgt_Table_rows => k_is)
    (case ptk_Table_rows => k_is)
    (case q_BadArity => first | k_exc | k_is | kernel_rfl)
    (case q_BadOrder => first | k_exc | k_is | kernel_rfl)
    (case q_BadSpots => first | k_exc | k_is | kernel_rfl)
    (case q_BadWidth => first | k_exc | k_is | kernel_rfl)
    (case q_NoList => first | k_exc | k_is | kernel_rfl)
    (case q_Unlike => first | k_exc | k_is | kernel_rfl)
    (case rB_Table_BitAnd => kernel_rfl)
    (case rB_Table_Mult => kernel_rfl)
    (case rd_Table => first | k_is | rfl | kernel_rfl)
    (case rg_Table => first | k_is | rfl | kernel_rfl)
