import PyProof.Rows.All
import Wide.All
import OpenK.AllK
import Wide.FinOn
import PyProof.EqAt
import PyProof.EqKinds
import PyProof.TupleCall
import KE.KExcSuper
import KE.KSuper
import HandS.ForExc
import HandS.ExcInit
import PyProof.FString
import PyProof.FString2
import PyProof.FString4
import PyProof.ReprRoads
import HandS.ForMost
import PyProof.ReprReads
import PyProof.Rows.RowBridgeK
import HandS.ExcIs
import HandS.ExcValue
import HandS.ExcBuiltin
import KE.KExcIs
import OpenK.KMore
import PyProof.ReprLen
import HandS.RaiseMore
import HandS.IsInst
import HandS.TryMany
import HandS.Walk
import HandS.Defaults
import HandS.OwnEq
import HandS.ExcOwn
import HandS.Property
import PyProof.InstNe
import PyProof.Rows.SeqRoads
import HandS.TupSets
import HandS.WordsExc
import HandS.TupMul
import HandS.TupAny
import PyProof.StrOps2
import HandS.Comp
import KE.KEqDeep
import HandS.Deep
import HandS.Style
import KE.RegKSuper
import PySem.Challenge.RW_nearsettled_k01_what_is_a_table
set_option Elab.async false
set_option linter.all false
set_option maxRecDepth 100000
set_option maxHeartbeats 4000000
/-! An own error class over an own base over ValueError, whose __init__ says super().__init__(text) and stores one field. -/
namespace PySem
namespace NearX
open PySem.W PySem.Calls PyProof.Rows PySem.HandSPX

def iA (f : Str) (p1 p2 : Pos) : Arguments := { posonlyargs := [], args := [{ arg := "self", annotation := none, pos := p1 }, { arg := f, annotation := none, pos := p2 }], vararg := none, kwonlyargs := [], kw_defaults := [], kwarg := none, defaults := [] }
def iB (f : Str) (parts : List Expr) (jp a b c d e q1 q2 q3 q4 : Pos) : List Stmt :=
  [.Expr (.Call (.Attribute (.Call (.Name "super" a) [] [] b) "__init__" c) [.JoinedStr parts jp] [] d) e, .Assign [.Attribute (.Name "self" q1) f q2] (.Name f q3) q4]
def iS (f : Str) : Scope := { kind := .function, names := [(PySem.Str.ofString "self", .local), (f, .local), (PySem.Str.ofString "__class__", .free), (PySem.Str.ofString "super", .globalImplicit)], isGenerator := false, isCoroutine := false, more := [] }

/-- what the written part says of the class named x at C, of its __init__ at fI, which stores the field f -/
structure NearTxt (P : Program) (K : Frag) (mg : Str → Option Value) (x f : Str) (C fI : Addr) (parts : List Expr) (jp : Pos) : Prop where
  fs : f = "number" ∨ f = "answer" ∨ f = "line"
  gC : mg x = some (.ref C)
  cls : ∃ nm q N bs bm sn sub ab col dd k0 k1 k2 k3 k5, K.lookup C = some (excClassObj nm q C N bs bm true sn sub ab col dd k0 k1 k2 k3 k5 "ValueError.__new__") ∧ refsVE bm = true
  sa : findIn K (.ref C) "__setattr__" = some (some (.builtin "object.__setattr__"))
  ga : findIn K (.ref C) "__getattribute__" = some (some (.builtin "BaseException.__getattribute__"))
  gg : findIn K (.ref C) "__getattr__" = some none
  noN : findIn K (.ref C) f = some none
  iC : findIn K (.ref C) "__init__" = some (some (.ref fI))
  tC : typeIn K (.ref fI) = some (.type "function")
  kC : keepIn K (.ref C) = true
  exC : subIn K (.ref C) (.type "BaseException") = some true
  tyC : typeIn K (.ref C) = some (.type "type")
  hdC : hasDictIn K C = true
  te : exmOne K (.ref C) (.ref C) = some true
  subV : subIn K (.ref C) (.type "ValueError") = some true
  subC : mroIn K C (.ref C) = some true
  tp : nsIn K cStatics "thirdparty.any" = some none
  sup : ks_superIn K C C "__init__" = some (some (.builtin "ValueError.__init__"))
  nosup : mg "super" = none
  htop : (P.main.scope.names.lookup ("super" : Str)).isSome = false
  fn : ∃ (oc : Value) (od : Option Addr) (doc pm : Value) (an : Option Addr) (cda : Addr) (ct : Value) (osl : Array (Option Value)) (cc : Addr) (qual : Str) (p1 p2 a b c d e q1 q2 q3 q4 : Pos),
    K.lookup fI = some ⟨oc, od, .func (ksFn "__init__" qual (iA f p1 p2) (iB f parts jp a b c d e q1 q2 q3 q4) (iS f) .none .none doc pm an (.ref cda) ct cc), osl⟩ ∧ codeIn K (.ref cda) qual = true ∧
    (∃ (ccl : Value) (cdd : Option Addr) (vs : Array Value) (ccs : Array (Option Value)) (file : Str) (tf : Tok), K.lookup cda = some ⟨ccl, cdd, .fields vs, ccs⟩ ∧ vs[2]? = some (.str file tf) ∧ ((P.main.file : Str) == file) = true) ∧
    (∃ (cl : Value) (cld : Option Addr) (csl : Array (Option Value)), K.lookup cc = some ⟨cl, cld, .cell (some (.ref C)), csl⟩) ∧
    (∃ pl : Sem Bool, ∀ env : Env, eval (.Call (.Attribute (.Call (.Name "super" a) [] [] b) "__init__" c) [.JoinedStr parts jp] [] d) env = (do
      let ov ← attributeBase (.Call (.Name "super" a) [] [] b) "__init__" env (eval (.Call (.Name "super" a) [] [] b) env)
      standAt c.atName
      let (g, first) ← holding [ov] (getMethod ov "__init__" pl)
      callWith d g first (backTo d (starEach [.JoinedStr parts jp] env)) []))

/-- what __init__ leaves of a fresh exception at x -/
structure InitEnd (h h' : Heap) (x C dx : Addr) (f : Str) (v : Value) : Prop where
  keep : ∀ b o, b ≠ x → h.get? b = some o → h'.get? b = some o
  obj : ∃ t1, h'.get? x = some { cls := .ref C, dict := some dx, data := .fields #[.ref t1, .none, .none, .none, .bool false, .none] }
  dbig : h.objs.size ≤ dx
  dne : dx ≠ x
  ns : h'.Ns1 dx (fun y => if y = f then some v else none)
/-- a made one -/
structure OwnMade (h h' : Heap) (e C d : Addr) (f : Str) (v : Value) : Prop where
  keep : ∀ b o, h.get? b = some o → h'.get? b = some o
  new : h.objs.size ≤ e
  obj : ∃ t1, h'.get? e = some { cls := .ref C, dict := some d, data := .fields #[.ref t1, .none, .none, .none, .bool false, .none] }
  dbig : h.objs.size ≤ d
  dne : d ≠ e
  ns : h'.Ns1 d (fun y => if y = f then some v else none)
theorem boot_super : bootBuiltins "super" = some (.type "super") := by decide +kernel
theorem one_size (v : Value) : [v].length ≤ sizeLine := by
  rw [sizeLine_eq]
  exact (by decide : 1 ≤ 16777216)

section
variable {prog : Program} {w : World}
/-- the text that goes to super().__init__: it is made, whatever it is, and nothing that stood is changed -/
def ArgOk (prog : Program) (w : World) (A : Around) (f : Str) (arg : Expr) (h0 : Heap) (x : Addr) (v : Value) : Prop :=
  ∀ (qual : Str) (fI cc L : Addr) (cdv : Value) (s : Shared) (Q : Value → Shared → Prop) (E : Value → Shared → Prop), (∀ b o, h0.get? b = some o → s.heap.get? b = some o) → s.heap.Ns L (fun y => List.lookup y [(f, v), (PySem.Str.ofString "self", Value.ref x)]) →
    (∀ u h' tk, (∀ b o, s.heap.get? b = some o → h'.get? b = some o) → Q u { s with heap := h', toks := tk }) →
    wpAny (model prog w) (A.deeper (ksEnv qual (iS f) L fI cdv cc)) (eval arg (ksEnv qual (iS f) L fI cdv cc)) Q E s
end

section
variable {prog : Program} {w : World} {A : Around} {E : Value → Shared → Prop} {R : Result → Shared → Prop} {h : Heap} {g : Array GenState} {d : Drawn} {t : Nat} {os : OsState}
variable {nm q : Str} {C N : Addr} {bs bm : List Value} {sn : List Str} {sub : List Value} {ab : Bool} {col : Option Bool} {dd : Option Addr} {k0 k1 k2 k3 k5 : Option Value} {kw : List (Str × Value)}
theorem kw_checkT {M : Model} {Q : Unit → Shared → Prop} (hC : h.get? C = some (excClassObj nm q C N bs bm true sn sub ab col dd k0 k1 k2 k3 k5 "ValueError.__new__")) (hq : Q () ⟨h, g, d, t, os⟩) :
    wpAny M A (checkBuiltinCall "type.__call__" ⟨[.ref C], kw⟩) Q E ⟨h, g, d, t, os⟩ := by
  have f3 := tc_sub
  have hT : (⟨h, g, d, t, os⟩ : Shared).TypeIs (.ref C) "type" := ⟨_, hC, rfl⟩
  simp only [checkBuiltinCall, tc_kind, tc_split]
  repeat (any_goals (first | assumption | with_reducible refine wpAny_loadPart_at hC ?_ | wp_step))
theorem kw_checkN {M : Model} {Q : Unit → Shared → Prop} (hm : refsVE bm = true) (hC : h.get? C = some (excClassObj nm q C N bs bm true sn sub ab col dd k0 k1 k2 k3 k5 "ValueError.__new__")) (hq : Q () ⟨h, g, d, t, os⟩) :
    wpAny M A (checkBuiltinCall "ValueError.__new__" ⟨[.ref C], kw⟩) Q E ⟨h, g, d, t, os⟩ := by
  have FB := PySem.F.excBase_ValueError
  have has : (Value.ref C :: bm).contains (.type "ValueError") = true := by rw [List.contains_cons, refsVE_contains _ bm hm, FB.hasB, Bool.or_true]
  have star := FB.noStar
  simp only [checkBuiltinCall, FB.newKind, FB.newSplit, FB.newRow]
  repeat (first | refine wpAny_loadPart_at hC ?_ | (refine wpAny_isSubtype_exc hC ?_; rw [has]) | refine wpAny_staticBase_exc hC ?_ | refine wpAny_madeBy_exc hC ?_ | simp only [bne_self_eq_false, Bool.false_eq_true, if_false] | wp_step)
  exact hq
theorem kw_new (hm : refsVE bm = true) (hC : h.get? C = some (excClassObj nm q C N bs bm true sn sub ab col dd k0 k1 k2 k3 k5 "ValueError.__new__"))
    (hq : R (.ok (.ret (.ref (h.objs.size + 1)))) ⟨(h.push (kdv_tup [])).push (excO C h.objs.size), g, d, t, os⟩) : codeAny (model prog w) A (.builtin "ValueError.__new__" ⟨[.ref C], kw⟩) R ⟨h, g, d, t, os⟩ := by
  have FB := PySem.F.excBase_ValueError
  have ends := FB.ends
  have cB : (Value.ref C :: bm).contains (.type "ValueError") = true := by rw [List.contains_cons, refsVE_contains _ bm hm, FB.hasB, Bool.or_true]
  have cA : (Value.ref C :: bm).contains (.type "AttributeError") = false := by rw [List.contains_cons, refsVE_contains _ bm hm, FB.noAttr]; rfl
  have cN : (Value.ref C :: bm).contains (.type "NameError") = false := by rw [List.contains_cons, refsVE_contains _ bm hm, FB.noName]; rfl
  refine codeAny_builtinAt FB.entry ?_
  unfold Builtin.«BaseException.__new__»
  refine wpAt_bind ?_
  show wpAt _ _ _ (stack >>= _) _ _ _
  refine wpAt_bind (wpAt_stack fun p below => wpAt_of_wpAny ?_)
  wp_walk
  refine wpAt_of_wpAny ?_
  rw [FB.owner]
  repeat (first | with_reducible refine wpAny_madeHere_exc FB.canon hC ?_ | with_reducible refine wpAny_loadPart_at hC ?_ | (with_reducible refine wpAny_isSubtype_exc hC ?_; first | rw [cB] | rw [cA] | rw [cN]) | wp_step)
  show R _ _
  rw [Heap.size_push]
  exact hq
theorem kw_typeCall {fI : Addr} {Q : Fin → Shared → Prop} (hm : refsVE bm = true) (hC : h.get? C = some (excClassObj nm q C N bs bm true sn sub ab col dd k0 k1 k2 k3 k5 "ValueError.__new__"))
    (hi : Looks (model prog w) h (typeLookup (.ref C) "__init__") (some (.ref fI))) (hb : ∀ self, Looks (model prog w) h (bindSpecial (.ref fI) self) (.ref fI, [self]))
    (hq : codeAny (model prog w) A (.call (.ref fI) ⟨[.ref (h.objs.size + 1)], kw⟩)
      (fun r s' => match r with | .ok (.ret v) => v = .none ∧ Q (.done (.ret (.ref (h.objs.size + 1)))) s' | .ok _ => False | .error e => E e s')
      ⟨(h.push (kdv_tup [])).push (excO C h.objs.size), g, d, t, os⟩) :
    wpAny (model prog w) A (Builtin.«type.__call__» ⟨[.ref C], kw⟩) Q E ⟨h, g, d, t, os⟩ := by
  repeat (first | with_reducible refine wpAny_loadPart_at hC ?_ | with_reducible refine wpAny_madeBy_exc hC ?_ | wp_step)
  refine codeAny_call_builtin_code (Code.quiet_builtin _ PySem.F.excBase_ValueError.quiet) (kw_checkN hm hC (kw_new hm hC ?_))
  show wpAny _ _ _ _ _ _
  have k : ∀ b o, h.get? b = some o → ((h.push (kdv_tup [])).push (excO C h.objs.size)).get? b = some o := fun b o e => Heap.get?_push_of_some _ (Heap.get?_push_of_some _ e)
  have hC₁ := k _ _ hC
  have made : ((h.push (kdv_tup [])).push (excO C h.objs.size)).get? (h.objs.size + 1) = some (excO C h.objs.size) := by heap_get
  have self : (Value.ref C :: bm).contains (.ref C) = true := by simp
  unfold isInstance
  repeat (first | with_reducible refine wpAny_loadPart_at made ?_ | (with_reducible refine wpAny_isSubtype_exc hC₁ ?_; rw [self]) | wp_step)
  show wpAny _ _ (typeLookup (.ref C) _) _ _ _
  refine (hi.keeps k).at ?_
  refine wpAny_holding (wpAny_bind (((hb (.ref (h.objs.size + 1))).keeps k).at ?_))
  refine wpAny_bind (wpAny_call (codeAny_mono hq fun r s' z => ?_))
  rcases r with e | (v | _ | _ | _) <;> first | exact z | exact z.elim | skip
  obtain ⟨rfl, z⟩ := z
  first
    | exact wpAny_pure (wpAny_pure z)
    | (wp_walk; exact z)
theorem kw_call {fI : Addr} (hm : refsVE bm = true) (hC : h.get? C = some (excClassObj nm q C N bs bm true sn sub ab col dd k0 k1 k2 k3 k5 "ValueError.__new__"))
    (hi : Looks (model prog w) h (typeLookup (.ref C) "__init__") (some (.ref fI))) (hb : ∀ self, Looks (model prog w) h (bindSpecial (.ref fI) self) (.ref fI, [self]))
    (hq : codeAny (model prog w) (A.under (.builtin "type.__call__" ⟨[.ref C], kw⟩)) (.call (.ref fI) ⟨[.ref (h.objs.size + 1)], kw⟩) (InitBack (h.objs.size + 1) R)
      ⟨(h.push (kdv_tup [])).push (excO C h.objs.size), g, d, t, os⟩) :
    codeAny (model prog w) A (.call (.ref C) ⟨[], kw⟩) R ⟨h, g, d, t, os⟩ := by
  have f1 := tc_lookup
  have f2 := tc_bind (.ref C)
  have ty : (⟨h, g, d, t, os⟩ : Shared).TypeIs (.ref C) "type" := ⟨_, hC, rfl⟩
  refine codeAny_of_tree ?_
  show wpAny _ _ (callAny (.ref C) _) _ _ _
  repeat (any_goals (first | assumption | with_reducible refine wpAny_loadPart_at hC ?_ | wp_step))
  refine ⟨rfl, codeAny_call_builtin_at (Code.quiet_builtin _ (by decide +kernel)) entry_typeCall (kw_checkT hC (kw_typeCall hm hC hi hb (codeAny_mono hq fun r s' z => ?_)))⟩
  rcases r with e | (v | _ | _ | _) <;> exact z
end
section
variable {prog : Program} {w : World} {A : Around} {E : Value → Shared → Prop} {h : Heap} {g : Array GenState} {d : Drawn} {t : Nat} {os : OsState}
/-- super().__init__(..) called -/
theorem call_mw {C x u t0 : Addr} {rest : List Value} {Q : Value → Shared → Prop} {nm q : Str} {N : Addr} {bs bm : List Value} {sn : List Str} {sub : List Value} {ab : Bool} {col : Option Bool} {dd : Option Addr} {k0 k1 k2 k3 k5 : Option Value}
    (hC : h.get? C = some (excClassObj nm q C N bs bm true sn sub ab col dd k0 k1 k2 k3 k5 "ValueError.__new__")) (he : h.get? x = some (excO C t0)) (hu : h.get? u = some (kxs_mw "ValueError.__init__" x)) (hz : rest.length ≤ sizeLine)
    (hq : ∀ h' t1, (∀ b o, b ≠ x → h.get? b = some o → h'.get? b = some o) → h'.get? x = some (excO C t1) → Q .none ⟨h', g, d, t, os⟩) :
    wpAny (model prog w) A (call (.ref u) rest) Q E ⟨h, g, d, t, os⟩ := by
  have FB := PySem.F.excBase_ValueError
  refine wpAny_call (codeAny_of_tree ?_)
  show wpAny _ A.in1 (callAny (.ref u) ⟨rest, []⟩) _ _ _
  simp only [callAny]
  refine wpAny_bind (wpAny_load hu ?_)
  simp only [kxs_mw, show (Value.type "method-wrapper" == Value.type "method" || Value.type "method-wrapper" == Value.type "builtin_function_or_method" || Value.type "method-wrapper" == Value.type "method-wrapper") = true by decide, if_true]
  refine KFB.if_so (by decide) ?_
  refine wpAny_bind (check_bound_init FB.toExcCallFacts hC he rfl ?_)
  refine wpAny_bind (wpAny_pure (wpAny_pure ?_))
  refine ⟨plainId_quiet FB.init.plain _, codeAny_builtin FB.initEntry ?_⟩
  exact exc_init_tree (cls := .ref C) (t0 := t0) (dv := none) (c2 := .none) (c3 := .none) (b4 := .bool false) he hz fun h' k e' _ => hq h' _ k e'

theorem near_init {s : Shared} {R : Result → Shared → Prop} {K : Frag} {mg : Str → Option Value} {base : Heap} {cn f : Str} {C fI : Addr} {parts : List Expr} {jp : Pos} (T : NearTxt prog K mg cn f C fI parts jp) (M : L2.Mod K mg base) (kb : ∀ b o, base.get? b = some o → s.heap.get? b = some o)
    {x t0 : Addr} {v : Value} (hx : s.heap.get? x = some (excO C t0)) (hnx : K.lookup x = none) (hroom : A.depth < recursionLimit) (hA : ArgOk prog w A f (.JoinedStr parts jp) s.heap x v) {args : Args} (hargs : args = ⟨[.ref x, v], []⟩ ∨ args = ⟨[.ref x], [(f, v)]⟩)
    (hq : ∀ h' tk dx, InitEnd s.heap h' x C dx f v → R (.ok (.ret .none)) { s with heap := h', toks := tk }) :
    codeAny (model prog w) A (.call (.ref fI) args) R s := by
  have fs := T.fs
  obtain ⟨hp, g, d, t, os⟩ := s
  obtain ⟨oc, od, doc, pm, an, cda, ct, osl, cc, qual, p1, p2, a, b, c, dp, e, q1, q2, q3, q4, ho, hcd, ⟨ccl, cdd, vs, ccs, file, tf, hcode, hvs, hfile⟩, ⟨cl, cld, csl, hcell⟩, pl, he⟩ := T.fn
  obtain ⟨nm, q, N, bs, bm, sn, sub, ab, col, dd, k0, k1, k2, k3, k5, hC, hbm⟩ := T.cls
  have hcl : clsIn K C = some { name := nm, bases := bs, mro := .ref C :: bm, ns := N, qualname := q, hasDict := true, slotNames := sn, subclasses := sub, abstract := ab, collection := col, hasDel := false } := by unfold clsIn; rw [hC] <;> rfl
  have X : K.In hp := M.kin.keeps kb
  have hbind : BindsTo (⟨hp, g, d, t, os⟩ : Shared) (ksFn "__init__" qual (iA f p1 p2) (iB f parts jp a b c dp e q1 q2 q3 q4) (iS f) .none .none doc pm an (.ref cda) ct cc) args [(PySem.Str.ofString "self", .ref x), (f, v)] := by
    rcases hargs with rfl | rfl <;> rcases fs with rfl | rfl | rfl <;> exact BindsTo.of_eq rfl
  have hloc : ∀ y ∈ [((PySem.Str.ofString "self" : Str), Value.ref x), (f, v)], (iS f).names.lookup y.1 = some .local := by
    rcases fs with rfl | rfl | rfl <;> exact locs rfl
  have hcells : ∀ y ∈ (iS f).names, y.2 ≠ .cell := by
    intro y hy
    simp only [iS, List.mem_cons, List.not_mem_nil, or_false] at hy
    rcases hy with rfl | rfl | rfl | rfl <;> (intro z; cases z)
  refine ks_codeAny_call_defAt (fd := ksFn "__init__" qual (iA f p1 p2) (iB f parts jp a b c dp e q1 q2 q3 q4) (iS f) .none .none doc pm an (.ref cda) ct cc) (body := iB f parts jp a b c dp e q1 q2 q3 q4) (binds := [(PySem.Str.ofString "self", .ref x), (f, v)]) hroom (X _ _ ho) rfl (M.nolimit.keeps kb) (codeRec_of X hcd) rfl hbind hcells hloc (fun h₁ hns k₁ => ?_)
  have X₁ : K.In h₁ := X.keeps k₁
  have kb₁ : ∀ b o, base.get? b = some o → h₁.get? b = some o := fun b o z => k₁ b o (kb b o z)
  have hL : hp.objs.size ≠ x := Nat.ne_of_gt (Heap.lt_size hx)
  show PySem.wpAt (model prog w) _ (.func _ (ksEnv qual (iS f) hp.objs.size fI (.ref cda) cc)) (execs _ (ksEnv qual (iS f) hp.objs.size fI (.ref cda) cc)) _ _ _
  have hks : (ksEnv qual (iS f) hp.objs.size fI (.ref cda) cc).kindOf "super" = some .globalImplicit := by rcases fs with rfl | rfl | rfl <;> rfl
  have hkc : (ksEnv qual (iS f) hp.objs.size fI (.ref cda) cc).kindOf "__class__" = some .free := by rcases fs with rfl | rfl | rfl <;> rfl
  have hka : (ksEnv qual (iS f) hp.objs.size fI (.ref cda) cc).kindOf "self" = some .local := by rcases fs with rfl | rfl | rfl <;> rfl
  have hkf : (ksEnv qual (iS f) hp.objs.size fI (.ref cda) cc).kindOf f = some .local := by rcases fs with rfl | rfl | rfl <;> rfl
  have hfd : (f == ("__debug__" : Str)) = false := by rcases fs with rfl | rfl | rfl <;> decide +kernel
  have hself : List.lookup ("self" : Str) ([(PySem.Str.ofString "self", Value.ref x), (f, v)] : List (Str × Value)).reverse = some (.ref x) := by rcases fs with rfl | rfl | rfl <;> rfl
  have hfv : List.lookup f ([(PySem.Str.ofString "self", Value.ref x), (f, v)] : List (Str × Value)).reverse = some v := by rcases fs with rfl | rfl | rfl <;> rfl
  obtain ⟨mb, hb1, hb2⟩ := M.blt
  have hx₁ := k₁ _ _ hx
  refine ks_wpAt_execs_cons (ks_wpAt_Expr_any (ks_wpAt_MethodCall (pl := pl) ?_ (he _)))
  refine ks_wpAt_super_base (env := ksEnv qual (iS f) hp.objs.size fI (.ref cda) cc) hks hkc (by decide) rfl (X₁ _ _ ho) rfl rfl rfl (X₁ _ _ hcode) rfl hvs hfile T.htop ?_
  refine ks_loadName_global rfl hks (loadGlobal_builtin (env := ksEnv qual (iS f) hp.objs.size fI (.ref cda) cc) (M.glob.keeps kb₁) T.nosup (hb1.keeps kb₁) ((hb2 "super" (by decide +kernel)).trans boot_super) ⟨rfl, ?_⟩)
  refine wpAny_loadName_free rfl hkc rfl ⟨_, X₁ _ _ hcell, rfl⟩ ?_
  refine wpAny_loadName_local rfl hka hns hself ?_
  refine ks_wpAny_isType_cls (X₁ _ _ hC) rfl ⟨rfl, ?_⟩
  refine ks_wpAny_call_super (X₁ _ _ hC) rfl hx₁ rfl (fun c e => by cases e) (looks_mroIn X₁ T.subC) (fun h2 e2 k2 => ?_)
  have X₂ : K.In h2 := X₁.keeps k2
  have hx₂ := k2 _ _ hx₁
  have hxC : x ≠ C := fun z => by rw [z] at hnx; rw [hnx] at hC; cases hC
  have hal : alongIn K "__init__" (((Value.ref C :: bm).dropWhile (· != .ref C)).drop 1) = some (some (.builtin "ValueError.__init__")) := by
    have z := T.sup
    unfold ks_superIn at z
    rw [hcl] at z
    exact z
  have I₂ : InstAt h2 x (excO C t0) C none := ⟨hx₂, rfl, rfl, trivial⟩
  refine kxs_getMethod kxs_ValueError e2 (looks_opaque X₂ T.tp) (l₀ := .ref C :: bm) (fun A Q E s k q => wpAny_bind ((looks_clsIn X₂ hcl) A _ E s k (wpAny_pure q))) rfl X₂ hal (I₂.type.andThen (looks_subIn X₂ T.subV)) hxC (by decide) ?_
  -- the arguments, the call
  have k3 : ∀ b o, h2.get? b = some o → (h2.push (kxs_mw "ValueError.__init__" x)).get? b = some o := fun b o e => Heap.get?_push_of_some _ e
  have hmw : (h2.push (kxs_mw "ValueError.__init__" x)).get? h2.objs.size = some (kxs_mw "ValueError.__init__" x) := Heap.get?_push_at rfl rfl
  have k13 : ∀ b o, h₁.get? b = some o → (h2.push (kxs_mw "ValueError.__init__" x)).get? b = some o := fun b o e => k3 b o (k2 b o e)
  show wpAny _ _ (callWith dp (.ref h2.objs.size) [] (backTo dp (starEach [.JoinedStr parts jp] (ksEnv qual (iS f) hp.objs.size fI (.ref cda) cc))) []) _ _ _
  have hst : starEach [.JoinedStr parts jp] (ksEnv qual (iS f) hp.objs.size fI (.ref cda) cc) = (false, eval (.JoinedStr parts jp) (ksEnv qual (iS f) hp.objs.size fI (.ref cda) cc)) :: starEach [] (ksEnv qual (iS f) hp.objs.size fI (.ref cda) cc) := rfl
  rw [hst]
  refine kxs_callWith (i := "ValueError.__init__") (x := x) rfl (evalArgs_plain ?_)
  refine Calls.spliced_cons ?_
  refine hA qual fI cc hp.objs.size (.ref cda) _ _ _ (fun b o e => k13 b o (k₁ b o e)) (hns.keeps k13) (fun u h4 tk4 k4 => ?_)
  refine Calls.spliced_nil ⟨k4 _ _ hmw, ?_⟩
  have X₄ : K.In h4 := (X₂.keeps k3).keeps k4
  refine call_mw (C := C) (X₄ _ _ hC) (k4 _ _ (k3 _ _ hx₂)) (k4 _ _ hmw) (one_size u) (fun h5 t1 k5' hx5 => ?_)
  have k14 : ∀ b o, h₁.get? b = some o → h4.get? b = some o := fun b o e => k4 b o (k13 b o e)
  have k15 : ∀ b o, b ≠ x → h₁.get? b = some o → h5.get? b = some o := fun b o hb e => k5' b o hb (k14 b o e)
  have X₅ : K.In h5 := fun b o e => k15 b o (fun z => by rw [z, hnx] at e; cases e) (X₁ b o e)
  have hn5 : h5.Ns hp.objs.size (fun y => List.lookup y [((PySem.Str.ofString "self" : Str), Value.ref x), (f, v)].reverse) := by
    obtain ⟨o, es, ep, e, r⟩ := hns
    exact ⟨o, es, ep, k15 _ _ hL e, r⟩
  have hlt : hp.objs.size < h5.objs.size := hn5.lt
  -- self.f = f
  refine wpAt_of_wpAny ?_
  show wpAny _ _ (execs [Stmt.Assign [(Expr.Name (Str.ofString "self") q1).Attribute f q2] (Expr.Name f q3) q4] (ksEnv qual (iS f) hp.objs.size fI (.ref cda) cc)) _ _ _
  refine wpAny_execs_cons (plainObj_wpAny_Assign_Attribute ?_)
  refine wpAny_Name (wpAny_loadName_local rfl hkf hn5 hfv ?_) hfd
  refine wpAny_Name (wpAny_loadName_local rfl hka hn5 hself ?_) (by decide)
  refine set_plain X₅ (ox := excO C t1) (od := none) ⟨hx5, rfl, rfl, trivial⟩ T.sa ?_
  refine exc_osa X₅ hx5 hcl (show refsVE (.ref C :: bm) = true from hbm) rfl T.noN (fun h6 tk6 dx k6 dn dne hx6 hn6 => ?_)
  show wpAny _ _ (execs [] _) _ _ _
  exact wpAny_execs_nil (hq h6 tk6 dx ⟨fun b o hb e => k6 b o hb (k15 b o hb (k₁ b o e)), ⟨t1, hx6⟩, Nat.le_of_lt (Nat.lt_of_lt_of_le hlt dn), dne, hn6⟩)

theorem near_made {s : Shared} {R : Result → Shared → Prop} {K : Frag} {mg : Str → Option Value} {base : Heap} {cn f : Str} {C fI : Addr} {parts : List Expr} {jp : Pos} (T : NearTxt prog K mg cn f C fI parts jp) (M : L2.Mod K mg base) (kb : ∀ b o, base.get? b = some o → s.heap.get? b = some o)
    {args : Args} {v : Value} (hargs : args = ⟨[v], []⟩ ∨ args = ⟨[], [(f, v)]⟩) (hroom : A.depth + 1 < recursionLimit) (hA : ∀ (h0 : Heap) (A' : Around) (x : Addr), (∀ b o, s.heap.get? b = some o → h0.get? b = some o) → A'.units = A.units + 1 → A'.guards = A.guards → ArgOk prog w A' f (.JoinedStr parts jp) h0 x v)
    (hq : ∀ h' tk e d, OwnMade s.heap h' e C d f v → R (.ok (.ret (.ref e))) { s with heap := h', toks := tk }) :
    codeAny (model prog w) A (.call (.ref C) args) R s := by
  obtain ⟨nm, q, N, bs, bm, sn, sub, ab, col, dd, k0, k1, k2, k3, k5, hC, hbm⟩ := T.cls
  have X : K.In s.heap := M.kin.keeps kb
  obtain ⟨hp, g, dr, tk, os⟩ := s
  have rest : ∀ (us : List Value) (kw : List (Str × Value)), ((⟨.ref (hp.objs.size + 1) :: us, kw⟩ : Args) = ⟨[.ref (hp.objs.size + 1), v], []⟩ ∨ (⟨.ref (hp.objs.size + 1) :: us, kw⟩ : Args) = ⟨[.ref (hp.objs.size + 1)], [(f, v)]⟩) →
      codeAny (model prog w) (A.under (.builtin "type.__call__" ⟨.ref C :: us, kw⟩)) (.call (.ref fI) ⟨.ref (hp.objs.size + 1) :: us, kw⟩) (InitBack (hp.objs.size + 1) R)
        ⟨(hp.push (kdv_tup us)).push (excO C hp.objs.size), g, dr, tk, os⟩ := by
    intro us kw ha
    have k : ∀ b o, hp.get? b = some o → ((hp.push (kdv_tup us)).push (excO C hp.objs.size)).get? b = some o := fun b o e => Heap.get?_push_of_some _ (Heap.get?_push_of_some _ e)
    have hget : ((hp.push (kdv_tup us)).push (excO C hp.objs.size)).get? (hp.objs.size + 1) = some (excO C hp.objs.size) := by heap_get
    have hnx : K.lookup (hp.objs.size + 1) = none := by
      cases e : K.lookup (hp.objs.size + 1) with
      | none => rfl
      | some o =>
        have z : hp.get? (hp.objs.size + 1) = some o := X _ _ e
        exact absurd (Nat.lt_of_succ_lt (Heap.lt_size z)) (Nat.lt_irrefl _)
    refine near_init (s := ⟨(hp.push (kdv_tup us)).push (excO C hp.objs.size), g, dr, tk, os⟩) T M (fun b o e => k b o (kb b o e)) hget hnx ?_ ?_ ha fun h' tk' dx ⟨k', hx, dn, dne, hns⟩ => ?_
    · show A.depth + 1 < recursionLimit
      exact hroom
    · exact hA _ _ _ k L2.make_units (by first | rfl | simp [Around.under, Code.guards, Code.isGuard, guardIds, pushGuards])
    · have old : ∀ b o, hp.get? b = some o → h'.get? b = some o := fun b o e => k' b o (Nat.ne_of_lt (Nat.lt_succ_of_lt (Heap.lt_size e))) (k b o e)
      have z : hp.objs.size + 1 + 1 ≤ dx := by
        first
          | (simpa only [Heap.size_push] using dn)
          | exact dn
          | (have q := dn; rw [Heap.size_push, Heap.size_push] at q; exact q)
      exact ⟨rfl, hq h' tk' (hp.objs.size + 1) dx ⟨old, Nat.le_succ _, hx, Nat.le_trans (Nat.le_trans (Nat.le_succ _) (Nat.le_succ _)) z, dne, hns⟩⟩
  rcases hargs with rfl | rfl
  · exact call_own PySem.F.excBase_ValueError (fun X => refsVE_contains X bm hbm) (X _ _ hC) (looks_findIn X T.iC) (fun self => bind_fn X self T.tC) (one_size v) (rest [v] [] (Or.inl rfl))
  · exact kw_call hbm (X _ _ hC) (looks_findIn X T.iC) (fun self => bind_fn X self T.tC) (rest [] [(f, v)] (Or.inr rfl))
end
/-! ### the text: f'before {field}' or f'before {field} behind' -/
/-- a value's own text is made, at most n signs of it, wherever G holds; nothing that stood is changed -/
def FmtOk (prog : Program) (w : World) (G : Around → Prop) (h0 : Heap) (v : Value) (n : Nat) : Prop :=
  ∀ (A : Around) (E : Value → Shared → Prop) (s : Shared) (Q : Value → Shared → Prop), G A → (∀ b o, h0.get? b = some o → s.heap.get? b = some o) →
    (∀ (y : Str) (u : Tok) (h' : Heap) (tk : Nat), y.length ≤ n → (∀ b o, s.heap.get? b = some o → h'.get? b = some o) → Q (.str y u) { s with heap := h', toks := tk }) →
    wpAny (model prog w) A (formatField v Str.empty) Q E s
def parts2 (pre f : Str) (p1 p2 p3 : Pos) : List Expr := [.Constant (.str pre) 0 p1, .FormattedValue (.Name f p2) (-1) none p3]
def parts3 (pre f suf : Str) (p1 p2 p3 p4 : Pos) : List Expr := [.Constant (.str pre) 0 p1, .FormattedValue (.Name f p2) (-1) none p3, .Constant (.str suf) 0 p4]
structure PartsOk (f : Str) (parts : List Expr) : Prop where
  is : (∃ pre p1 p2 p3, pre.length ≤ 200 ∧ parts = parts2 pre f p1 p2 p3) ∨ ∃ pre suf p1 p2 p3 p4, pre.length ≤ 200 ∧ suf.length ≤ 200 ∧ parts = parts3 pre f suf p1 p2 p3 p4
theorem line_big {n : Nat} (h : n ≤ 10000) : n ≤ sizeLine := by
  rw [sizeLine_eq]
  omega
section
variable {prog : Program} {w : World} {A : Around} {f : Str} {parts : List Expr} {jp : Pos} {h0 : Heap} {x : Addr} {v : Value} {n : Nat} {G : Around → Prop}
theorem argOk (fs : f = "number" ∨ f = "answer" ∨ f = "line") (hp : PartsOk f parts) (hF : FmtOk prog w G h0 v n) (hn : n ≤ 5000) (hG : ∀ env, G (A.deeper env)) : ArgOk prog w A f (.JoinedStr parts jp) h0 x v := by
  intro qual fI cc L cdv s Q E hk hns hq
  have hkf : (ksEnv qual (iS f) L fI cdv cc).kindOf f = some .local := by rcases fs with rfl | rfl | rfl <;> rfl
  have hfd : (f == ("__debug__" : Str)) = false := by rcases fs with rfl | rfl | rfl <;> decide +kernel
  have hfv : List.lookup f [(f, v), (PySem.Str.ofString "self", Value.ref x)] = some v := by simp [List.lookup]
  -- the field's own text, behind any text
  have field : ∀ (p2 p3 : Pos) (acc : Str) (rest : List (Sem Value)) (R : Str → Shared → Prop) (tk0 : Nat), acc.length ≤ 200 →
      (∀ (out : Str) (h' : Heap) (tk : Nat), out.length ≤ 200 + n → (∀ b o, s.heap.get? b = some o → h'.get? b = some o) → Joins (model prog w) (A.deeper (ksEnv qual (iS f) L fI cdv cc)) E rest out R { s with heap := h', toks := tk }) →
      Joins (model prog w) (A.deeper (ksEnv qual (iS f) L fI cdv cc)) E (eval (.FormattedValue (.Name f p2) (-1) none p3) (ksEnv qual (iS f) L fI cdv cc) :: rest) acc R { s with toks := tk0 } := by
    intro p2 p3 acc rest R tk0 ha hr
    refine wpAny_FormattedValue_plain (wpAny_Name (wpAny_loadName_local rfl hkf hns hfv ?_) hfd)
    refine hF _ _ _ _ (hG _) hk fun y u h' tk hy hk' => ⟨y, u, rfl, ?_, hr _ h' tk ?_ hk'⟩
    · rw [strLen_append]
      exact line_big (by omega)
    · rw [strLen_append]
      omega
  rcases hp.is with ⟨pre, p1, p2, p3, h1, rfl⟩ | ⟨pre, suf, p1, p2, p3, p4, h1, h2, rfl⟩
  · refine wpAny_JoinedStr (wpAny_Constant_str ⟨pre, _, rfl, ?_, field p2 p3 _ _ _ _ ?_ fun out h' tk ho hk' => ⟨line_big (by omega), hq _ h' _ hk'⟩⟩)
    · rw [strLen_append]
      exact line_big (by have : (Str.empty).length = 0 := rfl; omega)
    · rw [strLen_append]
      have : (Str.empty).length = 0 := rfl
      omega
  · refine wpAny_JoinedStr (wpAny_Constant_str ⟨pre, _, rfl, ?_, field p2 p3 _ _ _ _ ?_ fun out h' tk ho hk' => wpAny_Constant_str ⟨suf, _, rfl, ?_, ?_, hq _ h' _ hk'⟩⟩)
    · rw [strLen_append]
      exact line_big (by have : (Str.empty).length = 0 := rfl; omega)
    · rw [strLen_append]
      have : (Str.empty).length = 0 := rfl
      omega
    · rw [strLen_append]
      exact line_big (by omega)
    · rw [strLen_append]
      exact line_big (by omega)
end
end NearX
end PySem

namespace L2
open PySem PySem.Spec PyProof.Rows PySem.NearX
section
variable {X : Cx} {cn f : Str} {C fI : Addr} {parts : List Expr} {jp : Pos}
/-- a made error at e with its dict at d, both told -/
theorem Inv.made2 {pins : List (Addr × Obj)} {σ : St} {H : Hp} {s : Shared} {h' : Heap} {tk : Nat} {e d : Addr} {v : V} {u : Value} (I : Inv X pins σ H s) (M : OwnMade s.heap h' e C d f u) (rv : RelV v u) :
    H e = none ∧ H d = none ∧ Inv X pins σ (upd (upd H d (.xd [(f, v)])) e (exo e C (some d))) { s with heap := h', toks := tk } := by
  have he : H e = none := I.hok.fresh M.new
  have hd : H d = none := I.hok.fresh M.dbig
  obtain ⟨t1, ho⟩ := M.obj
  have nb : ∀ {b : Addr} {o : Obj}, s.heap.get? b = some o → b ≠ e ∧ b ≠ d := fun {b o} z =>
    ⟨Nat.ne_of_lt (Nat.lt_of_lt_of_le (Heap.lt_size z) M.new), Nat.ne_of_lt (Nat.lt_of_lt_of_le (Heap.lt_size z) M.dbig)⟩
  have old : ∀ {b : Addr} {o : HO}, H b = some o → upd (upd H d (.xd [(f, v)])) e (exo e C (some d)) b = some o := fun {b o} z => by
    rw [upd_ne (ne_of_none z he), upd_ne (ne_of_none z hd)]
    exact z
  refine ⟨he, hd, I.un (t' := tk) (⟨fun b o z _ _ _ => M.keep b o z, fun b o z _ _ _ => ⟨o.slots, M.keep b o z⟩, fun b o z n _ => ?_, fun b o z _ => ⟨o, M.keep b o z⟩,
    fun b xs z => old z, fun b o xs z => old z, fun b ps z => ⟨#[], by rw [old z]; simp⟩⟩) fun b o z => ?_⟩
  · rw [upd_ne (nb z).1, upd_ne (nb z).2]
    exact n
  · by_cases hbe : b = e
    · subst hbe
      rw [upd_same] at z
      cases z
      exact exo_ok ho
    · rw [upd_ne hbe] at z
      by_cases hbd : b = d
      · subst hbd
        rw [upd_same] at z
        cases z
        refine ⟨_, M.ns, fun g => ?_⟩
        rw [lookup_put]
        by_cases hg : g = f
        · rw [if_pos hg, if_pos hg]
          exact rv
        · rw [if_neg hg, if_neg hg]
          trivial
      · rw [upd_ne hbd] at z
        exact (I.hok b o z).stay (fun c w _ q => M.keep c w q) (fun c q => old q) fun c xs q => old q

/-- Cn(e), e a value whose text FV lets make: a new error, its field f holds the value -/
def tNear (C : Addr) (f : Str) (FV : V → Hp → Prop) (ta : TA) : TE := fun σ H Q => ta σ H fun vs H1 => ∃ v, vs = [v] ∧ FV v H1 ∧
  ∀ e d, H1 e = none → H1 d = none → d ≠ e → Q (.ref e) (upd (upd H1 d (.xd [(f, v)])) e (exo e C (some d)))
/-- where FV holds of a value, its own text is made -/
def Texts (X : Cx) (FV : V → Hp → Prop) : Prop := ∃ (G : Around → Prop) (n : Nat), n ≤ 5000 ∧ (∀ A' : Around, A'.units ≤ X.A.units + 10 → A'.guards = X.A.guards → G A') ∧
  ∀ (pins : List (Addr × Obj)) (σ : St) (H : Hp) (s : Shared) (v : V) (u : Value) (h0 : Heap), Inv X pins σ H s → RelV v u → FV v H → (∀ b o, s.heap.get? b = some o → h0.get? b = some o) → FmtOk X.prog X.w G h0 u n
theorem near_call {pins : List (Addr × Obj)} {σ : St} {H : Hp} {s : Shared} {FV : V → Hp → Prop} {v : V} {u : Value} {k : Nat} {Q : Value → Shared → Prop} {E : Value → Shared → Prop} {A : Around} (T : NearTxt X.prog X.K X.mg cn f C fI parts jp) (hp : PartsOk f parts) (hF : Texts X FV)
    (hd : A.depth = X.A.depth) (hu : A.units ≤ X.A.units + 1) (hgs : A.guards = X.A.guards) (hr : Room (k + 1) X.A) (I : Inv X pins σ H s) (rv : RelV v u) (fv : FV v H)
    {args : Args} (hargs : args = ⟨[u], []⟩ ∨ args = ⟨[], [(f, u)]⟩) (hq : ∀ h' tk e d, OwnMade s.heap h' e C d f u → Q (.ref e) { s with heap := h', toks := tk }) : codeAny (model X.prog X.w) A (.call (.ref C) args) (fun r s' => match r with | .ok (.ret x) => Q x s' | .ok _ => False | .error x => E x s') s := by
  obtain ⟨G, n, hn, hG, hV⟩ := hF
  refine near_made T I.ok.mod I.bk hargs (by have := hr.dp; omega) (fun h0 A' x hk hu' hg' => argOk T.fs hp (hV pins σ H s v u h0 I rv fv hk) hn fun env => hG _ ?_ ?_) fun h' tk e d M => hq h' tk e d M
  · show A'.units + 3 ≤ X.A.units + 10
    omega
  · show A'.guards = X.A.guards
    rw [hg', hgs]
theorem pe_near {FV : V → Hp → Prop} {a : Expr} {ta : TA} {p pos : Pos} {k : Nat} (T : NearTxt X.prog X.K X.mg cn f C fI parts jp) (hp : PartsOk f parts) (hF : Texts X FV) (hr : Room (k + 1) X.A) (ha : PA X [a] ta) (hg : Gl X cn := by rfl)
    (hdb : (cn == ("__debug__" : Str)) = false := by decide)
    (he : starEach (a :: []) X.env = (false, eval a X.env) :: starEach [] X.env := by rfl) (hpl : (backTo pos (starEach [] X.env)).any (·.1) = false := by rfl) :
    PE X (.Call (.Name cn p) [a] [] pos) (tNear C f FV ta) := by
  refine ⟨fun pins s σ H Q I h => ?_⟩
  refine wpAny_Call_Name_kw (ld_glob I hg T.gC ?_ hdb)
  refine PySem.W.callWith_K (h₀ := X.base) I.ok.mod.kin T.kC (thn (ha.run pos pins s σ H _ I h) fun us s1 ⟨vs, H1, I1, r1, v, ev, fv, q1⟩ => ⟨I1.kIn, ?_⟩) he hpl
  subst ev
  cases r1 with
  | @cons _ u _ us' rv rn =>
    cases rn
    show wpAny _ _ (call (.ref C) [u]) _ _ _
    refine wpAny_call (codeAny_mono (near_call (Q := EP X pins σ Q) (E := X.xe) T hp hF rfl (Nat.le_succ _) rfl hr I1 rv fv (Or.inl rfl) fun h' tk e d M => ?_) fun r s' hq => ?_)
    · obtain ⟨n1, n2, J⟩ := I1.made2 (tk := tk) M rv
      exact ⟨.ref e, _, J, rfl, q1 e d n1 n2 M.dne⟩
    · cases r with
      | error er => exact hq
      | ok fl => cases fl <;> first | exact hq | exact hq.elim
end
end L2
set_option Elab.async false
set_option linter.all false
set_option maxRecDepth 100000
set_option maxHeartbeats 4000000
/-! Promises of defs that are called while no __repr__ is under way: they may ask for repr of data. -/
namespace L2
open PySem PySem.Spec PyProof.Rows

/-- as FnOk, of calls under which no repr is going on -/
structure FnG (P : Program) (w : World) (K : PySem.W.Frag) (mg : Str → Option Value) (base : Heap) (CX : CXT) (k : Nat) (f : Addr) (fd : FuncData) (ps : List Str) (sp : Sp) : Prop where
  len : ∀ vs H Q E, sp vs H Q E → vs.length = ps.length
  go : ∀ (A : Around), A.guards = some [] → ∀ (outer : List Env) (s : Shared) (H : Hp) (args : Args) (us : List Value) (vs : List V) (Q : VK) (E : XK), Room k A → Env0 P w K mg base A outer s H →
    BindsTo s fd args (ps.zip us) → Vals vs us → sp vs H Q E → codeAny (model P w) A (.call (.ref f) args) (CR CX outer P w H s Q E) s

section
variable {P : Program} {w : World} {K : PySem.W.Frag} {mg : Str → Option Value} {base : Heap} {CX : CXT} {k : Nat} {f : Addr} {fd : FuncData} {ps : List Str} {sp : Sp}
theorem FnOk.toG (F : FnOk P w K mg base CX k f fd ps sp) : FnG P w K mg base CX k f fd ps sp :=
  ⟨F.len, fun A _ outer s H args us vs Q E hr h0 hb hv hs => F.run A outer s H args us vs Q E hr h0 hb hv hs⟩
theorem FnG.up {j : Nat} (F : FnG P w K mg base CX j f fd ps sp) (h : j ≤ k) : FnG P w K mg base CX k f fd ps sp :=
  ⟨F.len, fun A hg outer s H args us vs Q E hr => F.go A hg outer s H args us vs Q E (hr.mono h)⟩

/-- a def of the text by its body, the body standing where no repr is going on -/
theorem Fun.okGX {CX : CXT} {x qual : Str} {st : Stmt} {N : List Str} (F : Fun K x qual st f fd) (S : FnScope N ps (defScope st)) (len : ∀ vs H Q E, sp vs H Q E → vs.length = ps.length)
    (hbody : ∀ (cdv : Value) (A : Around) (outer : List Env) (s : Shared) (H : Hp) (vs : List V) (Q : VK) (E : XK), A.guards = some [] → Room k (A.deeper (envOfC qual (defScope st) s.heap.objs.size f cdv)) → sp vs H Q E →
      ∃ t, PSs (cxOf CX P w K mg base N qual (defScope st) f cdv A outer s H E) (defBody st) t ∧ t { nx := fun _ H' => Q .non H', rt := Q } (start N vs) H) :
    FnG P w K mg base CX (k + 1) f fd ps sp := by
  obtain ⟨oc, od, kV, doc, pm, an, cdv, ct, osl, rfl, lk, hcd⟩ := F.ex
  refine ⟨len, fun A hg outer s H args us vs Q E hr e0 hb r hsp => ?_⟩
  have hin : ∀ b o, base.get? b = some o → s.heap.get? b = some o := fun b o z => (e0.bs b o z).1
  have KX : K.In s.heap := e0.mod.kin.keeps hin
  have names : ∀ y ∈ ps.zip us, (defScope st).names.lookup y.1 = some .local ∨ ((defScope st).names.lookup y.1 = some .cell ∧ ((cellsFrom (s.heap.objs.size + 1) (defScope st).names []).lookup y.1).isSome = true) := by
    rintro ⟨n, v⟩ hy
    cases S.par n (List.of_mem_zip hy).1 with
    | inl q => exact Or.inl q
    | inr q => exact Or.inr ⟨q, PySem.W.cellsFrom_some _ _ _ (Or.inl q)⟩
  refine codeAny_call_function hr.depth (KX _ _ lk) rfl S.co S.gen rfl (PySem.W.codeRec_of KX hcd) (hb _ _ _ _ (wpAny_newFunctionEnv_cells S.kind names fun env he s1 x => ?_))
  subst he
  refine ⟨(e0.mod.nolimit.keeps hin).keeps x.toInCall.keep, codeAny_func ?_⟩
  obtain ⟨t, ht, hq⟩ := hbody cdv A outer s H vs Q E hg (hr.deeper _) hsp
  refine wpAny_mono (ht.run [] s1 (start N vs) H _ (inv_start S hr.hd e0 (len _ _ _ _ hsp) r x) hq) (fun fl s' hs => ?_) fun _ _ hs => hs
  cases fl with
  | ret u =>
    obtain ⟨v, _, H', J, rv, q⟩ := hs
    exact ⟨v, H', J.os, J.bare, J.base, J.hok, rv, q⟩
  | next =>
    obtain ⟨_, H', J, q⟩ := hs
    exact ⟨V.non, H', J.os, J.bare, J.base, J.hok, rfl, q⟩
  | brk => exact False.elim hs.choose_spec.choose_spec.2
  | cont => exact False.elim hs.choose_spec.choose_spec.2
/-- the same of a def that nothing raised leaves -/
theorem Fun.okG {x qual : Str} {st : Stmt} {N : List Str} (F : Fun K x qual st f fd) (S : FnScope N ps (defScope st)) (len : ∀ vs H Q E, sp vs H Q E → vs.length = ps.length)
    (hbody : ∀ (cdv : Value) (A : Around) (outer : List Env) (s : Shared) (H : Hp) (vs : List V) (Q : VK) (E : XK), A.guards = some [] → Room k (A.deeper (envOfC qual (defScope st) s.heap.objs.size f cdv)) → sp vs H Q E →
      ∃ t, PSs (cxOf CX0 P w K mg base N qual (defScope st) f cdv A outer s H E).nox (defBody st) t ∧ t { nx := fun _ H' => Q .non H', rt := Q } (start N vs) H) :
    FnG P w K mg base CX0 (k + 1) f fd ps sp :=
  F.okGX S len fun cdv A outer s H vs Q E hg hr h => let ⟨t, ht, hq⟩ := hbody cdv A outer s H vs Q E hg hr h; ⟨t, ht.nox, hq⟩
end

section
variable {X : Cx} {CX : CXT} {k : Nat} {f : Addr} {fd : FuncData} {ps : List Str} {sp : Sp} {dvs : List V} {ds : List Value} {E : XK} {x : Str} {p pos : Pos} {e : Expr} {es : List Expr} {t : TA}
theorem run_fnG {pins : List (Addr × Obj)} {σ : St} {H : Hp} {s : Shared} {Q : VK} {us : List Value} {vs : List V} (F : FnG X.prog X.w X.K X.mg X.base CX k f fd ps sp) (hA : X.A.guards = some []) (hr : Room k X.A) (hb : Binds X.K fd ps ds) (hd : Vals dvs ds) (hx : Passes CX X E)
    (I : Inv X pins σ H s) (r : Vals vs us) (h : sp (vs ++ dvs) H Q E) : wpAny (model X.prog X.w) X.A (call (.ref f) us) (EP X pins σ Q) X.xe s := by
  have r2 : Vals (vs ++ dvs) (us ++ ds) := r.append hd
  have hl : (us ++ ds).length = ps.length := r2.length.symm.trans (F.len _ _ _ _ h)
  refine wpAny_call (codeAny_mono (F.go X.A hA X.stack s H ⟨us, []⟩ (us ++ ds) (vs ++ dvs) Q E hr I.env0 (hb s us I.kIn hl) r2 h) fun res s' hq => ?_)
  cases res with
  | error err => exact hx pins σ H s err s' I hq
  | ok fl =>
    cases fl with
    | ret u => exact I.after hq
    | next => exact hq.elim
    | brk => exact hq.elim
    | cont => exact hq.elim
theorem pe_callG (F : FnG X.prog X.w X.K X.mg X.base CX k f fd ps sp) (hA : X.A.guards = some []) (hr : Room k X.A) (hg : Gl X x) (hm : X.mg x = some (.ref f)) (hk : PySem.W.keepIn X.K (.ref f) = true) (hb : Binds X.K fd ps ds) (hd : Vals dvs ds) (hx : Passes CX X E)
    (ha : PA X (e :: es) t) (hdb : (x == ("__debug__" : Str)) = false := by decide) (he : starEach (e :: es) X.env = (false, eval e X.env) :: starEach es X.env := by rfl) (hpl : (backTo pos (starEach es X.env)).any (·.1) = false := by rfl) :
    PE X (.Call (.Name x p) (e :: es) [] pos) (tCall sp dvs E t) :=
  ⟨fun pins s σ H Q I h => wpAny_Call_Name_kw (ld_glob I hg hm (PySem.W.callWith_K (h₀ := X.base) I.ok.mod.kin hk
    (thn (ha.run pos pins s σ H _ I h) fun us s1 ⟨vs, H1, I1, r, q⟩ => ⟨I1.kIn, run_fnG F hA hr hb hd hx I1 r q⟩) he hpl) hdb)⟩

/-- repr(x) of data, no repr being under way: the very text that the data have -/
def rRepr (K : PySem.W.Frag) : List V → Hp → VK → Prop := fun xs H Q => ∃ v d, xs = [v] ∧ Dp K H v d ∧ d.showable = true ∧ d.hasDict = false ∧ d.shown.length ≤ sizeLine ∧ d.depth ≤ 60 ∧ Q (.str d.shown) H
theorem call_reprD (hA : X.A.guards = some []) (hu : X.A.units + 64 < cLine) : CallR X (.builtin "repr") (rRepr X.K) := by
  intro pins s σ H xs us Q I r h
  obtain ⟨v, d, rfl, hd, hs, hn, hz, hdp, q⟩ := h
  cases r with
  | cons rv rr =>
    cases rr
    obtain ⟨as, rd⟩ := Dp.reads I d v _ hd rv
    have ref : ∀ (a : Addr), v = .ref a → wpAny (model X.prog X.w) X.A (call (.builtin "repr") [.ref a]) (EP X pins σ Q) X.xe s := by
      rintro a rfl
      cases rv
      exact repr_of_reads' rd hs (PyData.noDict_hsm hn) hA (by omega) (fun _ _ e => e) (fun h' u tk hk => ⟨.str d.shown, H, I.kept (t' := tk) hk, ⟨u, rfl⟩, q⟩) hz
    cases hd with
    | non =>
      cases rv
      exact PySem.P.repr_of_none ⟨.str _, H, I.tok _, ⟨_, rfl⟩, by simpa only [PyData.shown] using q⟩
    | bl b =>
      cases rv
      exact PySem.P.repr_of_bool ⟨.str _, H, I.tok _, ⟨_, rfl⟩, by simpa only [PyData.shown] using q⟩
    | int i =>
      obtain ⟨t, rfl⟩ := rv
      exact PySem.P.repr_of_int (by simpa [PyData.showable] using hs) ⟨.str _, H, I.tok _, ⟨_, rfl⟩, by simpa only [PyData.shown] using q⟩
    | str x =>
      obtain ⟨t, rfl⟩ := rv
      exact PySem.P.repr_of_str ⟨.str _, H, I.tok _, ⟨_, rfl⟩, by simpa only [PyData.shown] using q⟩ (by simpa only [PyData.shown] using hz)
    | lst hs' ha =>
      cases rv
      exact ref _ rfl
    | tup hs' ha =>
      cases rv
      exact ref _ rfl
end
end L2
set_option Elab.async false
set_option linter.all false
set_option maxRecDepth 100000
set_option maxHeartbeats 4000000
namespace L2
open PySem PySem.Spec PyProof.Rows PySem.NearX
section
variable {X : Cx} {cn f : Str} {C fI : Addr} {parts : List Expr} {jp : Pos}
/-- Cn(field=e) -/
theorem pe_nearKw {FV : V → Hp → Prop} {e : Expr} {te : TE} {p pos kp : Pos} {k : Nat} (T : NearTxt X.prog X.K X.mg cn f C fI parts jp) (hp : PartsOk f parts) (hF : Texts X FV) (hr : Room (k + 1) X.A) (ha : PE X e te) (hg : Gl X cn := by rfl)
    (hdb : (cn == ("__debug__" : Str)) = false := by decide)
    (hall : (backToKw pos (keywordEach [⟨some f, e, kp⟩] X.env)).all (·.1.isSome) = true := by rfl) (hks : (backToKw pos (keywordEach [⟨some f, e, kp⟩] X.env)).filterMap (·.1) = [f] := by rfl)
    (hpl : ((backTo pos (starEach [] X.env)).any (·.1) || (backToKw pos (keywordEach [⟨some f, e, kp⟩] X.env)).any (·.1.isNone)) = false := by rfl) :
    PE X (.Call (.Name cn p) [] [⟨some f, e, kp⟩] pos) (tNear C f FV (tCons te tNil)) := by
  refine ⟨fun pins s σ H Q I h => ?_⟩
  refine wpAny_Call_Name_kw (ld_glob I hg T.gC ?_ hdb)
  refine PySem.W.callWith_KW0 (h₀ := X.base) I.ok.mod.kin T.kC hall ?_ hpl
  refine thn ((pk_cons (nm := some f) (kpos := kp) ha pk_nil).run pos pins s σ H _ I h) fun us s1 ⟨vs, H1, I1, r1, v, ev, fv, q1⟩ => ⟨I1.kIn, ?_⟩
  rw [hks]
  subst ev
  cases r1 with
  | @cons _ u _ us' rv rn =>
    cases rn
    show wpAny _ _ (call (.ref C) [] [(f, u)]) _ _ _
    refine wpAny_call (codeAny_mono (near_call (Q := EP X pins σ Q) (E := X.xe) T hp hF rfl (Nat.le_succ _) rfl hr I1 rv fv (Or.inr rfl) fun h' tk e d M => ?_) fun r s' hq => ?_)
    · obtain ⟨n1, n2, J⟩ := I1.made2 (tk := tk) M rv
      exact ⟨.ref e, _, J, rfl, q1 e d n1 n2 M.dne⟩
    · cases r with
      | error er => exact hq
      | ok fl => cases fl <;> first | exact hq | exact hq.elim

/-- what reading the field f of such an error asks of the class at C -/
structure FldC (K : PySem.W.Frag) (C : Addr) (f : Str) : Prop where
  ga : PySem.W.findIn K (.ref C) "__getattribute__" = some (some (.builtin "BaseException.__getattribute__"))
  gg : PySem.W.findIn K (.ref C) "__getattr__" = some none
  noN : PySem.W.findIn K (.ref C) f = some none
  exC : PySem.W.subIn K (.ref C) (.type "BaseException") = some true
  hdC : PySem.W.hasDictIn K C = true
theorem fldC_of {P : Program} {K : PySem.W.Frag} {mg : Str → Option Value} (T : NearTxt P K mg cn f C fI parts jp) : FldC K C f := ⟨T.ga, T.gg, T.noN, T.exC, T.hdC⟩
/-- e.f, e an error at a whose own dict is told -/
def tNearF (C : Addr) (f : Str) (te : TE) : TE := fun σ H Q => te σ H fun x H1 => ∃ a d fs v, x = .ref a ∧ H1 a = some (exo a C (some d)) ∧ H1 d = some (.xd fs) ∧ fs.lookup f = some v ∧ Q v H1
theorem pe_nearF {e : Expr} {te : TE} {pos : Pos} (T : FldC X.K C f) (he : PE X e te) (hb : attributeBase e f X.env (eval e X.env) = eval e X.env := by rfl) : PE X (.Attribute e f pos) (tNearF C f te) := by
  refine ⟨fun pins s σ H Q I h => ?_⟩
  refine attr_of hb (thn (he.run pins s σ H _ I h) fun u s1 hh => ?_)
  obtain ⟨x, H1, I1, rx, a, d, fs, v, ex, ea, ed, l, q⟩ := hh
  subst ex
  obtain rfl : u = Value.ref a := rx
  obtain ⟨t1, ho⟩ := exo_at I1.hok ea
  obtain ⟨mA, hns, hr⟩ := I1.hok d _ ed
  obtain ⟨od, hod, hl⟩ := lookIn_ns hns
  obtain ⟨w, hw, rw'⟩ := RelO.some_of (v := v) (o := mA f) (by rw [← l]; exact hr f)
  have J : PySem.W.InstAt s1.heap a { cls := .ref C, dict := some d, data := .fields #[.ref t1, .none, .none, .none, .bool false, .none] } C (some od) := ⟨ho, rfl, rfl, hod⟩
  exact HandSPX.exc_get I1.kIn J T.ga T.gg T.exC (PySem.W.findObj_own T.hdC T.noN rfl (by rw [hl, hw])) (handed_of rw') ⟨v, H1, I1.tok _, rw', q⟩

/-- Cn(), an own class over own classes over ValueError, none with an __init__ -/
theorem pe_exc0 {C : Addr} {x : Str} {p pos : Pos} (q : PySem.W.excIn X.K C [.type "ValueError", .type "Exception", .type "BaseException", .type "object"] "ValueError.__new__" = true) (gC : X.mg x = some (.ref C)) (kC : PySem.W.keepIn X.K (.ref C) = true) (hg : Gl X x := by rfl)
    (hdb : (x == ("__debug__" : Str)) = false := by decide) :
    PE X (.Call (.Name x p) [] [] pos) (fun _ H Q => ∀ a, H a = none → Q (.ref a) (upd H a (ExO (.ref C) a))) := by
  refine ⟨fun pins s σ H Q I h => ?_⟩
  refine wpAny_Call_Name_kw (ld_glob I hg gC ?_ hdb)
  refine PySem.W.callWith_K0 I.kIn kC ?_
  show wpAny _ _ (call (.ref C) []) _ _ _
  obtain ⟨bm, N, nm, qn, bs, hdct, sn, sub, ab, col, dd, k0, k1, k2, k3, k5, mN, hC, hN, hni, T⟩ := exc_obj I.kIn q
  refine wpAny_call_exc_subT PySem.F.excBase_ValueError T hC hN hni (fun h' a hm => ?_) (Nat.zero_le _)
  have hn : H a = none := I.hok.gone hm.new
  obtain ⟨t, ht, _, _⟩ := hm.there
  exact ⟨.ref a, upd H a (ExO (.ref C) a), I.laidN hm.keeps hm.new hn (exO_ok ht ⟨rfl, rfl⟩ rfl rfl rfl (show 4 < 6 by decide)), rfl, h a hn⟩
/-- ValueError() -/
theorem pe_ve0 {p pos : Pos} (hm : X.mg "ValueError" = none) (hg : Gl X "ValueError" := by rfl) :
    PE X (.Call (.Name "ValueError" p) [] [] pos) (fun _ H Q => ∀ a, H a = none → Q (.ref a) (upd H a (ExO (.type "ValueError") a))) := by
  refine ⟨fun pins s σ H Q J h => ?_⟩
  refine wpAny_Call_Name_kw (ld_blt J hg hm L2.boot_ValueError ?_ (by decide) (by decide))
  obtain ⟨hp1, g1, d1, tk1, os1⟩ := s
  refine PyProof.Rows.callWith_type0 (wpAny_call_exc L2.exb_ValueError.call (fun h' a mk => ?_) (Nat.zero_le _))
  have hn : H a = none := J.hok.gone mk.new
  obtain ⟨t, ht, _, _⟩ := (PySem.Heap.MadeExc.of mk).there
  exact ⟨.ref a, upd H a (ExO (.type "ValueError") a), J.laidN mk.keeps mk.new hn (exO_ok ht ⟨rfl, rfl⟩ rfl rfl rfl (show 4 < 6 by decide)), rfl, h a hn⟩

/-- an error of the class cls stands at a -/
def IsExc (H : Hp) (a : Addr) (cls : Value) : Prop := (∃ D d fs, cls = .ref D ∧ H a = some (exo a D (some d)) ∧ H d = some (.xd fs)) ∨ H a = some (ExO cls a)
def ExcK (K : PySem.W.Frag) (cls : Value) : Prop := (∃ D, cls = .ref D ∧ ExcC K D) ∨ cls = .type "ValueError"
def rIsX (K : PySem.W.Frag) : List V → Hp → VK → Prop := fun xs H Q => ∃ (a : Addr) (cls : Value) (c : V) (cv : Value) (b : Bool), xs = [.ref a, c] ∧ IsExc H a cls ∧ ExcK K cls ∧ (∀ u, RelV c u → u = cv) ∧ PySem.W.kitOne K cls cv = some b ∧ Q (.bl b) H
theorem call_isX : CallR X (.builtin "isinstance") (rIsX X.K) := by
  intro pins s σ H xs us Q I r h
  obtain ⟨a, cls, c, cv, b, rfl, ie, ck, hcv, e, q⟩ := h
  cases r with
  | cons rx rr =>
    cases rr with
    | @cons _ uc _ _ rt rr =>
      cases rr
      cases rx
      have ec := hcv _ rt
      subst ec
      have own : ∀ (D : Addr) (ox : Obj) (od : Option Obj), cls = .ref D → PySem.W.InstAt s.heap a ox D od → wpAny (model X.prog X.w) X.A (call (.builtin "isinstance") [.ref a, uc]) (EP X pins σ Q) X.xe s := by
        intro D ox od ed J
        subst ed
        rcases ck with ⟨D', e1, K1⟩ | e1
        · cases e1
          obtain ⟨cd, hc, _⟩ := PySem.W.any_some K1.hd
          exact PySem.W.kia_one (PySem.W.kitx_exc (by rw [hc]; rfl) K1.hg K1.hk K1.hs K1.ha K1.hn K1.ht K1.hm) I.kIn J e (fun z => nomatch z) fun tk => ⟨.bl b, H, I.kept (t' := tk) fun _ _ z => z, rfl, q⟩
        · cases e1
      rcases ie with ⟨D, d, fs, ed, ea, edd⟩ | ea
      · obtain ⟨t1, ho⟩ := exo_at I.hok ea
        obtain ⟨mA, ⟨od, es, ep, hod, _⟩, _⟩ := I.hok d _ edd
        exact own D _ (some od) ed ⟨ho, rfl, rfl, hod⟩
      · obtain ⟨⟨oe, vs, ho, hz, hd, _, _⟩, _, _⟩ := I.hok a _ ea
        rcases ck with ⟨D, e1, K1⟩ | e1
        · subst e1
          refine own D oe none rfl ?_
          obtain ⟨oc, od, oda, osl⟩ := oe
          obtain ⟨h1, h2⟩ := hz
          dsimp only at h1 h2 hd
          subst h1 h2 hd
          exact ⟨ho, rfl, rfl, trivial⟩
        · subst e1
          exact PySem.W.kia_one (PySem.W.kitx_bexc PySem.F.excAttr_ValueError PySem.F.lkClass_ValueError PySem.F.soClass_ValueError (by decide)) I.kIn ⟨oe, ho, hz.1⟩ e (fun z => nomatch z) fun tk => ⟨.bl b, H, I.kept (t' := tk) fun _ _ z => z, rfl, q⟩
end
end L2
set_option Elab.async false
set_option linter.all false
set_option maxRecDepth 100000
set_option maxHeartbeats 4000000
/-! Data at any depth: they stand while the heap grows; their texts. -/
namespace L2
open PySem PySem.Spec PyProof.Rows PySem.NearX
theorem SqL.on {K : PySem.W.Frag} {H H' : Hp} {a : Addr} {xs : List V} (h : SqL K H a xs) (s : Same H H') : SqL K H' a xs := s.seq h
theorem SqT.on {K : PySem.W.Frag} {H H' : Hp} {a : Addr} {xs : List V} (h : SqT K H a xs) (s : Same H H') : SqT K H' a xs := by
  rcases h with (h | ⟨o, h⟩) | h
  · exact .inl (.inl (s _ _ h))
  · exact .inl (.inr ⟨o, s _ _ h⟩)
  · exact .inr h
mutual
theorem Dp.on {K : PySem.W.Frag} {H H' : Hp} (s : Same H H') : ∀ {v : V} {d : PyData}, Dp K H v d → Dp K H' v d
  | _, _, .non => .non
  | _, _, .bl b => .bl b
  | _, _, .int i => .int i
  | _, _, .str x => .str x
  | _, _, .lst h1 h2 => .lst (h1.on s) (DpAll.on s h2)
  | _, _, .tup h1 h2 => .tup (h1.on s) (DpAll.on s h2)
theorem DpAll.on {K : PySem.W.Frag} {H H' : Hp} (s : Same H H') : ∀ {vs : List V} {ds : List PyData}, DpAll K H vs ds → DpAll K H' vs ds
  | _, _, .nil => .nil
  | _, _, .cons h1 h2 => .cons (Dp.on s h1) (DpAll.on s h2)
end
theorem DpAll.rep {K : PySem.W.Frag} {H : Hp} {v : V} {d : PyData} (h : Dp K H v d) : ∀ n : Nat, DpAll K H (List.replicate n v) (List.replicate n d)
  | 0 => .nil
  | n + 1 => .cons h (DpAll.rep h n)
/-- a value of data whose text is not long -/
def FVd (K : PySem.W.Frag) (v : V) (H : Hp) : Prop := ∃ d : PyData, Dp K H v d ∧ d.showable = true ∧ d.hasDict = false ∧ d.shown.length ≤ 4000 ∧ d.depth ≤ 30 ∧ ∀ x : Str, d = .str x → x.length ≤ 4000
theorem FVd.on {K : PySem.W.Frag} {v : V} {H H' : Hp} (h : FVd K v H) (s : Same H H') : FVd K v H' := by
  obtain ⟨d, h1, h2⟩ := h
  exact ⟨d, h1.on s, h2⟩
theorem texts_d {X : Cx} (hA : X.A.guards = some []) (hu : X.A.units + 100 < cLine) : Texts X (FVd X.K) := by
  refine ⟨fun A => A.guards = some [] ∧ A.units + 64 < cLine, 4000, by decide, fun A' h1 h2 => ⟨h2.trans hA, by omega⟩, fun pins σ H s v u h0 I rv ⟨d, hd, hs, hn, hz, hdp, hx⟩ hk => ?_⟩
  intro A E s1 Q ⟨hg, hun⟩ hk0 hq
  obtain ⟨as, rd⟩ := Dp.reads I d v u hd rv
  have big : d.shown.length ≤ sizeLine := line_big (by omega)
  have ref : ∀ a : Addr, u = .ref a → wpAny (model X.prog X.w) A (formatField u Str.empty) Q E s1 := by
    rintro a rfl
    exact formatField_of_reads rd hs (PyData.noDict_hsm hn) hg (by omega) (fun b o e => hk0 b o (hk b o e)) (fun h' w tk hk' => hq d.shown w h' tk hz hk') big
  cases hd with
  | non =>
    cases rv
    exact wpAny_formatField_none (hq _ _ s1.heap _ (by decide +kernel) fun _ _ e => e)
  | bl b =>
    cases rv
    exact wpAny_formatField_bool (hq _ _ s1.heap _ (by cases b <;> decide +kernel) fun _ _ e => e)
  | int i =>
    obtain ⟨t, rfl⟩ := rv
    exact wpAny_formatField_int (by simpa [PyData.showable] using hs) (hq _ _ s1.heap _ (by simpa only [PyData.shown] using hz) fun _ _ e => e)
  | str x =>
    obtain ⟨t, rfl⟩ := rv
    have := hx x rfl
    exact wpAny_formatField_str (hq _ _ s1.heap _ this fun _ _ e => e) (hq _ _ s1.heap _ this fun _ _ e => e) (line_big (by omega))
  | lst h1 h2 =>
    cases rv
    exact ref _ rfl
  | tup h1 h2 =>
    cases rv
    exact ref _ rfl
theorem shownAll_rep (d : PyData) : ∀ n : Nat, PyData.shownAll (List.replicate n d) = List.replicate n d.shown
  | 0 => by simp only [List.replicate, PyData.shownAll]
  | n + 1 => by rw [List.replicate_succ, PyData.shownAll, shownAll_rep d n, List.replicate_succ]
theorem showable_rep {d : PyData} (h : d.showable = true) : ∀ n : Nat, PyData.showableAll (List.replicate n d) = true
  | 0 => by simp only [List.replicate, PyData.showableAll]
  | n + 1 => by rw [List.replicate_succ, PyData.showableAll, showable_rep h n, h]; rfl
theorem noDict_rep {d : PyData} (h : d.hasDict = false) : ∀ n : Nat, PyData.hasDictAll (List.replicate n d) = false
  | 0 => by simp only [List.replicate, PyData.hasDictAll]
  | n + 1 => by rw [List.replicate_succ, PyData.hasDictAll, noDict_rep h n, h]; rfl
theorem depth_rep {d : PyData} {k : Nat} (h : d.depth ≤ k) : ∀ n : Nat, PyData.depthAll (List.replicate n d) ≤ k
  | 0 => by simp only [List.replicate, PyData.depthAll]; exact Nat.zero_le _
  | n + 1 => by
    rw [List.replicate_succ, PyData.depthAll]
    have := depth_rep h n
    omega
theorem sum_rep (a : Nat) : ∀ n : Nat, (List.replicate n a).sum = n * a
  | 0 => by simp
  | n + 1 => by rw [List.replicate_succ, List.sum_cons, sum_rep a n, Nat.succ_mul]; omega
/-- a list of n equal values of data has the text of its datum -/
theorem list_rep_ok {d : PyData} {n : Nat} (hn : n ≤ 100) (hs : d.showable = true) (hx : d.hasDict = false) (hz : d.shown.length ≤ 4000) (hd : d.depth ≤ 30) :
    (PyData.list (List.replicate n d)).showable = true ∧ (PyData.list (List.replicate n d)).hasDict = false ∧ (PyData.list (List.replicate n d)).shown.length ≤ sizeLine ∧ (PyData.list (List.replicate n d)).depth ≤ 60 := by
  refine ⟨by simpa only [PyData.showable] using showable_rep hs n, by simpa only [PyData.hasDict] using noDict_rep hx n, ?_, ?_⟩
  · simp only [PyData.shown]
    rw [shownAll_rep]
    refine Nat.le_trans (listText_len_le _) ?_
    rw [List.map_replicate, sum_rep, List.length_replicate, sizeLine_eq]
    have : n * d.shown.length ≤ 100 * 4000 := Nat.mul_le_mul hn hz
    omega
  · simp only [PyData.depth]
    have := depth_rep hd n
    omega
theorem lk1 {f : Str} {v : V} : List.lookup f [(f, v)] = some v := by simp [List.lookup]
end L2
set_option Elab.async false
set_option linter.all false
set_option maxRecDepth 100000
set_option maxHeartbeats 4000000
/-! raise Cn() and raise Cn(e) of own errors over an own base. -/
namespace L2
open PySem PySem.Spec PyProof.Rows PySem.NearX
section
variable {X : Cx} {cn f : Str} {C fI : Addr} {parts : List Expr} {jp : Pos}
theorem pmk_exc0 {C : Addr} {x : Str} {p pos : Pos} (q : PySem.W.excIn X.K C [.type "ValueError", .type "Exception", .type "BaseException", .type "object"] "ValueError.__new__" = true) (gC : X.mg x = some (.ref C)) (kC : PySem.W.keepIn X.K (.ref C) = true) (r : Raises X (.ref C)) (hg : Gl X x := by rfl)
    (hdb : (x == ("__debug__" : Str)) = false := by decide) : PMk X (.Call (.Name x p) [] [] pos) (fun _ H Q => Q (.ref C) none H) := by
  intro pins s σ H Q I h
  refine wpAny_Call_Name_kw (ld_glob I hg gC (PySem.W.callWith_K0 I.kIn kC ?_) hdb)
  obtain ⟨bm, N, nm, qn, bs, hdct, sn, sub, ab, col, dd, k0, k1, k2, k3, k5, mN, hC, hN, hni, T⟩ := exc_obj I.kIn q
  exact wpAny_call_exc_subT PySem.F.excBase_ValueError T hC hN hni (fun h' e hm => mk_of I hm r h (I.hok.gone hm.new)) (Nat.zero_le _)
/-- Cn(e), raised -/
def tMkNear (C : Addr) (f : Str) (FV : V → Hp → Prop) (ta : TA) : L2.St → Hp → XK → Prop := fun σ H Q => ta σ H fun vs H1 => ∃ v, vs = [v] ∧ FV v H1 ∧ ∀ d, H1 d = none → Q (.ref C) (some d) (upd H1 d (.xd [(f, v)]))
theorem pmk_near {FV : V → Hp → Prop} {a : Expr} {ta : TA} {p pos : Pos} {k : Nat} (T : NearTxt X.prog X.K X.mg cn f C fI parts jp) (hp : PartsOk f parts) (hF : Texts X FV) (hr : Room (k + 1) X.A) (ha : PA X [a] ta) (hg : Gl X cn := by rfl)
    (hdb : (cn == ("__debug__" : Str)) = false := by decide)
    (he : starEach (a :: []) X.env = (false, eval a X.env) :: starEach [] X.env := by rfl) (hpl : (backTo pos (starEach [] X.env)).any (·.1) = false := by rfl) :
    PMk X (.Call (.Name cn p) [a] [] pos) (tMkNear C f FV ta) := by
  intro pins s σ H Q I h
  refine wpAny_Call_Name_kw (ld_glob I hg T.gC ?_ hdb)
  refine PySem.W.callWith_K (h₀ := X.base) I.ok.mod.kin T.kC (thn (ha.run pos pins s σ H _ I h) fun us s1 ⟨vs, H1, I1, r1, v, ev, fv, q1⟩ => ⟨I1.kIn, ?_⟩) he hpl
  subst ev
  cases r1 with
  | @cons _ u _ us' rv rn =>
    cases rn
    show wpAny _ _ (call (.ref C) [u]) _ _ _
    refine wpAny_call (codeAny_mono (near_call (Q := MkP X pins σ Q) (E := X.xe) T hp hF rfl (Nat.le_succ _) rfl hr I1 rv fv (Or.inl rfl) fun h' tk e d M => ?_) fun r s' hq => ?_)
    · obtain ⟨t1, hoe⟩ := M.obj
      obtain ⟨G, g1, g2⟩ := restrict h' fun b => decide (b ≠ e)
      have there : ∀ b, b ≠ e → G.get? b = h'.get? b := fun b hb => g1 b (decide_eq_true hb)
      have gone' : G.get? e = none := g2 e (by simp)
      have old : ∀ b o, s1.heap.get? b = some o → G.get? b = some o := fun b o z => (there b (Nat.ne_of_lt (Nat.lt_of_lt_of_le (Heap.lt_size z) M.new))).trans (M.keep b o z)
      have xd : ObjOk X.prog X.w (upd H1 d (.xd [(f, v)])) G d (.xd [(f, v)]) := by
        refine ⟨_, M.ns.at (fun o z => (there d M.dne).trans z), fun g => ?_⟩
        rw [lookup_put]
        by_cases hgf : g = f
        · rw [if_pos hgf, if_pos hgf]
          exact rv
        · rw [if_neg hgf, if_neg hgf]
          trivial
      have J : Inv X pins σ (upd H1 d (.xd [(f, v)])) { s1 with heap := G, toks := tk } := I1.laid (t' := tk) old M.dbig xd
      refine ⟨e, _, _, { s1 with heap := G, toks := tk }, _, .ref C, some d, rfl, J, fun b o z => ?_, gone', hoe, ⟨rfl, rfl⟩, rfl, rfl, ?_, rfl, I1.bare, raises_own T.exC T.tyC, q1 d (I1.hok.fresh M.dbig)⟩
      · by_cases hb : b = e
        · rw [hb] at z
          cases gone'.symm.trans z
        · exact (there b hb).symm.trans z
      · rw [upd_ne M.dne.symm]
        exact I1.hok.fresh M.new
    · cases r with
      | error er => exact hq
      | ok fl => cases fl <;> first | exact hq | exact hq.elim
/-- a whole number's own text, wherever it is asked -/
def FVi (v : V) (_ : Hp) : Prop := ∃ i : Int, v = .int i ∧ i.natAbs.log2 < 1920 ∧ ((toString i : String) : Str).length ≤ 4000
theorem texts_i : Texts X FVi := by
  refine ⟨fun _ => True, 4000, by decide, fun _ _ _ => trivial, fun pins σ H s v u h0 I rv ⟨i, ev, hi, hl⟩ hk => ?_⟩
  subst ev
  obtain ⟨t, rfl⟩ := rv
  intro A E s1 Q _ hk0 hq
  exact wpAny_formatField_int hi (hq _ _ s1.heap _ hl fun _ _ e => e)
/-- e.f in an except suite, e the error at a of the class at C (its own dict d told) -/
def tNearX (C : Addr) (f : Str) (a : Addr) (cls : Value) (d : Option Addr) (te : TE) : TE := fun σ H Q => te σ H fun x H1 => x = .ref a ∧ cls = .ref C ∧ ∃ (dd : Addr) (fs : List (Str × V)) (v : V), d = some dd ∧ H1 dd = some (.xd fs) ∧ fs.lookup f = some v ∧ Q v H1
theorem pe_nearX {a : Addr} {oe : Obj} {cls : Value} {d : Option Addr} {pn : List (Addr × Obj)} {e : Expr} {te : TE} {pos : Pos} (T : FldC X.K C f) (hz : Zc cls d oe) (hf : ∃ vs, oe.data = .fields vs) (he : PE (X.suite a ((a, oe) :: pn)) e te)
    (hb : attributeBase e f X.env (eval e X.env) = eval e X.env := by rfl) : PE (X.suite a ((a, oe) :: pn)) (.Attribute e f pos) (tNearX C f a cls d te) := by
  refine ⟨fun pins s σ H Q I h => ?_⟩
  refine attr_of hb (thn (he.run pins s σ H _ I h) fun u s1 hh => ?_)
  obtain ⟨x, H1, I1, rx, ex, ec, dd, fs, v, ed, ea, l, q⟩ := hh
  subst ex ec ed
  obtain rfl : u = Value.ref a := rx
  obtain ⟨ha, _⟩ := I1.pin (a, oe) (List.mem_append_left _ List.mem_cons_self)
  obtain ⟨vs, hd⟩ := hf
  obtain ⟨mA, hns, hr⟩ := I1.hok dd _ ea
  obtain ⟨od, ho, hl⟩ := lookIn_ns hns
  obtain ⟨w, hw, rw'⟩ := RelO.some_of (v := v) (o := mA f) (by rw [← l]; exact hr f)
  have J : PySem.W.InstAt s1.heap a oe C (some od) := ⟨ha, hz.1, by unfold PySem.W.notCls; rw [hd] <;> rfl, by rw [hz.2]; exact ho⟩
  exact HandSPX.exc_get I1.kIn J T.ga T.gg T.exC (PySem.W.findObj_own T.hdC T.noN rfl (by rw [hl, hw])) (handed_of rw') ⟨v, H1, I1.tok _, rw', q⟩
end
end L2
set_option Elab.async false
set_option linter.all false
set_option maxRecDepth 100000
set_option maxHeartbeats 4000000
/-! isinstance of data; whole numbers within bounds, rows. -/
namespace L2
open PySem PySem.Spec PyProof.Rows
/-- the name of a datum's type -/
def tyN : PyData → String
  | .none => "NoneType"
  | .bool _ => "bool"
  | .int _ => "int"
  | .str _ => "str"
  | .list _ => "list"
  | .tuple _ => "tuple"
  | .dict _ => "dict"
theorem Dp.ty {K : PySem.W.Frag} {H : Hp} {v : V} {d : PyData} (h : Dp K H v d) : TyX K H v (.type (tyN d)) := by
  cases h with
  | non => exact .base .non
  | bl b => exact .base (.bl b)
  | int i => exact .base (.int i)
  | str x => exact .base (.str x)
  | lst h1 h2 =>
    rcases h1 with (h1 | ⟨o, h1⟩) | ⟨o, its, n, e, c, _⟩
    · exact .base (.lst h1)
    · exact .base (.frz h1)
    · exact .kList e c
  | tup h1 h2 =>
    rcases h1 with (h1 | ⟨o, h1⟩) | ⟨o, its, n, e, c, _⟩
    · exact .base (.tup h1)
    · exact .fTuple h1
    · exact .kTuple e c
def isInt : PyData → Bool
  | .int _ => true
  | .bool _ => true
  | _ => false
def isBool : PyData → Bool
  | .bool _ => true
  | _ => false
def isTup : PyData → Bool
  | .tuple _ => true
  | _ => false
def isLst : PyData → Bool
  | .list _ => true
  | _ => false
/-- isinstance(x, T), x data: the answer ans d -/
def rIsD (K : PySem.W.Frag) (n : String) (ans : PyData → Bool) : List V → Hp → VK → Prop := fun xs H Q => ∃ (x : V) (d : PyData), xs = [x, .ty n] ∧ Dp K H x d ∧ Q (.bl (ans d)) H
section
variable {X : Cx}
theorem call_isD {n : String} {ans : PyData → Bool} (h : ∀ d, (∀ kvs, d ≠ .dict kvs) → kitB (tyN d) n = some (ans d)) : CallR X (.builtin "isinstance") (rIsD X.K n ans) := by
  intro pins s σ H xs us Q I r hh
  obtain ⟨x, d, rfl, hd, q⟩ := hh
  exact call_isi pins s σ H _ us Q I r ⟨x, .ty n, _, .type n, ans d, rfl, .ty n, hd.ty, kit_ty (h d fun kvs z => by subst z; cases hd), q⟩
theorem is_int : CallR X (.builtin "isinstance") (rIsD X.K "int" isInt) := call_isD fun d hd => by
  cases d <;> first | exact absurd rfl (hd _) | (simp only [tyN, isInt]; decide +kernel)
theorem is_bool : CallR X (.builtin "isinstance") (rIsD X.K "bool" isBool) := call_isD fun d hd => by
  cases d <;> first | exact absurd rfl (hd _) | (simp only [tyN, isBool]; decide +kernel)
theorem is_tuple : CallR X (.builtin "isinstance") (rIsD X.K "tuple" isTup) := call_isD fun d hd => by
  cases d <;> first | exact absurd rfl (hd _) | (simp only [tyN, isTup]; decide +kernel)
theorem is_list : CallR X (.builtin "isinstance") (rIsD X.K "list" isLst) := call_isD fun d hd => by
  cases d <;> first | exact absurd rfl (hd _) | (simp only [tyN, isLst]; decide +kernel)
end
/-- a whole number from lo to hi -/
def inB (lo hi : Int) : PyData → Bool
  | .int i => decide (lo ≤ i) && decide (i ≤ hi)
  | _ => false
/-- a tuple of r values of a width -/
def isRow (w r : Int) : PyData → Bool
  | .tuple ds => decide ((ds.length : Int) = r) && ds.all (inB 0 (w - 1))
  | _ => false
end L2
set_option Elab.async false
set_option linter.all false
set_option maxRecDepth 100000
set_option maxHeartbeats 4000000
/-! try with several clauses, some with a name and some without. -/
namespace L2
open PySem PySem.Spec PyProof.Rows
abbrev Suite := Addr → Value → Option Addr → TS
/-- a clause's name, if it has one, is gone behind its suite -/
def gone (oi : Option Nat) (D : Ends) : Ends := match oi with
  | none => D
  | some i => { nx := fun σ H => D.nx (σ.set i none) H, rt := D.rt, bk := fun σ H => D.bk (σ.set i none) H, ct := fun σ H => D.ct (σ.set i none) H }
def held (oi : Option Nat) (σ : L2.St) (a : Addr) : L2.St := match oi with
  | none => σ
  | some i => σ.set i (some (.ref a))
def wMix (K : PySem.W.Frag) (Wout : WX) (D : Ends) : List (Value × Option Nat × Suite) → WX
  | [] => Wout
  | (c, oi, ts) :: r => fun cls d σ H => ∃ b, PySem.W.exmOne K cls c = some b ∧ (b = true → ∀ a, H a = none → ts a cls d (gone oi D) (held oi σ a) H) ∧ (b = false → wMix K Wout D r cls d σ H)
/-- the clause's name on and the slot oi belong together -/
def NameSlot (X : Cx) (on : Option Str) (oi : Option Nat) : Prop := (on = none ∧ oi = none) ∨ ∃ n i, on = some n ∧ oi = some i ∧ X.N[i]? = some n ∧ X.env.kindOf n = some .local
inductive Clauses (X : Cx) : List ExceptHandler → List (Value × Option Nat × Suite) → Prop
  | nil : Clauses X [] []
  | cons {x : Str} {c : Value} {on : Option Str} {oi : Option Nat} {ts : Suite} {b₀ : Stmt} {suite : List Stmt} {np pos' : Pos} {hds : List ExceptHandler} {l : List (Value × Option Nat × Suite)} (hc : Names X x c) (hn : NameSlot X on oi)
      (hsu : ∀ (a : Addr) (oe : Obj) (cls : Value) (d : Option Addr) (pn : List (Addr × Obj)), Zc cls d oe → (∃ vs, oe.data = .fields vs) → PSs (X.suite a ((a, oe) :: pn)) (b₀ :: suite) (ts a cls d)) (r : Clauses X hds l) :
      Clauses X (.ExceptHandler (some (.Name x np)) on (b₀ :: suite) pos' :: hds) ((c, oi, ts) :: l)
section
variable {X : Cx} {pins : List (Addr × Obj)} {σ : L2.St} {H : Hp} {s : Shared} {D : Ends}
/-- a suite's end, seen from outside of the try -/
theorem SP.out {a : Addr} {q : Addr × Obj} {fl : Flow} (ok : X.Ok) (h : SP (X.suite a (q :: (X.pn ++ pins))) [] D fl s) : SP X pins D fl s := by
  cases fl with
  | ret u =>
    obtain ⟨v, σ', H', J, r, w⟩ := h
    exact ⟨v, σ', H', J.unsuite ok, r, w⟩
  | next => obtain ⟨σ', H', J, w⟩ := h; exact ⟨σ', H', J.unsuite ok, w⟩
  | brk => obtain ⟨σ', H', J, w⟩ := h; exact ⟨σ', H', J.unsuite ok, w⟩
  | cont => obtain ⟨σ', H', J, w⟩ := h; exact ⟨σ', H', J.unsuite ok, w⟩
variable {body : List Stmt} {h₀ : ExceptHandler} {hds : List ExceptHandler} {l : List (Value × Option Nat × Suite)} {pos : Pos} {tb : WX → TS} {Wout : WX}
theorem ps_try_mix (hs : X.stack = X.env :: X.outer) (hf : X.env.frame = some X.env.locals) (hN : X.N.Nodup) (tk : Takes X Wout)
    (hb : ∀ (W : WX) (pn : List (Addr × Obj)) (xe : Value → Shared → Prop), Takes (X.tr pn xe) W → PassesOwn (model X.prog X.w) X.A X.env xe → PSs (X.tr pn xe) body (tb W))
    (hh : Clauses X (h₀ :: hds) l) : PS X (.Try body (h₀ :: hds) [] [] pos) (fun D σ H => tb (wMix X.K Wout D l) D σ H) := by
  constructor
  intro pins s σ H D I h
  have ok := I.ok
  have around : X.A.frames = some (X.env :: X.outer) := ok.frames.trans (congrArg some hs)
  refine wpAny_Try_except (wpAny_mono ((hb (wMix X.K Wout D l) (X.pn ++ pins) (fun e s₁ => wpAny (model X.prog X.w) X.A (noteFrame e X.env) (fun _ s₂ => wpAny (model X.prog X.w) X.A (setFlight e none) (fun _ s₃ =>
    wpAny (model X.prog X.w) X.A (handleBy e X.env (h₀ :: hds)) (SP X pins D) X.xe s₃) X.xe s₂) X.xe s₁) ?caught PassesOwn.looking).run [] s σ H D (I.toTry _) h) ?through fun _ _ he => he)
  case through =>
    intro fl s1 q
    cases fl with
    | next => obtain ⟨σ1, H1, J, w⟩ := q; exact wpAny_execs_nil ⟨σ1, H1, J.ofTry ok, w⟩
    | brk => obtain ⟨σ1, H1, J, w⟩ := q; exact ⟨σ1, H1, J.ofTry ok, w⟩
    | cont => obtain ⟨σ1, H1, J, w⟩ := q; exact ⟨σ1, H1, J.ofTry ok, w⟩
    | ret u => obtain ⟨v, σ1, H1, J, r, w⟩ := q; exact ⟨v, σ1, H1, J.ofTry ok, r, w⟩
  case caught =>
    rintro u s1 ⟨a, B, sI, pinsI, σ1, H1, cls, d, rfl, JI, nb, up, sky, na, os, ag, w⟩
    have J : Inv X pins σ1 H1 sI := JI.ofTry ok
    refine Sky.land Zc.steady around hf (hs ▸ sky) fun hL fl upL => ?_
    have JL : Inv X pins σ1 H1 { s1 with heap := hL } := J.landed nb fl.1 (up.trans upL) os ag
    obtain ⟨oe, vs, he, hz, hd⟩ := fl.there
    have apart : a ∉ frs (X.env :: X.outer) := fun hm => by
      obtain ⟨_, o', e', no⟩ := fl.2.2.1.mem hm
      cases he.symm.trans e'
      exact no _ hd
    have aL : a ≠ X.env.locals := fun z => apart (List.mem_filterMap.mpr ⟨X.env, List.mem_cons_self, by rw [hf, z]⟩)
    have aF : a ∉ X.fs := fun hm => by
      obtain ⟨e, e1, e2⟩ := List.mem_filterMap.mp hm
      exact apart (List.mem_filterMap.mpr ⟨e, List.mem_cons_of_mem _ e1, e2⟩)
    have SL := JL.suite he hd na aL aF
    suffices go : ∀ {hs' : List ExceptHandler} {l' : List (Value × Option Nat × Suite)}, Clauses X hs' l' → wMix X.K Wout D l' cls d σ1 H1 → wpAny (model X.prog X.w) X.A (handleBy (.ref a) X.env hs') (SP X pins D) X.xe { s1 with heap := hL } from go hh w
    intro hs' l' hk
    induction hk with
    | nil =>
      intro w
      refine wpAny_handleBy_nil ?_
      obtain ⟨_, _, _, oe', vs', T, _, _, he', _, hd', first', _⟩ := id fl
      unfold PySem.passOn
      refine wpAny_bind (wpAny_field he' hd' first' ?_)
      rw [if_neg (show ¬ ((Value.ref T == Value.none) = true) from by simp)]
      have leave : wpAny (model X.prog X.w) X.A (setFlight (.ref a) X.env.frame) (fun _ s4 => wpAny (model X.prog X.w) X.A (throw (.ref a) : Sem Flow) (SP X pins D) X.xe s4) X.xe { s1 with heap := hL } := by
        rw [hf]
        exact HandSPX.setFlight_upZ fl fun h4 sky4 up4 => wpAny_throw (tk _ _ ⟨a, B, sI, pins, σ1, H1, cls, d, rfl, J, nb, (up.trans upL).trans up4, .inr (.inr (by rw [hs]; exact sky4)), na, os, ag, w⟩)
      first
        | exact wpAny_bind (wpAny_pure (wpAny_bind leave))
        | exact wpAny_bind leave
    | @cons x c on oi ts b₀ suite np pos' hds2 l2 hc hn hsu r ih =>
      rintro ⟨b, is, yes, no⟩
      refine wpAny_handleBy_cons (codeAny_handlers_test ?_) (by intro q; cases q)
      have ty : PySem.W.Looks (model X.prog X.w) hL (typeOf (.ref a)) cls := fun A Q E s k q => wpAny_typeOf_ref (k _ _ he) (by rw [hz.1]; exact q)
      have isIt := PySem.W.exm_one (M := model X.prog X.w) JL.kIn ty is
      have named : ∀ {Q : Value → Shared → Prop} {E : Value → Shared → Prop}, Q c { s1 with heap := hL } → wpAny (model X.prog X.w) (X.A.mark (some (.ref a))) (eval (.Name x np) X.env) Q E { s1 with heap := hL } := by
        intro Q E q
        obtain ⟨g, db, m | ⟨m, v, n⟩⟩ := hc
        · exact ld_glob (X := X.suite a ((a, oe) :: (X.pn ++ pins))) SL g m q db
        · exact ld_blt (X := X.suite a ((a, oe) :: (X.pn ++ pins))) SL g m v q n db
      refine named (isIt.here ?_)
      cases b with
      | false => exact ih (no rfl)
      | true =>
        have told := yes rfl a na
        rcases hn with ⟨rfl, rfl⟩ | ⟨n, i, rfl, rfl, hi, hln⟩
        · refine codeAny_handlers_suite (HandSPX.lands_againZ fl fun h4 fl4 up4 => ?_)
          obtain ⟨oe4, vs4, he4, hz4, hd4⟩ := fl4.there
          have J4 : Inv X pins σ1 H1 { s1 with heap := h4 } := J.landed nb fl4.1 ((up.trans upL).trans up4) os ag
          have S4 := J4.suite he4 hd4 na aL aF
          exact wpAny_mono ((hsu a oe4 cls d (X.pn ++ pins) hz4 ⟨_, hd4⟩).run [] _ _ H1 _ S4 told) (fun f s6 q => SP.out ok q) fun _ _ z => z.elim
        · refine codeAny_handlers_suite_as (HandSPX.lands_againZ fl fun h4 fl4 up4 => ?_)
          obtain ⟨oe4, vs4, he4, hz4, hd4⟩ := fl4.there
          have J4 : Inv X pins σ1 H1 { s1 with heap := h4 } := J.landed nb fl4.1 ((up.trans upL).trans up4) os ag
          have S4 := J4.suite he4 hd4 na aL aF
          refine store_ok (X := X.suite a ((a, oe4) :: (X.pn ++ pins))) (v := .ref a) S4 hN hi (.inl hln) rfl (fun s5 S5 => ?_) (.inr hln)
          refine wpAny_mono ((hsu a oe4 cls d (X.pn ++ pins) hz4 ⟨_, hd4⟩).run [] s5 _ H1 _ S5 told) (fun f s6 q => ?_) fun _ _ z => z.elim
          have q' := SP.out ok q
          cases f with
          | next => obtain ⟨σ6, H6, J6, w6⟩ := q'; exact gone_ok J6 hN hi hln fun s7 J7 => ⟨_, _, J7, w6⟩
          | brk => obtain ⟨σ6, H6, J6, w6⟩ := q'; exact gone_ok J6 hN hi hln fun s7 J7 => ⟨_, _, J7, w6⟩
          | cont => obtain ⟨σ6, H6, J6, w6⟩ := q'; exact gone_ok J6 hN hi hln fun s7 J7 => ⟨_, _, J7, w6⟩
          | ret u => obtain ⟨v6, σ6, H6, J6, r6, w6⟩ := q'; exact gone_ok J6 hN hi hln fun s7 J7 => ⟨_, _, _, J7, r6, w6⟩
end
end L2
set_option Elab.async false
set_option linter.all false
set_option maxRecDepth 100000
set_option maxHeartbeats 4000000
/-! The end of a law whose promise is an FnG: the law is called where no repr is under way. -/
namespace L2
open PySem PySem.Spec PyProof.Rows
section
variable {P : Program} {w : World} {K : PySem.W.Frag} {mg mb : Str → Option Value} {CX : CXT} {k : Nat} {fa a : Addr} {fd : FuncData} {x : Str} {sp : Sp} {s₁ : Shared} {vs : List Value} {ns : List Int}
/-- what the caller of the law finds behind the call -/
def LawEnd (s₁ : Shared) : Result → Shared → Prop := fun r s' => r = .ok (.ret (.bool true)) ∧ OldK s₁.heap s'.heap ∧ s'.os = s₁.os ∧ AllBare s'.gens
/-- from a heap H in which at most the script is told, and that as a thing that is only read -/
theorem law_goG {H : Hp} (KX : K.In s₁.heap) (hns : s₁.heap.Ns mainGlobals mg) (hb : s₁.heap.Ns builtinsNs mb) (hbb : ∀ x : Str, x ≠ "__name__" → mb x = bootBuiltins x) (hlim : s₁.heap.NoLimit) (hg : s₁.gens = #[])
    (ho : ∀ b o, H b = some o → b = a ∧ K.lookup a = none ∧ ∃ ob xs, o = .frz ob (.lst xs)) (hl : ∀ es ep, ∀ o, s₁.heap.get? a = some o → o.data ≠ .dict es ep) (hok : HOk P w H s₁.heap) (hr : Room k callerA)
    (F : ∀ base : Heap, K.In base → base.Ns mainGlobals mg → FnG P w K mg base CX k fa fd [x] sp) (hbind : ∀ (s : Shared) (u : Value), BindsTo s fd ⟨[u], []⟩ [(x, u)])
    (hsp : sp [.ref a] H (fun v _ => v = .bl true) fun _ _ _ => False) (hCX : ∀ e s', CX [] H s₁ (fun _ _ _ => False) e s' → False) :
    codeAny (model P w) callerA (.call (.ref fa) ⟨[.ref a], []⟩) (LawEnd s₁) s₁ := by
  have free : ∀ {b : Addr} {o : Obj}, s₁.heap.get? b = some o → (b = a → False) → H b = none := fun {b o} _ hb => by
    cases q : H b with
    | none => rfl
    | some u => exact (hb (ho b u q).1).elim
  have hid : ∀ {b : Addr} {m : Str → Option Value}, s₁.heap.Ns b m → (hidT s₁.heap H).Ns b m := by
    rintro b m ⟨o, es, ep, e, d, r⟩
    exact ⟨o, es, ep, hidT_get e (free e fun z => hl es ep o (z ▸ e) d), d, r⟩
  have hK : K.In (hidT s₁.heap H) := fun b o e => by
    refine hidT_get (KX b o e) ?_
    cases q : H b with
    | none => rfl
    | some u =>
      obtain ⟨z, n, _⟩ := ho b u q
      rw [z, n] at e
      cases e
  have M : Mod K mg (hidT s₁.heap H) := ⟨hK, hid hns, ⟨mb, hid hb, hbb⟩, let ⟨mc, h1, h2⟩ := hlim; ⟨mc, hid h1, h2⟩⟩
  have e0 : Env0 P w K mg (hidT s₁.heap H) callerA [] s₁ H :=
    ⟨rfl, M, fun b o e => of_hidT e, Nat.le_of_eq (hidT_size _ _), trivial, (fun b z => absurd (show b ∈ ([] : List Addr) from z) (by simp)), hok, .of_eq hg⟩
  refine codeAny_mono ((F _ hK (hid hns)).go callerA rfl [] s₁ H ⟨[.ref a], []⟩ [.ref a] [.ref a] _ _ hr e0 (hbind s₁ (.ref a)) (.cons rfl .nil) hsp) fun r s' h => ?_
  match r, h with
  | .error e, h => exact (hCX e s' h).elim
  | .ok (.ret u), ⟨v, H', os, bare, un, hok', rv, q⟩ =>
    cases q
    cases rv
    refine ⟨rfl, .of_keep fun b o e => ?_, os, bare⟩
    cases q : H b with
    | none => exact un.keep b o e q (by intro z; exact absurd (show b ∈ ([] : List Addr) from z) (by simp)) (by simp)
    | some u =>
      obtain ⟨_, _, ob, xs, rfl⟩ := ho b u q
      obtain ⟨e1, _⟩ := hok b _ q
      obtain ⟨e2, _⟩ := hok' b _ (un.frzs b ob _ q)
      rw [e] at e1
      cases e1
      exact e2
end
theorem walk_ofG {l : PySem.W.OpenLaw} {n k : Nat} {q : Program} {loose : List Str} {XP : (Str → Option Value) → Heap → Prop} {YP : World → Heap → Prop} {d : DefRec} {K : Params → PySem.W.Frag} {sp : PySem.W.Frag → Sp} {x : Str}
    (hn : l.most = some n) (hn2 : n ≤ sizeLine) (hdf : d.params.defaults = []) (hr : Room k callerA) (hY : ∀ (w : World) (h : Heap), YP w h → (K w.params).In h)
    (F : ∀ (w : World) (mg : Str → Option Value) (fa : Addr) (h : Heap), (K w.params).In h → h.Ns mainGlobals mg → mg d.name = some (.ref fa) →
      ∃ fd : FuncData, (∀ (s : Shared) (u : Value), BindsTo s fd ⟨[u], []⟩ [(x, u)]) ∧ ∀ base : Heap, (K w.params).In base → base.Ns mainGlobals mg → FnG l.prog w (K w.params) mg base CX0 k fa fd [x] (sp (K w.params)))
    (hsp : ∀ (K : PySem.W.Frag) (H : Hp) (a : Addr) (ns : List Int), ns.length ≤ n → SqL K H a (ns.map V.int) → sp K [.ref a] H (fun v _ => v = .bl true) fun _ _ _ => False) :
    PySem.W.WalkO q loose XP YP l.row.toRowW d [] (fun f vs => PySem.call f vs) := by
  refine Att.attach_call hn hdf fun w s₀ s₁ mg mb fa o pm cd doc a vs ns G Y ho hd hcd hmg hobj hints hlen hg => ?_
  have KX := hY w _ Y
  obtain ⟨fd, hb, hF⟩ := F w mg fa _ KX G.T.g hmg
  have rv := vals_ints hints
  have lv : vs.length = ns.length := hints.length
  have hsz : ns.length ≤ sizeLine := Nat.le_trans hlen hn2
  have nod : ∀ es ep, ∀ o, s₁.heap.get? a = some o → o.data ≠ .dict es ep := by
    rintro es ep o e
    rw [hobj] at e
    cases e
    intro z
    cases z
  cases hk : (K w.params).lookup a with
  | some o =>
    have e : (some o : Option Obj) = _ := (KX a o hk).symm.trans hobj
    cases e
    exact law_goG (H := fun _ => none) KX G.T.g G.T.b G.T.builtins G.T.nolimit hg (fun b o z => by cases z) nod (fun b o z => by cases z) hr hF hb
      (hsp _ _ a ns hlen (.inr ⟨_, vs.toArray, _, hk, rfl, rfl, rfl, by rw [List.size_toArray, lv]; exact hsz, by simpa using rv⟩)) fun e s' z => z.elim
  | none =>
    refine law_goG (H := fun b => if b = a then some (.frz { cls := .type "list", data := .seq vs.toArray } (.lst (ns.map V.int))) else none) KX G.T.g G.T.b G.T.builtins G.T.nolimit hg (fun b o z => ?_) nod (fun b o z => ?_) hr hF hb
      (hsp _ _ a ns hlen (.inl (.inr ⟨_, if_pos rfl⟩))) fun e s' z => z.elim
    · by_cases h : b = a
      · have z' := (if_pos h).symm.trans z
        cases z'
        exact ⟨h, hk, _, _, rfl⟩
      · have z' := (if_neg h).symm.trans z
        cases z'
    · by_cases h : b = a
      · have z' := (if_pos h).symm.trans z
        cases z'
        subst h
        exact ⟨hobj, by rw [List.length_map]; exact hsz, vs, _, rv, hobj⟩
      · have z' := (if_neg h).symm.trans z
        cases z'
end L2
set_option Elab.async false
set_option linter.all false
set_option maxRecDepth 100000
set_option maxHeartbeats 4000000
namespace Law
open PySem PySem.Spec PyProof.Rows L2 PySem.NearX
def top (i : Nat) : Stmt := PySem.Challenge.pw_nearsettled_k01_what_is_a_table.main.body.getD i (.Pass ⟨0, 0, 0, 0⟩)
abbrev sBetween : Stmt := top 10
abbrev sBelow : Stmt := top 11
abbrev sRow : Stmt := top 12
abbrev sCkW : Stmt := top 13
abbrev sCkA : Stmt := top 14
/-- the built-ins that the defs name -/
structure Blt (mg : Str → Option Value) : Prop where
  len : mg "len" = none
  max : mg "max" = none
  min : mg "min" = none
  abs : mg "abs" = none
  int : mg "int" = none
  bool : mg "bool" = none
  tuple : mg "tuple" = none
  list : mg "list" = none
  set : mg "set" = none
  sorted : mg "sorted" = none
  range : mg "range" = none
  enumerate : mg "enumerate" = none
  isinstance : mg "isinstance" = none
  all : mg "all" = none
  repr : mg "repr" = none
theorem boot_isi : bootBuiltins "isinstance" = some (.builtin "isinstance") := by decide +kernel
theorem boot_int : bootBuiltins "int" = some (.type "int") := by decide +kernel
theorem boot_bool : bootBuiltins "bool" = some (.type "bool") := by decide +kernel
theorem boot_tuple : bootBuiltins "tuple" = some (.type "tuple") := by decide +kernel
theorem boot_list : bootBuiltins "list" = some (.type "list") := by decide +kernel
theorem boot_all : bootBuiltins "all" = some (.builtin "all") := by decide +kernel
theorem same_new {H : Hp} {p : Addr} {o : HO} (h : H p = none) : Same H (upd H p o) := fun b u e => by
  rw [upd_ne (ne_of_none e h)]
  exact e
theorem Same.new {H H' : Hp} {p : Addr} {o : HO} (s : Same H H') (h : H' p = none) : Same H (upd H' p o) := s.trans (same_new h)
theorem Same.mut {H H' : Hp} {p : Addr} {o : HO} (s : Same H H') (h : H p = none) : Same H (upd H' p o) := fun b u e => by
  rw [upd_ne (ne_of_none e h)]
  exact s b u e
theorem small {n : Nat} (h : n ≤ 1000) : n ≤ sizeLine := Nat.le_of_lt (small1000 h)
theorem ifNot {c : Bool} {A B : Prop} (h : c = true) (b : B) : if (!c) = true then A else B := by
  subst h
  exact iteF b
/-- the numbers of a def that is called -/
structure Cal (K : PySem.W.Frag) (mg : Str → Option Value) (x : Str) (ps : List Str) (f : Addr) (fd : FuncData) : Prop where
  g : mg x = some (.ref f)
  k : PySem.W.keepIn K (.ref f) = true
  b : Binds K fd ps []
def spBetween (K : PySem.W.Frag) : Sp := fun vs H Q _ => ∃ (v : V) (lo hi : Int) (d : PyData), vs = [v, .int lo, .int hi] ∧ Dp K H v d ∧ Q (.bl (inB lo hi d)) H
def spBelow (K : PySem.W.Frag) : Sp := fun vs H Q _ => ∃ (v : V) (n : Int) (d : PyData), vs = [v, .int n] ∧ Dp K H v d ∧ Q (.bl (inB 0 (n - 1) d)) H
def spRow (K : PySem.W.Frag) : Sp := fun vs H Q _ => ∃ (v : V) (w r : Int) (d : PyData), vs = [v, .int w, .int r] ∧ Dp K H v d ∧ r ≤ 900 ∧ ∀ H', Same H H' → Q (.bl (isRow w r d)) H'
theorem dpAll_get {K : PySem.W.Frag} {H : Hp} : ∀ {xs : List V} {ds : List PyData} {i : Nat} {x : V}, DpAll K H xs ds → xs[i]? = some x → ∃ d, ds[i]? = some d ∧ Dp K H x d
  | _, _, _, _, .nil, h => by simp at h
  | _, _, 0, x, .cons h1 h2, h => by
    simp at h
    subst h
    exact ⟨_, rfl, h1⟩
  | _, _, i + 1, x, .cons h1 h2, h => by
    obtain ⟨d, e, hd⟩ := dpAll_get (i := i) (x := x) h2 (by simpa using h)
    exact ⟨d, by simpa using e, hd⟩
theorem dpAll_len {K : PySem.W.Frag} {H : Hp} : ∀ {xs : List V} {ds : List PyData}, DpAll K H xs ds → xs.length = ds.length
  | _, _, .nil => rfl
  | _, _, .cons _ h => by simp [dpAll_len h]
theorem take_next {α : Type} {l : List α} {i : Nat} {x : α} (h : l[i]? = some x) : l.take (i + 1) = l.take i ++ [x] := by
  rw [List.take_add_one, h]
  rfl
section
variable {P : Program} {w : World} {K : PySem.W.Frag} {mg : Str → Option Value} {base : Heap}
theorem scBetween : FnScope ["value", "least", "greatest"] ["value", "least", "greatest"] (defScope sBetween) := ⟨rfl, rfl, rfl, by decide +kernel, rfl, by decide +kernel, by decide +kernel⟩
theorem ok_between {f : Addr} {fd : FuncData} (F : Fun K "is_between" "is_between" sBetween f fd) (T : Blt mg) : FnOk P w K mg base CX0 1 f fd ["value", "least", "greatest"] (spBetween K) := by
  refine F.ok scBetween (fun vs H Q E h => ?_) (fun cdv A outer s H vs Q E hr h => ?_)
  · obtain ⟨v, lo, hi, d, rfl, _⟩ := h
    rfl
  · obtain ⟨v, lo, hi, d, rfl, hd, q⟩ := h
    refine ⟨_, pss_one (ps_ret (pe_and (pe_callB is_int (by rfl) T.isinstance boot_isi (pa_cons (pv 0) (pa_cons (pe_bltn (v := .ty "int") (by rfl) T.int boot_int rfl) pa_nil)))
      (pe_and (pe_not (pe_callB is_bool (by rfl) T.isinstance boot_isi (pa_cons (pv 0) (pa_cons (pe_bltn (v := .ty "bool") (by rfl) T.bool boot_bool rfl) pa_nil))))
      (pe_one (pe_chain op_le op_le (pv 1) (pv 0) (pv 2)))))), ?_⟩
    refine ⟨_, rfl, _, _, rfl, hd, _, rfl, ?_⟩
    cases hd with
    | non => exact iteF q
    | bl b => exact iteT ⟨_, rfl, _, _, rfl, .bl b, _, rfl, _, rfl, iteF q⟩
    | str x => exact iteF q
    | lst h1 h2 => exact iteF q
    | tup h1 h2 => exact iteF q
    | int i =>
      refine iteT ⟨_, rfl, _, _, rfl, .int i, _, rfl, _, rfl, iteT ⟨_, rfl, _, rfl, _, _, rfl, rfl, _, rfl, ?_⟩⟩
      by_cases h : lo ≤ i
      · rw [if_pos (decide_eq_true h)]
        refine ⟨_, rfl, _, _, rfl, rfl, ?_⟩
        have e : inB lo hi (.int i) = decide (i ≤ hi) := by
          show (decide (lo ≤ i) && decide (i ≤ hi)) = decide (i ≤ hi)
          rw [decide_eq_true h, Bool.true_and]
        rw [e] at q
        exact q
      · rw [if_neg (by rw [decide_eq_false h]; exact Bool.false_ne_true)]
        have e : inB lo hi (.int i) = false := by
          show (decide (lo ≤ i) && decide (i ≤ hi)) = false
          rw [decide_eq_false h, Bool.false_and]
        rw [e] at q
        exact q
theorem scBelow : FnScope ["value", "limit"] ["value", "limit"] (defScope sBelow) := ⟨rfl, rfl, rfl, by decide +kernel, rfl, by decide +kernel, by decide +kernel⟩
theorem ok_below {f fB : Addr} {fd dB : FuncData} (F : Fun K "is_below" "is_below" sBelow f fd) (GB : FnOk P w K mg base CX0 1 fB dB ["value", "least", "greatest"] (spBetween K)) (cB : Cal K mg "is_between" ["value", "least", "greatest"] fB dB) :
    FnOk P w K mg base CX0 2 f fd ["value", "limit"] (spBelow K) := by
  refine F.ok scBelow (fun vs H Q E h => ?_) (fun cdv A outer s H vs Q E hr h => ?_)
  · obtain ⟨v, n, d, rfl, _⟩ := h
    rfl
  · obtain ⟨v, n, d, rfl, hd, q⟩ := h
    refine ⟨_, pss_one (ps_ret (pe_call GB hr rfl cB.g cB.k cB.b .nil pass0 (pa_cons (pv 0) (pa_cons pe_int (pa_cons (pe_op op_sub (pv 1) pe_int) pa_nil))))), ?_⟩
    exact ⟨_, rfl, _, rfl, _, _, rfl, rfl, v, 0, n - 1, d, rfl, hd, q⟩
theorem scRow : FnScope ["value", "width", "length", "part"] ["value", "width", "length"] (defScope sRow) := ⟨rfl, rfl, rfl, by decide +kernel, rfl, by decide +kernel, by decide +kernel⟩
theorem ok_row {f fB : Addr} {fd dB : FuncData} (F : Fun K "is_row" "is_row" sRow f fd) (T : Blt mg) (GB : FnOk P w K mg base CX0 2 fB dB ["value", "limit"] (spBelow K)) (cB : Cal K mg "is_below" ["value", "limit"] fB dB) :
    FnOk P w K mg base CX0 3 f fd ["value", "width", "length"] (spRow K) := by
  refine F.ok scRow (fun vs H Q E h => ?_) (fun cdv A outer s H vs Q E hr h => ?_)
  · obtain ⟨v, n, r, d, rfl, _⟩ := h
    rfl
  · obtain ⟨v, n, r, d, rfl, hd, hr9, q⟩ := h
    refine ⟨_, pss_one (ps_ret (pe_and (pe_callB is_tuple (by rfl) T.isinstance boot_isi (pa_cons (pv 0) (pa_cons (pe_bltn (v := .ty "tuple") (by rfl) T.tuple boot_tuple rfl) pa_nil)))
      (pe_and (pe_cmpR op_eq (pe_callB call_len_seq (by rfl) T.len PySem.boot_len (pa_cons (pv 0) pa_nil)) (pv 2) (nomark _))
      (pe_one (pe_callB (cr_all rfl) (by rfl) T.all boot_all (pa_cons
        (pe_lc (own := [("part", 3)]) (g := gName 3) (tt := tYes) rfl scRow.nd (pi_tup (pv 0)) (blkOk_by (own := [("part", 3)]) (N := ["value", "width", "length", "part"]) (sc := defScope sRow) (by decide +kernel)) (fun _ _ _ _ _ => pg_name (i := 3) scRow.nd rfl (Or.inl rfl)) (fun _ _ _ _ _ => pts_nil)
          (fun _ _ _ _ _ => pe_call GB hr rfl cB.g cB.k cB.b .nil pass0 (pa_cons (pv 3) (pa_cons (pv 1) pa_nil)))) pa_nil)))))), ?_⟩
    refine ⟨_, rfl, _, _, rfl, hd, _, rfl, ?_⟩
    cases hd with
    | non => exact iteF (q _ (Same.refl H))
    | bl b => exact iteF (q _ (Same.refl H))
    | str x => exact iteF (q _ (Same.refl H))
    | int i => exact iteF (q _ (Same.refl H))
    | lst h1 h2 => exact iteF (q _ (Same.refl H))
    | @tup a xs ds h1 h2 =>
      have hl := dpAll_len h2
      refine iteT ⟨_, rfl, _, _, rfl, .inr h1, _, rfl, rfl, _, rfl, ?_⟩
      by_cases h : (xs.length : Int) = r
      · refine (if_pos (decide_eq_true (by rw [h]))).mpr ?_
        refine ⟨_, rfl, a, rfl, ⟨_, h1⟩, fun D nD => lc_tup (K := K) (a := a) (xs := xs) (fun i H' => Same H H' ∧ H' D = some (.lst ((ds.take i).map fun z => V.bl (inB 0 (n - 1) z)))) ⟨same_new nD, upd_same⟩ (fun i H' _ ⟨s1, _⟩ => h1.on s1) ?_ ?_⟩
        · rintro i x H' hx ⟨s1, hD⟩
          obtain ⟨dd, ed, hdd⟩ := dpAll_get h2 hx
          have hi : i < xs.length := (List.getElem?_eq_some_iff.mp hx).1
          refine ⟨rfl, x, rfl, _, rfl, x, n, dd, rfl, hdd.on s1, _, hD, small1000 (by rw [List.length_map, List.length_take]; omega), Law.Same.mut s1 nD, ?_⟩
          rw [upd_same, take_next ed, List.map_append]
          rfl
        · rintro H' ⟨s1, hD⟩
          rw [hl, List.take_length] at hD
          refine ⟨D, ds.map (inB 0 (n - 1)), rfl, SqL.of (by rw [List.map_map]; exact hD), ?_⟩
          have e : isRow n r (.tuple ds) = (ds.map (inB 0 (n - 1))).all id := by
            show (decide ((ds.length : Int) = r) && ds.all (inB 0 (n - 1))) = _
            rw [← hl, decide_eq_true h, Bool.true_and, List.all_map]
            rfl
          rw [← e]
          exact q _ s1
      · refine (if_neg (by rw [decide_eq_false fun z => h (V.int.inj z)]; exact Bool.false_ne_true)).mpr ?_
        have e : isRow n r (.tuple ds) = false := by
          show (decide ((ds.length : Int) = r) && ds.all (inB 0 (n - 1))) = false
          rw [← hl, decide_eq_false h, Bool.false_and]
        rw [← e]
        exact q _ (Same.refl H)
end
end Law
set_option Elab.async false
set_option linter.all false
set_option maxRecDepth 100000
set_option maxHeartbeats 4000000
/-! len(t), x in t, t == x, t != x by the own __len__, __contains__, __eq__ of t's class: what they promise. -/
namespace L2
open PySem PySem.Spec PyProof.Rows
/-- the class at C has the def at f as its name -/
structure Has (K : PySem.W.Frag) (C : Addr) (name : Str) (f : Addr) (fd : FuncData) (ps : List Str) : Prop where
  at_ : PySem.W.findIn K (.ref C) name = some (some (.ref f))
  fn : PySem.W.isFn K (.ref f) = true
  b : Binds K fd ps []
section
variable {M : Model} {A : Around} {E : Value → Shared → Prop} {s : Shared} {K : PySem.W.Frag} {x C f : Addr} {ox : Obj} {od : Option Obj} {name : Str}
theorem own_special {args : List Value} {Q : Option Value → Shared → Prop} (X : K.In s.heap) (I : PySem.W.InstAt s.heap x ox C od) (hs : PySem.W.findIn K (.ref C) name = some (some (.ref f))) (hf : PySem.W.isFn K (.ref f) = true)
    (h : wpAny M A (call (.ref f) (.ref x :: args)) (fun v => Q (some v)) E s) : wpAny M A (callSpecial? (.ref x) name args) Q E s := by
  unfold callSpecial? specialOf
  refine wpAny_bind (wpAny_bind (I.type.here ((PySem.W.looks_findIn X hs).here ?_)))
  refine wpAny_holding ?_
  refine wpAny_bind ((PySem.W.bind_fn X _ (beq_iff_eq.mp hf)).here ?_)
  exact wpAny_bind (wpAny_mono h (fun v s' z => wpAny_pure z) fun _ _ z => z)
theorem own_special_none {args : List Value} {no : Sem Value} {Q : Option Value → Shared → Prop} (X : K.In s.heap) (I : PySem.W.InstAt s.heap x ox C od) (hs : PySem.W.findIn K (.ref C) name = some (some (.ref f))) (hf : PySem.W.isFn K (.ref f) = true)
    (h : wpAny M A (call (.ref f) (.ref x :: args)) (fun v => Q (some v)) E s) : wpAny M A (callSpecialUnlessNone? (.ref x) name args no) Q E s := by
  unfold callSpecialUnlessNone? specialOf
  refine wpAny_bind (wpAny_bind (I.type.here ((PySem.W.looks_findIn X hs).here ?_)))
  refine wpAny_holding ?_
  refine wpAny_bind ((PySem.W.bind_fn X _ (beq_iff_eq.mp hf)).here ?_)
  show wpAny _ _ (if (Value.ref f == Value.none) = true then _ else _) _ _ _
  rw [if_neg (show ¬ ((Value.ref f == Value.none) = true) from by simp)]
  exact wpAny_bind (wpAny_mono h (fun v s' z => wpAny_pure z) fun _ _ z => z)
end
section
variable {X : Cx} {CX : CXT} {k : Nat} {C f : Addr} {fd : FuncData} {ps : List Str} {sp : Sp} {E : XK}
theorem relRef (a : Addr) : RelV (.ref a) (.ref a) := rfl
/-- the def runs, called from below the running body -/
theorem run_at {pins : List (Addr × Obj)} {σ : St} {H : Hp} {s : Shared} {Q : VK} {us : List Value} {vs : List V} {A : Around} (F : FnOk X.prog X.w X.K X.mg X.base CX k f fd ps sp) (hr : Room k A) (hfr : A.frames = X.A.frames) (hb : Binds X.K fd ps []) (hx : Passes CX X E)
    (I : Inv X pins σ H s) (r : Vals vs us) (h : sp vs H Q E) : wpAny (model X.prog X.w) A (call (.ref f) us) (EP X pins σ Q) X.xe s := by
  have e0 : Env0 X.prog X.w X.K X.mg X.base A X.stack s H := by
    have e := I.env0
    exact ⟨by rw [hfr]; exact e.frames, e.mod, e.bs, e.bsz, e.funs, e.frf, e.hok, e.bare⟩
  have hl : (us ++ []).length = ps.length := by rw [List.append_nil, ← r.length]; exact F.len _ _ _ _ h
  refine wpAny_call (codeAny_mono (F.run A X.stack s H ⟨us, []⟩ us vs Q E hr e0 (by
    have := hb s us I.kIn hl
    rwa [List.append_nil] at this) r h) fun q s' hq => ?_)
  cases q with
  | error e => exact hx pins σ H s e s' I hq
  | ok fl =>
    cases fl with
    | ret u => exact I.after hq
    | next => exact False.elim hq
    | brk => exact False.elim hq
    | cont => exact False.elim hq
/-- len(t) -/
def rLenO (C : Addr) (sp : Sp) (E : XK) : List V → Hp → VK → Prop := fun xs H Q => ∃ (a dx : Addr) (fs : List (Str × V)), xs = [.ref a] ∧ H a = some (.ins C dx fs) ∧ sp [.ref a] H (fun v H' => ∃ n : Nat, v = .int n ∧ n ≤ sizeLine ∧ Q (.int n) H') E
theorem call_lenO (F : FnOk X.prog X.w X.K X.mg X.base CX k f fd ps sp) (hr : Room (k + 1) X.A) (h : Has X.K C "__len__" f fd ps) (hx : Passes CX X E) : CallR X (.builtin "len") (rLenO C sp E) := by
  intro pins s σ H xs us Q I r hh
  obtain ⟨a, dx, fs, rfl, ea, q⟩ := hh
  cases r with
  | @cons _ u _ us' rv rn =>
  cases rn
  obtain rfl : u = Value.ref a := rv
  obtain ⟨mA, O, _⟩ := ins_get I.hok ea
  obtain ⟨od, J, _⟩ := O.look
  refine Calls.call_function_entry kind_len plain_len entry_len (args_len1 _) ?_
  unfold Builtin.«len»
  refine wpAny_bind (m := oneArg "len" _) (wpAny_pure ?_)
  refine wpAny_bind (m := callSpecial? (.ref a) (Str.ofString "__len__")) (own_special I.kIn J h.at_ h.fn (wpAny_mono (run_at F hr.in1 rfl h.b hx I (.cons (relRef a) .nil) q) (fun v s' hv => ?_) fun _ _ z => z))
  obtain ⟨x, H', I', rx, n, ex, hn, qn⟩ := hv
  subst ex
  obtain ⟨t, rfl⟩ := rx
  rw [sizeLine_eq] at hn
  refine wpAny_bind (wpAny_holding (wpAny_pure ?_))
  refine wpAny_bind (wpAny_letGo ?_)
  show wpAny _ _ (if ((n : Nat) : Int) < 0 then _ else _) _ _ _
  rw [if_neg (by omega)]
  show wpAny _ _ (if ((n : Nat) : Int) ≥ 2 ^ 63 then _ else _) _ _ _
  rw [if_neg (by omega)]
  exact wpAny_bind (wpAny_mkInt (wpAny_pure ⟨_, rfl, .int n, H', I'.tok _, ⟨_, rfl⟩, qn⟩))
/-- x in t -/
def rInO (C : Addr) (sp : Sp) (E : XK) (g : Bool → Bool) : R2 := fun x y H Q => ∃ (a dx : Addr) (fs : List (Str × V)), y = .ref a ∧ H a = some (.ins C dx fs) ∧ sp [.ref a, x] H (fun v H' => ∃ b, v = .bl b ∧ Q (.bl (g b)) H') E
theorem containsO (F : FnOk X.prog X.w X.K X.mg X.base CX k f fd ps sp) (hr : Room k X.A) (h : Has X.K C "__contains__" f fd ps) (hx : Passes CX X E) {pins : List (Addr × Obj)} {σ : St} {H : Hp} {s : Shared} {x : V} {u : Value} {a dx : Addr} {fs : List (Str × V)} {Q : Bool → Shared → Prop}
    (I : Inv X pins σ H s) (rx : RelV x u) (ea : H a = some (.ins C dx fs)) (q : sp [.ref a, x] H (fun v H' => ∃ b, v = .bl b ∧ ∀ s', Inv X pins σ H' s' → Q b s') E) : wpAny (model X.prog X.w) X.A (contains (.ref a) u) Q X.xe s := by
  obtain ⟨mA, O, _⟩ := ins_get I.hok ea
  obtain ⟨od, J, _⟩ := O.look
  unfold contains
  refine wpAny_holding ?_
  have hst : stdlibNamesSay? (.ref a) u = none := by
    cases u <;> rfl
  rw [hst]
  show wpAny _ _ (specialOf (.ref a) "__contains__" >>= _) _ _ s
  refine wpAny_bind ?_
  unfold specialOf
  refine wpAny_bind (J.type.here ((PySem.W.looks_findIn I.kIn h.at_).here ?_))
  show wpAny _ _ (if (some (Value.ref f) == some Value.none) = true then _ else _) _ _ _
  rw [if_neg (show ¬ ((some (Value.ref f) == some Value.none) = true) from by simp)]
  refine wpAny_bind (own_special_none I.kIn J h.at_ h.fn (wpAny_mono (run_at F hr rfl h.b hx I (.cons (relRef a) (.cons rx .nil)) q) (fun v s' hv => ?_) fun _ _ z => z))
  obtain ⟨y, H', I', ry, b, ey, qb⟩ := hv
  subst ey
  cases (show v = Value.bool b from ry)
  exact wpAny_truthy_bool (qb s' I')
theorem op_inO (F : FnOk X.prog X.w X.K X.mg X.base CX k f fd ps sp) (hr : Room k X.A) (h : Has X.K C "__contains__" f fd ps) (hx : Passes CX X E) (mono : ∀ vs H (Q Q' : VK), (∀ v H', Q v H' → Q' v H') → sp vs H Q E → sp vs H Q' E) : OpR X (compareOp .In) (rInO C sp E id) := by
  intro pins s σ H x y v u Q I rx ry hh
  obtain ⟨a, dx, fs, rfl, ea, q⟩ := hh
  obtain rfl : u = Value.ref a := ry
  show wpAny _ _ (contains (.ref a) v >>= _) _ _ s
  refine wpAny_bind (containsO F hr h hx I rx ea (mono _ _ _ _ (fun v H' ⟨b, e, qb⟩ => ⟨b, e, fun s' I' => ?_⟩) q))
  exact wpAny_pure ⟨.bl b, H', I', rfl, qb⟩
theorem op_notinO (F : FnOk X.prog X.w X.K X.mg X.base CX k f fd ps sp) (hr : Room k X.A) (h : Has X.K C "__contains__" f fd ps) (hx : Passes CX X E) (mono : ∀ vs H (Q Q' : VK), (∀ v H', Q v H' → Q' v H') → sp vs H Q E → sp vs H Q' E) : OpR X (compareOp .NotIn) (rInO C sp E (!·)) := by
  intro pins s σ H x y v u Q I rx ry hh
  obtain ⟨a, dx, fs, rfl, ea, q⟩ := hh
  obtain rfl : u = Value.ref a := ry
  show wpAny _ _ (contains (.ref a) v >>= _) _ _ s
  refine wpAny_bind (containsO F hr h hx I rx ea (mono _ _ _ _ (fun v H' ⟨b, e, qb⟩ => ⟨b, e, fun s' I' => ?_⟩) q))
  exact wpAny_pure ⟨.bl (!b), H', I', rfl, qb⟩
/-- t == x, t != x -/
def rEqO (K : PySem.W.Frag) (C : Addr) (sp : Sp) (E : XK) (g : Bool → Bool) : R2 := fun x y H Q => ∃ (a dx : Addr) (fs : List (Str × V)) (ty : Value), x = .ref a ∧ H a = some (.ins C dx fs) ∧ TyX K H y ty ∧ PySem.W.notFirst K C ty = true ∧
  sp [.ref a, y] H (fun v H' => ∃ b, v = .bl b ∧ Q (.bl (g b)) H') E
theorem op_eqO (F : FnOk X.prog X.w X.K X.mg X.base CX k f fd ps sp) (hr : Room k X.A) (h : Has X.K C "__eq__" f fd ps) (hx : Passes CX X E) : OpR X (compareOp .Eq) (rEqO X.K C sp E id) := by
  intro pins s σ H x y v u Q I rx ry hh
  obtain ⟨a, dx, fs, ty, rfl, ea, hty, hn, q⟩ := hh
  obtain rfl : v = Value.ref a := rx
  obtain ⟨mA, O, _⟩ := ins_get I.hok ea
  obtain ⟨od, J, _⟩ := O.look
  obtain ⟨m, hF⟩ := I.fr
  obtain ⟨P, kx, hP, _⟩ := kit_of I ry hty
  show wpAny (model X.prog X.w) X.A (richCompare .Eq (.ref a) u) (EP X pins σ Q) X.xe s
  refine PySem.W.cmp_K (op := .Eq) (tb := ty) hr.units0 hF I.ok.mod.kin J (kx.ty _ _ I.kIn hP) hn h.at_ h.fn ?_
  refine wpAny_mono (run_at F hr rfl h.b hx I (.cons (relRef a) (.cons ry .nil)) q) (fun v s' hv => ?_) fun _ _ z => z
  obtain ⟨z, H', I', rz, b, ez, qb⟩ := hv
  subst ez
  cases (show v = Value.bool b from rz)
  exact ⟨.bl b, H', I', rfl, qb⟩
theorem op_neO (F : FnOk X.prog X.w X.K X.mg X.base CX k f fd ps sp) (hr : Room (k + 1) X.A) (h : Has X.K C "__eq__" f fd ps) (hne : PySem.W.findIn X.K (.ref C) "__ne__" = some (some (.builtin "object.__ne__"))) (hob : PySem.W.subIn X.K (.ref C) (.type "object") = some true) (hx : Passes CX X E) :
    OpR X (compareOp .NotEq) (rEqO X.K C sp E (!·)) := by
  intro pins s σ H x y v u Q I rx ry hh
  obtain ⟨a, dx, fs, ty, rfl, ea, hty, hn, q⟩ := hh
  obtain rfl : v = Value.ref a := rx
  obtain ⟨mA, O, _⟩ := ins_get I.hok ea
  obtain ⟨od, J, _⟩ := O.look
  obtain ⟨P, kx, hP, _⟩ := kit_of I ry hty
  have hb := kx.ty (model X.prog X.w) _ I.kIn hP
  show wpAny (model X.prog X.w) X.A (richCompare .NotEq (.ref a) u) (EP X pins σ Q) X.xe s
  have body : wpAny (model X.prog X.w) X.A.in1 (Builtin.«object.__ne__» ⟨[.ref a, u], []⟩) (fun fin s' => ∃ b, fin = .done (.ret (.bool (!b))) ∧ EP X pins σ Q (.bool (!b)) s') X.xe s := by
    unfold Builtin.«object.__ne__»
    refine wpAny_bind (m := slotArgs "__ne__" 1 _) (wpAny_pure ?_)
    show wpAny _ _ (cRoomFor "comparison" [.ref a, u] >>= _) _ _ s
    refine wpAny_bind (wpAny_cRoomFor hr.in1.units0 ?_)
    refine wpAny_bind (m := callSpecialIfBound? (.ref a) (Str.ofString "__eq__") [u]) (PySem.W.ifBound_K I.kIn J h.at_ h.fn (wpAny_mono (run_at F hr.in1 rfl h.b hx I (.cons (relRef a) (.cons ry .nil)) q) (fun v s' hv => ?_) fun _ _ z => z))
    obtain ⟨z, H', I', rz, b, ez, qb⟩ := hv
    subst ez
    cases (show v = Value.bool b from rz)
    refine wpAny_bind (wpAny_truthy_bool ?_)
    exact wpAny_pure ⟨b, rfl, .bl (!b), H', I', rfl, qb⟩
  have obj : wpAny (model X.prog X.w) X.A (call (.builtin "object.__ne__") [.ref a, u]) (fun v s' => ∃ b, v = .bool (!b) ∧ EP X pins σ Q (.bool (!b)) s') X.xe s := by
    refine wpAny_call (codeAny_call_builtin PySem.F.cmp_object.ne.plain PySem.F.cmpEntry_ne ?_)
    refine PySem.W.check_slot PySem.F.cmpKind_ne PySem.F.cmpSplit_ne (J.type.andThen (PySem.W.looks_subIn I.kIn hob)) (PySem.F.cmpArgs_ne _ _) (wpAny_mono body (fun fin s' hf => ?_) fun _ _ z => z)
    obtain ⟨b, rfl, hq⟩ := hf
    exact ⟨b, rfl, hq⟩
  have one : wpAny (model X.prog X.w) X.A (tryCompare (.ref a) "__ne__" u) (fun r s' => ∃ b, r = some (.bool (!b)) ∧ EP X pins σ Q (.bool (!b)) s') X.xe s := by
    unfold tryCompare
    have bound : wpAny (model X.prog X.w) X.A (callSpecialIfBound? (.ref a) "__ne__" [u]) (fun r s' => ∃ b, r = some (.bool (!b)) ∧ EP X pins σ Q (.bool (!b)) s') X.xe s := by
      simp only [callSpecialIfBound?, bindSpecialIfBound?]
      refine wpAny_holding (wpAny_bind (wpAny_bind ?_))
      unfold specialOf
      refine wpAny_bind (J.type.here ((PySem.W.looks_findIn I.kIn hne).here ?_))
      simp only [PySem.F.cmp_object.ne.bind]
      refine wpAny_bind (wpAny_askSetting (wpAny_ite ?_))
      have fin : wpAny (model X.prog X.w) X.A (call (.builtin "object.__ne__") ([.ref a] ++ [u]) >>= fun v => pure (some v)) (fun r s' => ∃ b, r = some (.bool (!b)) ∧ EP X pins σ Q (.bool (!b)) s') X.xe s :=
        wpAny_bind (wpAny_mono obj (fun v s' ⟨b, e, h'⟩ => wpAny_pure ⟨b, by rw [e], h'⟩) fun _ _ h' => h')
      split
      · exact wpAny_bind (wpAny_pure (wpAny_pure (by exact fin)))
      · exact wpAny_tryCatch (wpAny_bind (wpAny_pure (wpAny_pure (by exact fin))))
    refine wpAny_bind (wpAny_mono bound (fun r s' hr' => ?_) fun _ _ z => z)
    obtain ⟨b, rfl, hq⟩ := hr'
    exact wpAny_pure ⟨b, rfl, hq⟩
  unfold richCompare
  simp only [oneThing_ref]
  refine wpAny_holding (wpAny_bind (wpAny_cRoomFor hr.units0 ?_))
  refine wpAny_bind (J.type.here (wpAny_bind (hb.here ?_)))
  split
  · rename_i qq
    have e : PySem.W.subIn X.K ty (.ref C) = some false := by
      rcases Bool.or_eq_true_iff.mp hn with e | e
      · rw [beq_iff_eq.mp e] at qq; simp at qq
      · exact beq_iff_eq.mp e
    refine wpAny_bind ((PySem.W.looks_subIn I.kIn e).here ?_)
    simp only [Bool.false_eq_true, if_false]
    refine wpAny_bind (wpAny_mono one (fun r s' z => ?_) fun _ _ e => e)
    obtain ⟨b, rfl, hq⟩ := z
    exact wpAny_pure hq
  · refine wpAny_bind (wpAny_pure ?_)
    simp only [Bool.false_eq_true, if_false]
    refine wpAny_bind (wpAny_mono one (fun r s' z => ?_) fun _ _ e => e)
    obtain ⟨b, rfl, hq⟩ := z
    exact wpAny_pure hq
end
section
variable {X : Cx} {CX : CXT} {k : Nat} {C f : Addr} {fd : FuncData} {ps : List Str} {sp : Sp} {E : St → XK} {x : Str} {p pos : Pos} {e : Expr} {es : List Expr} {t : TA}
/-- C(e, ..), what __init__ lets out is said at the slots -/
def tMakeS (C : Addr) (sp : Sp) (E : St → XK) (t : TA) : TE := fun σ H Q => t σ H fun vs H1 => ∀ x dx, H1 x = none → H1 dx = none → dx ≠ x → sp (.ref x :: vs) (upd (upd H1 dx (.own x)) x (.ins C dx [])) (fun v H2 => v = .non ∧ Q (.ref x) H2) (E σ)
theorem run_makeS {pins : List (Addr × Obj)} {σ : St} {H : Hp} {s : Shared} {Q : VK} {us : List Value} {vs : List V} (M : Mk X.K C f) (F : FnOk X.prog X.w X.K X.mg X.base CX k f fd ps sp) (hr : Room (k + 1) X.A) (hb : Binds X.K fd ps [])
    (hx : PassesAt CX X σ (E σ)) (I : Inv X pins σ H s) (r : Vals vs us)
    (h : ∀ x dx, H x = none → H dx = none → dx ≠ x → sp (.ref x :: vs) (upd (upd H dx (.own x)) x (.ins C dx [])) (fun v H2 => v = .non ∧ Q (.ref x) H2) (E σ)) :
    wpAny (model X.prog X.w) X.A (call (.ref C) us) (EP X pins σ Q) X.xe s := by
  have hq := h (s.heap.objs.size + 1) s.heap.objs.size (I.hok.fresh (Nat.le_succ _)) (I.hok.fresh (Nat.le_refl _)) (Nat.ne_of_lt (Nat.lt_succ_self _))
  have I2 := Inv.made (C := C) I
  have r2 : Vals (V.ref (s.heap.objs.size + 1) :: vs) (Value.ref (s.heap.objs.size + 1) :: us) := .cons rfl r
  have hl : (Value.ref (s.heap.objs.size + 1) :: us ++ []).length = ps.length := by
    rw [List.append_nil, ← r2.length]
    exact F.len _ _ _ _ hq
  have b := hb { s with heap := _ } (Value.ref (s.heap.objs.size + 1) :: us) I2.kIn hl
  rw [List.append_nil] at b
  refine wpAny_call (make_map (f := f) I.kIn M.makes M.init (beq_iff_eq.mp M.fn) (codeAny_mono (F.run _ X.stack _ _ ⟨Value.ref (s.heap.objs.size + 1) :: us, []⟩ (Value.ref (s.heap.objs.size + 1) :: us) _ _ (E σ) (hr.make C us [])
    (I2.env0.make C us []) b r2 hq) fun r s' hq' => ?_))
  cases r with
  | error e => exact hx pins _ _ e s' I2 hq'
  | ok fl =>
    cases fl with
    | ret u =>
      obtain ⟨v, H', I3, rv, ev, q3⟩ := I2.after hq'
      subst ev
      exact ⟨rv, ⟨V.ref (s.heap.objs.size + 1), H', I3, rfl, q3⟩⟩
    | next => exact False.elim hq'
    | brk => exact False.elim hq'
    | cont => exact False.elim hq'
theorem pe_makeS (M : Mk X.K C f) (F : FnOk X.prog X.w X.K X.mg X.base CX k f fd ps sp) (hr : Room (k + 1) X.A) (hg : Gl X x) (hm : X.mg x = some (.ref C)) (hb : Binds X.K fd ps []) (hx : ∀ σ, PassesAt CX X σ (E σ))
    (ha : PA X (e :: es) t) (hdb : (x == ("__debug__" : Str)) = false := by decide) (he : starEach (e :: es) X.env = (false, eval e X.env) :: starEach es X.env := by rfl) (hpl : (backTo pos (starEach es X.env)).any (·.1) = false := by rfl) :
    PE X (.Call (.Name x p) (e :: es) [] pos) (tMakeS C sp E t) := by
  refine ⟨fun pins s σ H Q I h => ?_⟩
  refine wpAny_Call_Name_kw (ld_glob I hg hm ?_ hdb)
  refine PySem.W.callWith_K (h₀ := X.base) I.ok.mod.kin M.kp (thn (ha.run pos pins s σ H _ I h) fun us s1 ⟨vs, H1, I1, r, q⟩ => ⟨I1.kIn, ?_⟩) he hpl
  exact run_makeS M F hr hb (hx σ) I1 r q
/-- nothing is let out -/
theorem passNo {X : Cx} {P : Program} {w : World} (σ : St) : PassesAt (L2.CX P w) X σ (fun _ _ _ => False) := fun _ _ _ _ _ _ ⟨_, _, _, _, _, _, _, _, _, _, _, _, z⟩ => z.elim
theorem takesNo {X : Cx} : Takes X (fun _ _ _ _ => False) := fun _ _ ⟨_, _, _, _, _, _, _, _, _, _, _, _, _, _, _, _, z⟩ => z.elim
end
end L2
set_option Elab.async false
set_option linter.all false
set_option maxRecDepth 100000
set_option maxHeartbeats 4000000
/-! Table: what it takes to make one, and what it then tells. -/
namespace Law
open PySem PySem.Spec PyProof.Rows L2 PySem.NearX
abbrev inCls (s : Stmt) (i : Nat) : Stmt := match s with
  | .ClassDef (body := b) .. => b.getD i (.Pass ⟨0, 0, 0, 0⟩)
  | _ => .Pass ⟨0, 0, 0, 0⟩
abbrev sInit : Stmt := inCls (top 17) 0
/-- a class of error without a field -/
structure Err (K : PySem.W.Frag) (mg : Str → Option Value) (x : Str) (C : Addr) : Prop where
  q : PySem.W.excIn K C [.type "ValueError", .type "Exception", .type "BaseException", .type "object"] "ValueError.__new__" = true
  g : mg x = some (.ref C)
  k : PySem.W.keepIn K (.ref C) = true
  ex : PySem.W.subIn K (.ref C) (.type "BaseException") = some true
  ty : PySem.W.typeIn K (.ref C) = some (.type "type")
def spCkW (K : PySem.W.Frag) (C : Addr) : Sp := fun vs H Q E => ∃ (v : V) (d : PyData), vs = [v] ∧ Dp K H v d ∧ (inB 1 3 d = true → Q .non H) ∧ (inB 1 3 d = false → E (.ref C) none H)
def spCkA (K : PySem.W.Frag) (C : Addr) : Sp := fun vs H Q E => ∃ (v : V) (g : Int) (d : PyData), vs = [v, .int g] ∧ Dp K H v d ∧ (inB 1 g d = true → Q .non H) ∧ (inB 1 g d = false → E (.ref C) none H)
section
variable {P : Program} {w : World} {K : PySem.W.Frag} {mg : Str → Option Value} {base : Heap}
theorem scCkW : FnScope ["width"] ["width"] (defScope sCkW) := ⟨rfl, rfl, rfl, by decide +kernel, rfl, by decide +kernel, by decide +kernel⟩
theorem ok_ckW {f fB C : Addr} {fd dB : FuncData} (F : Fun K "check_width" "check_width" sCkW f fd) (Z : Err K mg "BadWidth" C) (gW : ∃ t, mg "GREATEST_WIDTH" = some (.int 3 t)) (GB : FnOk P w K mg base CX0 1 fB dB ["value", "least", "greatest"] (spBetween K))
    (cB : Cal K mg "is_between" ["value", "least", "greatest"] fB dB) : FnOk P w K mg base (L2.CX P w) 2 f fd ["width"] (spCkW K C) := by
  obtain ⟨tW, gW⟩ := gW
  refine F.okX scCkW (fun vs H Q E h => ?_) (fun cdv A outer s H vs Q E hr h => ?_)
  · obtain ⟨v, d, rfl, _⟩ := h
    rfl
  · obtain ⟨v, d, rfl, hd, q1, q2⟩ := h
    refine ⟨_, pss_one (ps_if (pt_not (pt_val (pe_call GB hr rfl cB.g cB.k cB.b .nil pass0 (pa_cons (pv 0) (pa_cons pe_int (pa_cons (pe_glob (v := .int 3) rfl gW ⟨_, rfl⟩) pa_nil))))))
      (pss_one (ps_raise rfl (takes_of rfl rfl rfl rfl) (pmk_exc0 Z.q Z.g Z.k (raises_own Z.ex Z.ty)))) pss_nil), ?_⟩
    refine ⟨_, rfl, v, 1, 3, d, rfl, hd, _, rfl, ?_⟩
    cases e : inB 1 3 d with
    | true => exact iteF (q1 e)
    | false => exact iteT (q2 e)
theorem scCkA : FnScope ["arity", "greatest"] ["arity", "greatest"] (defScope sCkA) := ⟨rfl, rfl, rfl, by decide +kernel, rfl, by decide +kernel, by decide +kernel⟩
theorem ok_ckA {f fB C : Addr} {fd dB : FuncData} (F : Fun K "check_arity" "check_arity" sCkA f fd) (Z : Err K mg "BadArity" C) (GB : FnOk P w K mg base CX0 1 fB dB ["value", "least", "greatest"] (spBetween K))
    (cB : Cal K mg "is_between" ["value", "least", "greatest"] fB dB) : FnOk P w K mg base (L2.CX P w) 2 f fd ["arity", "greatest"] (spCkA K C) := by
  refine F.okX scCkA (fun vs H Q E h => ?_) (fun cdv A outer s H vs Q E hr h => ?_)
  · obtain ⟨v, g, d, rfl, _⟩ := h
    rfl
  · obtain ⟨v, g, d, rfl, hd, q1, q2⟩ := h
    refine ⟨_, pss_one (ps_if (pt_not (pt_val (pe_call GB hr rfl cB.g cB.k cB.b .nil pass0 (pa_cons (pv 0) (pa_cons pe_int (pa_cons (pv 1) pa_nil))))))
      (pss_one (ps_raise rfl (takes_of rfl rfl rfl rfl) (pmk_exc0 Z.q Z.g Z.k (raises_own Z.ex Z.ty)))) pss_nil), ?_⟩
    refine ⟨_, rfl, _, rfl, v, 1, g, d, rfl, hd, _, rfl, ?_⟩
    cases e : inB 1 g d with
    | true => exact iteF (q1 e)
    | false => exact iteT (q2 e)
end
end Law
set_option Elab.async false
set_option linter.all false
set_option maxRecDepth 100000
set_option maxHeartbeats 8000000
namespace Law
open PySem PySem.Spec PyProof.Rows L2 PySem.NearX
/-- the pieces of the f-string that __init__'s super() takes, and where it stands -/
def jsOf (s : Stmt) : List Expr × Pos := match defBody s with
  | .Expr (.Call _ [.JoinedStr parts jp] _ _) _ :: _ => (parts, jp)
  | _ => ([], ⟨0, 0, 0, 0⟩)
abbrev sBadRow : Stmt := inCls (top 6) 0
theorem parts_BadRow : PartsOk "number" (jsOf sBadRow).1 := ⟨.inr ⟨_, _, _, _, _, _, (by decide +kernel), (by decide +kernel), rfl⟩⟩
def intOf : PyData → Int
  | .int i => i
  | _ => 0
def rowInts : PyData → List Int
  | .tuple ds => ds.map intOf
  | _ => []
/-- the list at l holds these rows, each a tuple -/
def Told (K : PySem.W.Frag) (H : Hp) (l : Addr) (ns : List (List Int)) : Prop := ∃ L : List (Addr × List Int), H l = some (.lst (L.map fun q => V.ref q.1)) ∧ (∀ q ∈ L, SqT K H q.1 (q.2.map V.int)) ∧ L.map (·.2) = ns
/-- the rows ascending, each once -/
structure Canon (B : Int) (rows ns : List (List Int)) : Prop where
  nd : ns.Nodup
  srt : ns.Pairwise fun x y => TS.code B x ≤ TS.code B y
  mem : ∀ x, x ∈ ns ↔ x ∈ rows
def SameBut (x : Addr) (H H' : Hp) : Prop := ∀ b o, b ≠ x → H b = some o → H' b = some o
def spInit (K : PySem.W.Frag) (C CW CA CL CR : Addr) : Sp := fun vs H Q E => ∃ (self dx : Addr) (v1 v2 v3 : V) (dw da dr : PyData), vs = [.ref self, v1, v2, v3] ∧ H self = some (.ins C dx []) ∧ Dp K H v1 dw ∧ Dp K H v2 da ∧ Dp K H v3 dr ∧
  (∀ ds, dr = .list ds → ds.length < 64) ∧
  (inB 1 3 dw = false → ∀ H', Same H H' → E (.ref CW) none H') ∧
  (inB 1 3 dw = true → inB 1 3 da = false → ∀ H', Same H H' → E (.ref CA) none H') ∧
  (inB 1 3 dw = true → inB 1 3 da = true → isLst dr = false → ∀ H', Same H H' → E (.ref CL) none H') ∧
  ∀ wi ai ds, dw = .int wi → da = .int ai → 1 ≤ wi → wi ≤ 3 → 1 ≤ ai → ai ≤ 3 → dr = .list ds →
    (∀ (i : Nat) d, ds[i]? = some d → isRow wi ai d = false → (∀ j, j < i → ∀ d', ds[j]? = some d' → isRow wi ai d' = true) → ∀ H' x, Same H H' → H' x = some (.xd [(("number" : Str), .int i)]) → E (.ref CR) (some x) H') ∧
    ((∀ d ∈ ds, isRow wi ai d = true) → ∀ H' l ns, SameBut self H H' → H l = none → H' self = some (.ins C dx [("width", .int wi), ("arity", .int ai), ("_rows", .ref l)]) → Told K H' l ns → Canon wi (ds.map rowInts) ns → Q .non H')
theorem inB_int {lo hi : Int} {d : PyData} (h : inB lo hi d = true) : ∃ i, d = .int i ∧ lo ≤ i ∧ i ≤ hi := by
  cases d with
  | int i =>
    have h' : (decide (lo ≤ i) && decide (i ≤ hi)) = true := h
    rw [Bool.and_eq_true] at h'
    exact ⟨i, rfl, of_decide_eq_true h'.1, of_decide_eq_true h'.2⟩
  | _ => cases h
theorem isRow_ints {w a : Int} {d : PyData} (h : isRow w a d = true) : ∃ ns : List Int, d = .tuple (ns.map PyData.int) ∧ rowInts d = ns ∧ (ns.length : Int) = a ∧ ∀ m ∈ ns, 0 ≤ m ∧ m < w := by
  cases d with
  | tuple ds =>
    have h' : (decide ((ds.length : Int) = a) && ds.all (inB 0 (w - 1))) = true := h
    rw [Bool.and_eq_true] at h'
    have hl := of_decide_eq_true h'.1
    have ha := List.all_eq_true.mp h'.2
    refine ⟨ds.map intOf, ?_, rfl, by rw [List.length_map]; exact hl, fun m hm => ?_⟩
    · rw [List.map_map]
      have : ds.map (PyData.int ∘ intOf) = ds.map id := List.map_congr_left fun d hd => by
        obtain ⟨i, rfl, _⟩ := inB_int (ha d hd)
        rfl
      rw [this, List.map_id]
    · obtain ⟨d, hd, rfl⟩ := List.mem_map.mp hm
      obtain ⟨i, rfl, h1, h2⟩ := inB_int (ha d hd)
      exact ⟨h1, by show i < w; omega⟩
  | _ => cases h
theorem dp_ints {K : PySem.W.Frag} {H : Hp} : ∀ {xs : List V} {ns : List Int}, DpAll K H xs (ns.map PyData.int) → xs = ns.map V.int
  | _, [], .nil => rfl
  | _, n :: ns, .cons h r => by
    cases h
    rw [dp_ints r]
    rfl
theorem dp_row {K : PySem.W.Frag} {H : Hp} {x : V} {ns : List Int} (h : Dp K H x (.tuple (ns.map PyData.int))) : ∃ t, x = .ref t ∧ SqT K H t (ns.map V.int) := by
  cases h with
  | tup h1 h2 =>
    rw [dp_ints h2] at h1
    exact ⟨_, rfl, h1⟩
theorem dp_rows {K : PySem.W.Frag} {H : Hp} {w a : Int} : ∀ {xs : List V} {ds : List PyData}, DpAll K H xs ds → (∀ d ∈ ds, isRow w a d = true) →
    ∃ ks : List (Addr × List Int), xs = ks.map (fun q => V.ref q.1) ∧ ks.map (·.2) = ds.map rowInts ∧ (∀ q ∈ ks, SqT K H q.1 (q.2.map V.int)) ∧ ∀ q ∈ ks, (q.2.length : Int) = a ∧ ∀ m ∈ q.2, 0 ≤ m ∧ m < w
  | _, _, .nil, _ => ⟨[], rfl, rfl, (by intro q h; cases h), (by intro q h; cases h)⟩
  | _, _, .cons (d := d) h r, hr => by
    obtain ⟨ks, e1, e2, e3, e4⟩ := dp_rows r fun d hd => hr d (List.mem_cons_of_mem _ hd)
    obtain ⟨ns, rfl, e, hl, hb⟩ := isRow_ints (hr _ (List.mem_cons_self ..))
    obtain ⟨t, rfl, ht⟩ := dp_row h
    refine ⟨(t, ns) :: ks, by rw [e1]; rfl, by rw [List.map_cons, List.map_cons, e2, e], fun q hq => ?_, fun q hq => ?_⟩
    · rcases List.mem_cons.mp hq with rfl | hq
      · exact ht
      · exact e3 q hq
    · rcases List.mem_cons.mp hq with rfl | hq
      · exact ⟨hl, hb⟩
      · exact e4 q hq
theorem small_text : ∀ i : Fin 64, ((toString (((i : Nat) : Int)) : String) : Str).length ≤ 4000 := by decide +kernel
theorem fvi_small {i : Nat} (h : i < 64) (H : Hp) : FVi (.int i) H := ⟨i, rfl, by
  have : ((i : Int).natAbs).log2 ≤ 5 := by
    show i.log2 ≤ 5
    have h1 : i.log2 < 6 := by
      by_cases h0 : i = 0
      · subst h0; decide
      · exact (Nat.log2_lt h0).mpr (by omega)
    omega
  omega, small_text ⟨i, h⟩⟩
theorem _root_.L2.SqL.but {K : PySem.W.Frag} {x a C dx : Addr} {H H' : Hp} {fs : List (Str × V)} {xs : List V} (h : SqL K H a xs) (hx : H x = some (.ins C dx fs)) (s : SameBut x H H') : SqL K H' a xs :=
  h.elim (fun h => .inl (h.elim (fun h => .inl (s _ _ (fun z => by subst z; exact nomatch h.symm.trans hx) h)) fun ⟨o, h⟩ => .inr ⟨o, s _ _ (fun z => by subst z; exact nomatch h.symm.trans hx) h⟩)) fun h => .inr h
theorem _root_.L2.SqT.but {K : PySem.W.Frag} {x a C dx : Addr} {H H' : Hp} {fs : List (Str × V)} {xs : List V} (h : SqT K H a xs) (hx : H x = some (.ins C dx fs)) (s : SameBut x H H') : SqT K H' a xs :=
  h.elim (fun h => .inl (h.elim (fun h => .inl (s _ _ (fun z => by subst z; exact nomatch h.symm.trans hx) h)) fun ⟨o, h⟩ => .inr ⟨o, s _ _ (fun z => by subst z; exact nomatch h.symm.trans hx) h⟩)) fun h => .inr h
structure TabK (K : PySem.W.Frag) (C : Addr) : Prop where
  cls : Cls K C
  nw : NoAttr K C "width"
  na : NoAttr K C "arity"
  nr : NoAttr K C "_rows"
section
variable {P : Program} {w : World} {K : PySem.W.Frag} {mg : Str → Option Value} {base : Heap}
def NI : List Str := ["self", "width", "arity", "rows", "number", "row"]
theorem scInit : FnScope NI ["self", "width", "arity", "rows"] (defScope sInit) := ⟨rfl, rfl, rfl, by decide +kernel, rfl, by decide +kernel, by decide +kernel⟩
theorem SameBut.of {x : Addr} {H H' : Hp} (h : Same H H') : SameBut x H H' := fun b o _ e => h b o e
theorem ok_init {f fW fA fR C CW CA CL CR iR : Addr} {fd dW dA dR : FuncData} (F : Fun K "__init__" "Table.__init__" sInit f fd) (T : Blt mg) (TK : TabK K C) (gA : ∃ t, mg "GREATEST_ARITY" = some (.int 3 t))
    (ZL : Err K mg "NoList" CL) (NR : NearTxt P K mg "BadRow" "number" CR iR (jsOf sBadRow).1 (jsOf sBadRow).2)
    (GW : FnOk P w K mg base (L2.CX P w) 2 fW dW ["width"] (spCkW K CW)) (cW : Cal K mg "check_width" ["width"] fW dW)
    (GA : FnOk P w K mg base (L2.CX P w) 2 fA dA ["arity", "greatest"] (spCkA K CA)) (cA : Cal K mg "check_arity" ["arity", "greatest"] fA dA)
    (GR : FnOk P w K mg base CX0 3 fR dR ["value", "width", "length"] (spRow K)) (cR : Cal K mg "is_row" ["value", "width", "length"] fR dR) :
    FnOk P w K mg base (L2.CX P w) 4 f fd ["self", "width", "arity", "rows"] (spInit K C CW CA CL CR) := by
  obtain ⟨tA, gA⟩ := gA
  refine F.okX scInit (fun vs H Q E h => ?_) (fun cdv A outer s H vs Q E hr h => ?_)
  · obtain ⟨self, dx, v1, v2, v3, dw, da, dr, rfl, _⟩ := h
    rfl
  · obtain ⟨self, dx, v1, v2, v3, dw, da, dr, rfl, hself, hw, ha, hd, h64, qW, qA, qL, qR⟩ := h
    have hu := hr.un
    have hr2 : Room 2 (A.deeper (envOfC "Table.__init__" (defScope sInit) s.heap.objs.size f cdv)) := hr.mono (by decide)
    have hr1 : Room 1 (A.deeper (envOfC "Table.__init__" (defScope sInit) s.heap.objs.size f cdv)) := hr.mono (by decide)
    have tk : Takes (cxOf (L2.CX P w) P w K mg base NI "Table.__init__" (defScope sInit) f cdv A outer s H E) (fun cls d _ H => E cls d H) := takes_of rfl rfl rfl rfl
    refine ⟨_, pss_cons (ps_expr (pe_callS GW hr2 rfl cW.g cW.k cW.b (fun σ => passAt tk σ) (pa_cons (pv 1) pa_nil)))
      (pss_cons (ps_expr (pe_callS GA hr2 rfl cA.g cA.k cA.b (fun σ => passAt tk σ) (pa_cons (pv 2) (pa_cons (pe_glob (v := .int 3) rfl gA ⟨_, rfl⟩) pa_nil))))
      (pss_cons (ps_if (pt_not (pt_val (pe_callB is_list (by rfl) T.isinstance boot_isi (pa_cons (pv 3) (pa_cons (pe_bltn (v := .ty "list") (by rfl) T.list Law.boot_list rfl) pa_nil)))))
        (pss_one (ps_raise rfl tk (pmk_exc0 ZL.q ZL.g ZL.k (raises_own ZL.ex ZL.ty)))) pss_nil)
      (pss_cons (ps_for (passes_of rfl) rfl (pi_enum (by rfl) T.enumerate (pa_cons (pv 3) pa_nil)) (pg_tup rfl (pgs_cons (pg_name (i := 4) scInit.nd rfl (Or.inl rfl)) (pgs_cons (pg_name (i := 5) scInit.nd rfl (Or.inl rfl)) pgs_nil)))
        (pss_one (ps_if (pt_not (pt_val (pe_call GR hr rfl cR.g cR.k cR.b .nil pass0 (pa_cons (pv 5) (pa_cons (pv 1) (pa_cons (pv 2) pa_nil))))))
          (pss_one (ps_raise rfl tk (pmk_near NR parts_BadRow texts_i hr1 (pa_cons (pv 4) pa_nil)))) pss_nil)))
      (pss_cons (ps_fld (pv 0) (pv 1) rfl)
      (pss_cons (ps_fld (pv 0) (pv 2) rfl)
      (pss_one (ps_fld (pv 0) (pe_callB (cr_sortedT rfl) (by rfl) T.sorted PyProof.Rows.boot_sorted (pa_cons (pe_callTy (cr_setOfT rfl (by show (A.deeper _).units + 64 < cLine; omega)) (by rfl) T.set PyProof.Rows.boot_set (pa_cons (pv 3) pa_nil)) pa_nil)) rfl))))))), ?_⟩
    refine ⟨_, rfl, v1, dw, rfl, hw, fun bw => ?_, fun bw => qW bw H (Same.refl H)⟩
    refine ⟨_, rfl, v2, 3, da, rfl, ha, fun ba => ?_, fun ba => qA bw ba H (Same.refl H)⟩
    obtain ⟨wi, rfl, w1, w3⟩ := inB_int bw
    obtain ⟨ai, rfl, a1, a3⟩ := inB_int ba
    cases hw
    cases ha
    refine ⟨_, rfl, _, _, rfl, hd, _, rfl, ?_⟩
    cases hd with
    | non => exact iteT (qL bw ba rfl H (Same.refl H))
    | bl b => exact iteT (qL bw ba rfl H (Same.refl H))
    | str x => exact iteT (qL bw ba rfl H (Same.refl H))
    | int i => exact iteT (qL bw ba rfl H (Same.refl H))
    | tup h1 h2 => exact iteT (qL bw ba rfl H (Same.refl H))
    | @lst a xs ds h1 h2 =>
      have hlen := dpAll_len h2
      have h64 := h64 ds rfl
      obtain ⟨qB, qOk⟩ := qR wi ai ds rfl rfl w1 w3 a1 a3 rfl
      refine iteF ?_
      refine ⟨_, rfl, a, xs, rfl, h1, for_it (walk_enum (K := K) (a := a) (xs := xs)) (fun i σ H' => ∃ n4 n5, σ = [some (.ref self), some (.int wi), some (.int ai), some (.ref a), n4, n5] ∧ Same H H' ∧ ∀ j, j < i → ∀ d', ds[j]? = some d' → isRow wi ai d' = true)
        ⟨none, none, rfl, Same.refl _, fun j hj => absurd hj (Nat.not_lt_zero _)⟩ (fun i σ H' _ ⟨_, _, _, s1, _⟩ => h1.on s1) ?_ ?_⟩
      · rintro i x σ H1 H2 hi ⟨n4, n5, rfl, s1, hj⟩ ⟨T0, x', y, rfl, hT, rfl, ex, ey⟩
        cases ex
        have s2 := Same.new (o := .tup [.int (i : Nat), y]) s1 hT
        obtain ⟨d, ed, hdd⟩ := dpAll_get h2 ey
        refine ⟨T0, _, rfl, .inl (.inl upd_same), rfl, _, _, rfl, _, _, rfl, rfl, ?_⟩
        refine ⟨_, rfl, _, rfl, _, rfl, y, wi, ai, d, rfl, hdd.on s2, by omega, fun H3 s3 => ⟨_, rfl, ?_⟩⟩
        cases e : isRow wi ai d with
        | true =>
          refine iteF ⟨_, _, rfl, s2.trans s3, fun j hj2 d' ed' => ?_⟩
          rcases Nat.lt_or_ge j i with z | z
          · exact hj j z d' ed'
          · have : j = i := by omega
            subst this
            cases ed.symm.trans ed'
            exact e
        | false =>
          refine iteT ?_
          refine ⟨_, rfl, _, rfl, fvi_small (by omega) _, fun dd hdd2 => ?_⟩
          exact qB i d ed e hj _ dd (Same.new (o := .xd [(("number" : Str), .int i)]) (s2.trans s3) hdd2) upd_same
      · rintro σ H1 ⟨n4, n5, rfl, s1, hj⟩
        have good : ∀ d ∈ ds, isRow wi ai d = true := fun d hd => by
          obtain ⟨j, hjl, rfl⟩ := List.getElem_of_mem hd
          exact hj j (by omega) _ (List.getElem?_eq_getElem hjl)
        have hs1 := s1 _ _ hself
        refine ⟨_, rfl, _, rfl, self, C, dx, _, rfl, hs1, TK.cls, TK.nw, by decide, ?_⟩
        refine ⟨_, rfl, _, rfl, self, C, dx, _, rfl, upd_same, TK.cls, TK.na, (by show 1 < 1000; decide), ?_⟩
        obtain ⟨ks, e1, e2, e3, e4⟩ := dp_rows h2 good
        subst e1
        have sB : SameBut self H (upd (upd H1 self (.ins C dx (putF "width" (.int wi) []))) self (.ins C dx (putF "arity" (.int ai) (putF "width" (.int wi) [])))) := fun b o hb e => by
          rw [upd_ne hb, upd_ne hb]
          exact s1 b o e
        have hins : ∀ b xs', H b = some (.lst xs') → b ≠ self := fun b xs' e z => by subst z; exact nomatch e.symm.trans hself
        generalize hH2 : upd (upd H1 self (.ins C dx (putF "width" (.int wi) []))) self (.ins C dx (putF "arity" (.int ai) (putF "width" (.int wi) []))) = H2 at sB ⊢
        have h2self : H2 self = some (.ins C dx [("width", .int wi), ("arity", .int ai)]) := by
          rw [← hH2]
          exact upd_same
        refine ⟨_, rfl, a, ks, rfl, h1.but hself sB, fun p hp => (e3 p hp).but hself sB, by rw [List.length_map] at hlen; omega, fun S L nS m1 m2 => ?_⟩
        have hSs : S ≠ self := fun z => by subst z; exact nomatch nS.symm.trans h2self
        have sB2 : SameBut self H (upd H2 S (SetTO P w S L)) := fun b o hb e => by
          rw [upd_ne (ne_of_none (sB b o hb e) nS)]
          exact sB b o hb e
        refine ⟨S, L, ai.toNat, wi, rfl, upd_same, fun p hp => (e3 p (m1 p hp)).but hself sB2, by omega, fun p hp => ⟨by have := (e4 p (m1 p hp)).1; omega, (e4 p (m1 p hp)).2⟩, fun L' l pm nd hl ps nl => ?_⟩
        have hls : l ≠ self := fun z => by
          subst z
          rw [upd_ne (Ne.symm hSs), h2self] at nl
          exact nomatch nl
        have sB3 : SameBut self H (upd (upd H2 S (SetTO P w S L)) l (.lst (L'.map fun q => V.ref q.1))) := fun b o hb e => by
          rw [upd_ne (ne_of_none (sB2 b o hb e) nl)]
          exact sB2 b o hb e
        refine ⟨_, rfl, self, C, dx, _, rfl, (by rw [upd_ne (Ne.symm hls), upd_ne (Ne.symm hSs)]; exact h2self), TK.cls, TK.nr, (by show 2 < 1000; decide), ?_⟩
        have sB4 : SameBut self H (upd (upd (upd H2 S (SetTO P w S L)) l (.lst (L'.map fun q => V.ref q.1))) self (.ins C dx (putF "_rows" (.ref l) [("width", .int wi), ("arity", .int ai)]))) := fun b o hb e => by
          rw [upd_ne hb]
          exact sB3 b o hb e
        have hl0 : H l = none := by
          cases z : H l with
          | none => rfl
          | some o => exact nomatch (sB2 l o hls z).symm.trans nl
        refine qOk good _ l (L'.map (·.2)) sB4 hl0 upd_same ⟨L', (by rw [upd_ne hls]; exact upd_same), fun q hq => (e3 q (m1 q (pm.mem_iff.mp hq))).but hself sB4, rfl⟩ ⟨nd, ?_, fun x => ⟨fun hx => ?_, fun hx => ?_⟩⟩
        · exact List.pairwise_map.mpr ps
        · obtain ⟨q, hq, rfl⟩ := List.mem_map.mp hx
          rw [← e2]
          exact List.mem_map.mpr ⟨q, m1 q (pm.mem_iff.mp hq), rfl⟩
        · rw [← e2] at hx
          obtain ⟨q, hq, rfl⟩ := List.mem_map.mp hx
          obtain ⟨q', hq', e⟩ := List.mem_map.mp (m2 q hq)
          exact List.mem_map.mpr ⟨q', pm.mem_iff.mpr hq', e⟩
end
end Law
set_option Elab.async false
set_option linter.all false
set_option maxRecDepth 100000
set_option maxHeartbeats 4000000
/-! tuple * int for any number from 0, str * int. -/
namespace L2
open PySem PySem.Spec PyProof.Rows
theorem tuple_mul1 (l : Addr) (items : Array Value) (n : Nat) (dd : Option Addr) (sl : Array (Option Value)) (u : Tok) :
    Meets (Builtin.«tuple.__mul__» ⟨[.ref l, .int 1 u], []⟩) (fun _ R s => s.heap.get? l = some { cls := .type "tuple", dict := dd, data := .seq items n, slots := sl } ∧ R (.ok (.ret (Value.ref l))) s) :=
  .of_wp fun prog w A R s h => by
    obtain ⟨hp, g, d, tk, os⟩ := s
    obtain ⟨hl, h⟩ := h
    have f1 := AutoSeq1.idx_int
    have c1 : (items.isEmpty || (1 : Int) == 1) = true := by rw [show ((1 : Int) == 1) = true from rfl, Bool.or_true]
    wp_walk using wpAny_loadPart' hl
    repeat (first
      | (refine wpAny_ite_false (decide_eq_false (by decide)) ?_; wp_walk using wpAny_loadPart' hl)
      | (refine wpAny_ite_true (decide_eq_true c1) ?_; wp_walk using wpAny_loadPart' hl))
    exact ⟨_, rfl, h⟩
theorem tuple_mul0 (l : Addr) (items : Array Value) (n : Nat) (dd : Option Addr) (sl : Array (Option Value)) (u : Tok) (c1 : (items.isEmpty || (0 : Int) == 1) = false) :
    Meets (Builtin.«tuple.__mul__» ⟨[.ref l, .int 0 u], []⟩) (fun _ R s => s.heap.get? l = some { cls := .type "tuple", dict := dd, data := .seq items n, slots := sl } ∧
      R (.ok (.ret (Value.ref s.heap.objs.size))) { s with heap := s.heap.push { cls := Value.type "tuple", data := Data.seq #[] }, toks := s.toks }) :=
  .of_wp fun prog w A R s h => by
    obtain ⟨hp, g, d, tk, os⟩ := s
    obtain ⟨hl, h⟩ := h
    have f1 := AutoSeq1.idx_int
    have c2 : (decide ((0 : Int) ≤ 0) || items.isEmpty) = true := by rw [decide_eq_true (Int.le_refl 0), Bool.true_or]
    wp_walk using wpAny_loadPart' hl
    repeat (first
      | (refine wpAny_ite_false (decide_eq_false (by decide)) ?_; wp_walk using wpAny_loadPart' hl)
      | (refine wpAny_ite_false (decide_eq_false (by rw [c1]; exact Bool.false_ne_true)) ?_; wp_walk using wpAny_loadPart' hl)
      | (refine wpAny_ite_true (decide_eq_true c2) ?_; wp_walk using wpAny_loadPart' hl))
    exact ⟨_, rfl, h⟩
def rRepA (K : PySem.W.Frag) : R2 := fun x y H Q => ∃ l k xs, x = .ref l ∧ y = .int k ∧ SqT K H l xs ∧ xs ≠ [] ∧ 0 ≤ k ∧ k ≤ 1000 ∧ xs.length ≤ 1000 ∧ (k = 1 → Q (.ref l) H) ∧ (k ≠ 1 → ∀ p, H p = none → Q (.ref p) (upd H p (.tup (List.replicate k.toNat xs).flatten)))
section
variable {X : Cx}
theorem op_repA : OpR X (binaryOp .Mult) (rRepA X.K) := by
  intro pins s σ H x y v u Q I rx ry h
  obtain ⟨l, k, xs, rfl, rfl, hT, hne, h0, h2, hz, q1, q⟩ := h
  by_cases hk2 : 2 ≤ k
  · exact op_repT pins s σ H _ _ v u Q I rx ry ⟨l, k, xs, rfl, rfl, hT, hne, hk2, h2, hz, q (by omega)⟩
  cases rx
  obtain ⟨t, rfl⟩ := ry
  obtain ⟨its, r, ⟨⟨cls, dd, data, sl⟩, ho, hc, n, hd⟩, hs⟩ := I.tuple hT
  simp only at hc hd
  subst hc hd
  have hle : its.length = xs.length := r.length.symm
  have hn : its ≠ [] := fun e => hne (by
    rw [e] at hle
    exact List.eq_nil_of_length_eq_zero hle.symm)
  have hi : its.toArray.isEmpty = false := by
    cases its with
    | nil => exact absurd rfl hn
    | cons a b => rfl
  by_cases hk1 : k = 1
  · subst hk1
    exact wpAny_binaryOp_repeat_ref (T := "tuple") (U := "int") (by decide) ⟨_, ho, rfl⟩ (fun s' => typeIs_int s' 1 t) noFill_tuple_mul F.fills_int_mul F.slot_int_rmul repeat_tuple F.slot_int_index.lookup
      (call_meets F.slot_int_rmul (typeIs_int s 1 t) F.entry_int_rmul (F.args_int_rmul_2 _ _) (int_rmul_tuple 1 t l its.toArray n dd sl)
        ⟨ho, rfl, ⟨_, ho, rfl⟩, call_meets F.slot_tuple_mul ⟨_, ho, rfl⟩ F.entry_tuple_mul (F.args_tuple_mul_2 _ _) (tuple_mul1 l its.toArray n dd sl t) ⟨ho, ⟨.ref l, H, I, rfl, q1 rfl⟩⟩⟩)
  · have hk0 : k = 0 := by omega
    subst hk0
    refine wpAny_binaryOp_repeat_ref (T := "tuple") (U := "int") (by decide) ⟨_, ho, rfl⟩ (fun s' => typeIs_int s' 0 t) noFill_tuple_mul F.fills_int_mul F.slot_int_rmul repeat_tuple F.slot_int_index.lookup
      (call_meets F.slot_int_rmul (typeIs_int s 0 t) F.entry_int_rmul (F.args_int_rmul_2 _ _) (int_rmul_tuple 0 t l its.toArray n dd sl)
        ⟨ho, rfl, ⟨_, ho, rfl⟩, call_meets F.slot_tuple_mul ⟨_, ho, rfl⟩ F.entry_tuple_mul (F.args_tuple_mul_2 _ _) (tuple_mul0 l its.toArray n dd sl t (by rw [hi]; rfl)) ⟨ho, ?_⟩⟩)
    refine ⟨.ref s.heap.objs.size, _, I.laid (t' := s.toks) (o := .tup []) (fun b ob q => Heap.get?_push_of_some _ q) (Nat.le_refl _) ?_, rfl, q hk1 _ (I.hok.fresh (Nat.le_refl _))⟩
    exact ⟨Nat.zero_le _, [], .nil, IsTup.new _ _⟩
/-- text * int -/
def repS (x : Str) (n : Int) : Str := if n = 1 then x else ⟨(List.replicate n.toNat x.cps).foldl (· ++ ·) #[]⟩
def rRepS : R2 := fun x y H Q => ∃ (a : Str) (n : Int), x = .str a ∧ y = .int n ∧ 1 ≤ n ∧ n ≤ 1000 ∧ 1 ≤ a.length ∧ a.length ≤ 1000 ∧ Q (.str (repS a n)) H
theorem op_repS : OpR X (binaryOp .Mult) rRepS := by
  intro pins s σ H x y v u Q I rx ry h
  obtain ⟨a, n, rfl, rfl, n1, n2, a1, a2, q⟩ := h
  obtain ⟨t, rfl⟩ := rx
  obtain ⟨t', rfl⟩ := ry
  have l0 : (a.length == 0) = false := beq_eq_false_iff_ne.mpr (by omega)
  refine P.mul_str (by rw [decide_eq_false (by omega), decide_eq_false (by omega)]; rfl) (fun _ hb => ?_) (fun _ hb => ?_) ?_
  · have e : (2 ^ 63 - 1 : Int) / n ≥ (2 ^ 63 - 1) / 1000 := by
      rcases Int.le_iff_eq_or_lt.mp n2 with z | z
      · subst z
        exact Int.le_refl _
      · refine (Int.le_ediv_iff_mul_le (by omega)).mpr ?_
        have : (2 ^ 63 - 1 : Int) / 1000 * n ≤ (2 ^ 63 - 1) / 1000 * 1000 := Int.mul_le_mul_of_nonneg_left (by omega) (by decide)
        have h2 : (2 ^ 63 - 1 : Int) / 1000 * 1000 ≤ 2 ^ 63 - 1 := by decide
        omega
    have e2 : (1000 : Int) ≤ (2 ^ 63 - 1) / 1000 := by decide
    omega
  · show decide (a.length * n.toNat > sizeLine) = false
    refine decide_eq_false ?_
    rw [sizeLine_eq]
    have : a.length * n.toNat ≤ 1000 * 1000 := Nat.mul_le_mul a2 (by omega)
    omega
  · rw [if_neg (by omega)]
    by_cases h1 : n = 1
    · subst h1
      rw [if_pos (by simp)]
      refine ⟨.str a, H, I, ⟨t, rfl⟩, ?_⟩
      rw [repS, if_pos rfl] at q
      exact q
    · rw [if_neg (by rw [l0, Bool.or_false]; exact fun z => h1 (eq_of_beq z))]
      rw [repS, if_neg h1] at q
      refine ⟨?_, .str _, H, I.tok _, ⟨_, rfl⟩, q⟩
      have sz : ∀ (m : Nat) (acc : Array Nat), ((List.replicate m a.cps).foldl (fun x y => x ++ y) acc).size = acc.size + m * a.cps.size := by
        intro m
        induction m with
        | zero => intro acc; simp
        | succ m ih =>
          intro acc
          rw [List.replicate_succ, List.foldl_cons, ih, Array.size_append, Nat.add_mul]
          omega
      show ((List.replicate n.toNat a.cps).foldl (fun x y => x ++ y) #[]).size ≤ sizeLine
      rw [sz, sizeLine_eq]
      have : n.toNat * a.cps.size ≤ 1000 * 1000 := Nat.mul_le_mul (by omega) a2
      show 0 + n.toNat * a.cps.size ≤ _
      omega
end
end L2
set_option Elab.async false
set_option linter.all false
set_option maxRecDepth 100000
set_option maxHeartbeats 4000000
/-! Expressions that give data: what they give, whatever else has been made meanwhile. -/
namespace L2
open PySem PySem.Spec PyProof.Rows PySem.NearX
section
variable {K : PySem.W.Frag} {H H' : Hp}
theorem snew {H H' : Hp} {p : Addr} {o : HO} (s : Same H H') (h : H' p = none) : Same H (upd H' p o) := fun b u e => by
  rw [upd_ne (ne_of_none (s b u e) h)]
  exact s b u e
theorem DpAll.append : ∀ {xs ys : List V} {ds es : List PyData}, DpAll K H xs ds → DpAll K H ys es → DpAll K H (xs ++ ys) (ds ++ es)
  | _, _, _, _, .nil, h => h
  | _, _, _, _, .cons h1 h2, h => .cons h1 (DpAll.append h2 h)
theorem DpAll.leng : ∀ {xs : List V} {ds : List PyData}, DpAll K H xs ds → xs.length = ds.length
  | _, _, .nil => rfl
  | _, _, .cons _ h => by simp [DpAll.leng h]
theorem DpAll.drop : ∀ (n : Nat) {xs : List V} {ds : List PyData}, DpAll K H xs ds → DpAll K H (xs.drop n) (ds.drop n)
  | 0, _, _, h => h
  | n + 1, _, _, .nil => .nil
  | n + 1, _, _, .cons _ h => DpAll.drop n h
theorem DpAll.take : ∀ (n : Nat) {xs : List V} {ds : List PyData}, DpAll K H xs ds → DpAll K H (xs.take n) (ds.take n)
  | 0, _, _, h => .nil
  | n + 1, _, _, .nil => .nil
  | n + 1, _, _, .cons h1 h => .cons h1 (DpAll.take n h)
theorem DpAll.repf {xs : List V} {ds : List PyData} (h : DpAll K H xs ds) : ∀ n : Nat, DpAll K H (List.replicate n xs).flatten (List.replicate n ds).flatten
  | 0 => .nil
  | n + 1 => by
    rw [List.replicate_succ, List.replicate_succ, List.flatten_cons, List.flatten_cons]
    exact DpAll.append h (DpAll.repf h n)
theorem DpAll.at {i : Nat} {d : PyData} : ∀ {xs : List V} {ds : List PyData} {i : Nat} {d : PyData}, DpAll K H xs ds → ds[i]? = some d → ∃ x, xs[i]? = some x ∧ Dp K H x d
  | _, _, _, _, .nil, h => by simp at h
  | _, _, 0, _, .cons h1 h2, h => by
    simp at h
    subst h
    exact ⟨_, rfl, h1⟩
  | _, _, i + 1, _, .cons h1 h2, h => by
    obtain ⟨x, e, hd⟩ := DpAll.at (i := i) (d := .none) h2 (by simpa using h)
    exact ⟨x, by simpa using e, hd⟩
def cutD (ds : List PyData) (lo hi : Option Int) : List PyData := (ds.drop (HT.sIx ds.length 0 lo)).take (HT.sIx ds.length ds.length hi - HT.sIx ds.length 0 lo)
theorem DpAll.cut {xs : List V} {ds : List PyData} (h : DpAll K H xs ds) (lo hi : Option Int) : DpAll K H (cutV xs lo hi) (cutD ds lo hi) := by
  rw [cutV, cutD, h.leng]
  exact (h.drop _).take _
end
/-- H' without what was new between the ground H and H0 -/
def Rs (H H0 H' : Hp) : Hp := fun b => if H b = none ∧ H0 b ≠ none then none else H' b
section
variable {H H0 H1 H2 : Hp}
theorem rs_some {b : Addr} {o : HO} : Rs H H0 H1 b = some o ↔ ¬ (H b = none ∧ H0 b ≠ none) ∧ H1 b = some o := by
  unfold Rs
  by_cases h : H b = none ∧ H0 b ≠ none
  · rw [if_pos h]
    exact ⟨(fun z => nomatch z), fun z => absurd h z.1⟩
  · rw [if_neg h]
    exact ⟨fun z => ⟨h, z⟩, fun z => z.2⟩
theorem rs_le : Same (Rs H H0 H1) H1 := fun b o e => (rs_some.mp e).2
theorem rs_on (s : Same H1 H2) : Same (Rs H H0 H1) (Rs H H0 H2) := fun b o e => rs_some.mpr ⟨(rs_some.mp e).1, s b o (rs_some.mp e).2⟩
theorem rs_in (s : Same H0 H1) : Same (Rs H H1 H2) (Rs H H0 H2) := fun b o e => rs_some.mpr ⟨fun z => (rs_some.mp e).1 ⟨z.1, fun n => by
  cases h : H0 b with
  | none => exact z.2 h
  | some u => exact nomatch (s b u h).symm.trans n⟩, (rs_some.mp e).2⟩
theorem rs_gnd (s : Same H H0) : Same H (Rs H H0 H0) := fun b o e => rs_some.mpr ⟨fun z => (by rw [z.1] at e; exact nomatch e), s b o e⟩
theorem rs_more (s : Same H H1) : Same (Rs H H0 H2) (Rs H1 H0 H2) := fun b o e => rs_some.mpr ⟨fun z => (rs_some.mp e).1 ⟨by
  cases h : H b with
  | none => rfl
  | some u => exact (nomatch (s b u h).symm.trans z.1), z.2⟩, (rs_some.mp e).2⟩
theorem rs_new {p : Addr} {o : HO} (np : H1 p = none) : Same (Rs H H0 H1) (Rs H H0 (upd H1 p o)) := rs_on (snew (Same.refl _) np)
theorem rs_at {p : Addr} {o : HO} (s : Same H0 H1) (np : H1 p = none) : Rs H H0 (upd H1 p o) p = some o := rs_some.mpr ⟨fun z => z.2 (by
  cases h : H0 p with
  | none => rfl
  | some u => exact nomatch (s p u h).symm.trans np), upd_same⟩
end
/-- the expression gives d -/
def DE (K : PySem.W.Frag) (te : TE) (σ : St) (H : Hp) (d : PyData) : Prop := ∀ (H0 : Hp) (Q : VK), Same H H0 → (∀ H' v, Same H0 H' → Dp K (Rs H H0 H') v d → Q v H') → te σ H0 Q
/-- the arguments give ds -/
def DAs (K : PySem.W.Frag) (t : TA) (σ : St) (H : Hp) (ds : List PyData) : Prop := ∀ (H0 : Hp) (Q : List V → Hp → Prop), Same H H0 → (∀ H' vs, Same H0 H' → DpAll K (Rs H H0 H') vs ds → Q vs H') → t σ H0 Q
/-- the expression gives a list of ds that can be changed -/
def DL (K : PySem.W.Frag) (te : TE) (σ : St) (H : Hp) (ds : List PyData) : Prop := ∀ (H0 : Hp) (Q : VK), Same H H0 → (∀ H' l xs, Same H0 H' → Rs H H0 H' l = some (.lst xs) → DpAll K (Rs H H0 H') xs ds → Q (.ref l) H') → te σ H0 Q
/-- the part of a slice -/
def DPt (t : TO) (σ : St) (H : Hp) (o : Option Int) : Prop := ∀ (H0 : Hp) (Q : Option Int → Hp → Prop), Same H H0 → (∀ H', Same H0 H' → Q o H') → t σ H0 Q
section
variable {K : PySem.W.Frag} {σ : St} {H : Hp} {ta tb te : TE} {t : TA} {d : PyData} {ds es : List PyData}
theorem DE.on {H1 : Hp} (h : DE K te σ H d) (s : Same H H1) : DE K te σ H1 d := fun H0 Q s0 q => h H0 Q (s.trans s0) fun H' v s' hv => q H' v s' (hv.on (rs_more s))
theorem DL.on {H1 : Hp} (h : DL K te σ H ds) (s : Same H H1) : DL K te σ H1 ds := fun H0 Q s0 q => h H0 Q (s.trans s0) fun H' l xs s' e hv => q H' l xs s' (rs_more s _ _ e) (hv.on (rs_more s))
theorem DL.toE (h : DL K te σ H ds) : DE K te σ H (.list ds) := fun H0 Q s q => h H0 Q s fun H' l xs s' e hx => q H' _ s' (.lst (.inl (.inl e)) hx)
theorem DE.non : DE K (tC .non) σ H .none := fun H0 Q _ q => q H0 _ (Same.refl _) .non
theorem DE.bl {b : Bool} : DE K (tC (.bl b)) σ H (.bool b) := fun H0 Q _ q => q H0 _ (Same.refl _) (.bl b)
theorem DE.int {i : Int} : DE K (tC (.int i)) σ H (.int i) := fun H0 Q _ q => q H0 _ (Same.refl _) (.int i)
theorem DE.str {x : Str} : DE K (tC (.str x)) σ H (.str x) := fun H0 Q _ q => q H0 _ (Same.refl _) (.str x)
theorem DE.var {i : Nat} {v : V} (e : σ[i]? = some (some v)) (h : Dp K H v d) : DE K (tVar i) σ H d := fun H0 Q s q => ⟨v, e, q H0 _ (Same.refl _) (h.on (rs_gnd s))⟩
theorem DL.var {i : Nat} {l : Addr} {xs : List V} (e : σ[i]? = some (some (.ref l))) (el : H l = some (.lst xs)) (h : DpAll K H xs ds) : DL K (tVar i) σ H ds := fun H0 Q s q => ⟨_, e, q H0 l xs (Same.refl _) (rs_gnd s _ _ el) (h.on (rs_gnd s))⟩
theorem DE.neg {i : Int} (h : DE K te σ H (.int i)) : DE K (tUn (rU fun i => .int (-i)) te) σ H (.int (-i)) := fun H0 Q s q => h H0 _ s fun H' v s' hv => by
  cases hv
  exact ⟨i, rfl, q H' _ s' (.int _)⟩
theorem DE.pow {i j : Int} (h1 : DE K ta σ H (.int i)) (h2 : DE K tb σ H (.int j)) (c : CPow i j) : DE K (tOp (rI CPow fun i j => .int (i ^ j.toNat)) ta tb) σ H (.int (i ^ j.toNat)) := fun H0 Q s q => h1 H0 _ s fun H1 v s1 hv => h2 H1 _ (s.trans s1) fun H2 u s2 hu => by
  cases hv; cases hu
  exact ⟨i, j, rfl, rfl, c, q H2 _ (s1.trans s2) (.int _)⟩
theorem DE.op0 {i j k : Int} {g : Int → Int → V} (h1 : DE K ta σ H (.int i)) (h2 : DE K tb σ H (.int j)) (e : g i j = .int k) : DE K (tOp (rI0 g) ta tb) σ H (.int k) := fun H0 Q s q => h1 H0 _ s fun H1 v s1 hv => h2 H1 _ (s.trans s1) fun H2 u s2 hu => by
  cases hv; cases hu
  exact ⟨i, j, rfl, rfl, by rw [e]; exact q H2 _ (s1.trans s2) (.int _)⟩
theorem DAs.nil : DAs K tNil σ H [] := fun H0 Q _ q => q H0 _ (Same.refl _) .nil
theorem DAs.cons (h : DE K te σ H d) (r : DAs K t σ H ds) : DAs K (tCons te t) σ H (d :: ds) := fun H0 Q s q => h H0 _ s fun H1 v s1 hv => r H1 _ (s.trans s1) fun H2 vs s2 hs => q H2 _ (s1.trans s2) (.cons (hv.on (rs_on s2)) (hs.on (rs_in s1)))
theorem small3 {n : Nat} (h : n ≤ 1000) : n ≤ sizeLine := by rw [sizeLine_eq]; omega
theorem DE.tup (h : DAs K t σ H ds) (z : ds.length ≤ 1000) : DE K (tTup t) σ H (.tuple ds) := fun H0 Q s q => h H0 _ s fun H' vs s' hv => ⟨by rw [hv.leng]; exact small3 z, fun p np => q _ _ (snew s' np) (.tup (.inl (.inl (rs_at s' np))) (hv.on (rs_new np)))⟩
theorem DL.lst (h : DAs K t σ H ds) (z : ds.length ≤ 1000) : DL K (tLst t) σ H ds := fun H0 Q s q => h H0 _ s fun H' vs s' hv => ⟨by rw [hv.leng]; exact small3 z, fun p np => q _ p vs (snew s' np) (rs_at s' np) (hv.on (rs_new np))⟩
theorem DL.cat (h1 : DL K ta σ H ds) (h2 : DL K tb σ H es) (z : ds.length + es.length ≤ 1000) : DL K (tOp rCat ta tb) σ H (ds ++ es) := fun H0 Q s q => h1 H0 _ s fun H1 l xs s1 e1 d1 => h2 H1 _ (s.trans s1) fun H2 m ys s2 e2 d2 =>
  ⟨l, m, xs, ys, rfl, rfl, s2 _ _ (rs_le _ _ e1), rs_le _ _ e2, by rw [d1.leng, d2.leng]; exact small3 z, fun p np => q _ p _ (snew (s1.trans s2) np) (rs_at (s1.trans s2) np) ((DpAll.append (d1.on (rs_on s2)) (d2.on (rs_in s1))).on (rs_new np))⟩
theorem DE.cat (h1 : DE K ta σ H (.tuple ds)) (h2 : DE K tb σ H (.tuple es)) (z : ds.length + es.length ≤ 1000) : DE K (tOp (rCatA K) ta tb) σ H (.tuple (ds ++ es)) := fun H0 Q s q => h1 H0 _ s fun H1 v s1 d1 => h2 H1 _ (s.trans s1) fun H2 u s2 d2 => by
  have d1 := d1.on (rs_on s2)
  have d2 := d2.on (rs_in s1)
  cases d1 with
  | @tup a xs _ a1 a2 =>
    cases d2 with
    | @tup b ys _ b1 b2 =>
      refine ⟨a, b, xs, ys, rfl, rfl, a1.on rs_le, b1.on rs_le, by rw [a2.leng, b2.leng]; exact small3 z, fun e => ?_, fun _ e => ?_, fun _ _ p np => q _ _ (snew (s1.trans s2) np) (.tup (.inl (.inl (rs_at (s1.trans s2) np))) ((DpAll.append a2 b2).on (rs_new np)))⟩
      · subst e
        have : ds = [] := List.eq_nil_of_length_eq_zero (by rw [← a2.leng]; rfl)
        subst this
        exact q _ _ (s1.trans s2) (.tup b1 b2)
      · subst e
        have : es = [] := List.eq_nil_of_length_eq_zero (by rw [← b2.leng]; rfl)
        subst this
        rw [List.append_nil] at q
        exact q _ _ (s1.trans s2) (.tup a1 a2)
theorem DE.rep {k : Int} (h1 : DE K ta σ H (.tuple ds)) (h2 : DE K tb σ H (.int k)) (hne : ds ≠ []) (k0 : 0 ≤ k) (k1 : k ≤ 1000) (z : ds.length ≤ 1000) : DE K (tOp (rRepA K) ta tb) σ H (.tuple (List.replicate k.toNat ds).flatten) := fun H0 Q s q => h1 H0 _ s fun H1 v s1 d1 => h2 H1 _ (s.trans s1) fun H2 u s2 d2 => by
  have d1 := d1.on (rs_on s2)
  cases d2
  cases d1 with
  | @tup a xs _ a1 a2 =>
    refine ⟨a, k, xs, rfl, rfl, a1.on rs_le, fun e => hne ?_, k0, k1, by rw [a2.leng]; exact z, fun e => ?_, fun _ p np => q _ _ (snew (s1.trans s2) np) (.tup (.inl (.inl (rs_at (s1.trans s2) np))) ((DpAll.repf a2 _).on (rs_new np)))⟩
    · subst e
      exact List.eq_nil_of_length_eq_zero (by rw [← a2.leng]; rfl)
    · subst e
      have e2 : (List.replicate (Int.toNat 1) ds).flatten = ds := by simp
      rw [e2] at q
      exact q _ _ (s1.trans s2) (.tup a1 a2)
theorem DE.repS {x : Str} {k : Int} (h1 : DE K ta σ H (.str x)) (h2 : DE K tb σ H (.int k)) (k0 : 1 ≤ k) (k1 : k ≤ 1000) (x1 : 1 ≤ x.length) (z : x.length ≤ 1000) : DE K (tOp rRepS ta tb) σ H (.str (repS x k)) := fun H0 Q s q => h1 H0 _ s fun H1 v s1 d1 => h2 H1 _ (s.trans s1) fun H2 u s2 d2 => by
  cases d1; cases d2
  exact ⟨x, k, rfl, rfl, k0, k1, x1, z, q _ _ (s1.trans s2) (.str _)⟩
theorem DPt.none : DPt tNoPart σ H none := fun H0 Q _ q => q H0 (Same.refl _)
theorem DPt.some {i : Int} (h : DE K te σ H (.int i)) : DPt (tPart te) σ H (some i) := fun H0 Q s q => h H0 _ s fun H' v s' hv => by
  cases hv
  exact ⟨i, rfl, q H' s'⟩
theorem DE.sl {tl th : TO} {lo hi : Option Int} (h : DE K te σ H (.tuple ds)) (hl : DPt tl σ H lo) (hh : DPt th σ H hi) : DE K (tSl (rSlA K) te tl th) σ H (.tuple (cutD ds lo hi)) := fun H0 Q s q => h H0 _ s fun H1 v s1 d1 => hl H1 _ (s.trans s1) fun H2 s2 => hh H2 _ ((s.trans s1).trans s2) fun H3 s3 => by
  have d1 := d1.on (rs_on (s2.trans s3))
  have s13 := (s1.trans s2).trans s3
  cases d1 with
  | @tup a xs _ a1 a2 =>
    refine ⟨a, xs, rfl, a1.on rs_le, fun e => ?_, fun _ p np => q _ _ (snew s13 np) (.tup (.inl (.inl (rs_at s13 np))) ((a2.cut lo hi).on (rs_new np)))⟩
    have : cutD ds lo hi = ds := by
      rw [a2.leng] at e
      rw [cutD, e.1, e.2, List.drop_zero, Nat.sub_zero, List.take_length]
    rw [this] at q
    exact q _ _ s13 (.tup a1 a2)
theorem DE.ix {i : Nat} {d : PyData} (h1 : DE K ta σ H (.tuple ds)) (h2 : DE K tb σ H (.int (i : Nat))) (e : ds[i]? = some d) : DE K (tOp (rIxT K) ta tb) σ H d := fun H0 Q s q => h1 H0 _ s fun H1 v s1 d1 => h2 H1 _ (s.trans s1) fun H2 u s2 d2 => by
  have d1 := d1.on (rs_on s2)
  cases d2
  cases d1 with
  | @tup a xs _ a1 a2 =>
    obtain ⟨x, ex, hx⟩ := DpAll.at (d := .none) (i := 0) a2 e
    exact ⟨a, xs, _, x, rfl, rfl, a1.on rs_le, at_of (j := i) rfl ex, q _ _ (s1.trans s2) hx⟩
theorem DE.listOf (h : DE K te σ H (.tuple ds)) : DE K (tCB (fun xs H Q => ∃ p ys, xs = [.ref p] ∧ (SqL K H p ys ∨ SqT K H p ys) ∧ ∀ l, H l = none → Q (.ref l) (upd H l (.lst ys))) (tCons te tNil)) σ H (.list ds) := fun H0 Q s q => h H0 _ s fun H1 v s1 d1 => by
  cases d1 with
  | @tup a xs _ a1 a2 => exact ⟨a, xs, rfl, .inr (a1.on rs_le), fun l nl => q _ _ (snew s1 nl) (.lst (.inl (.inl (rs_at s1 nl))) (a2.on (rs_new nl)))⟩
theorem DL.lc {i : Nat} {n : Int} {f : Nat → PyData} (h1 : DAs K t σ H [.int n]) (n0 : 0 ≤ n) (n1 : n ≤ 1000) (h2 : ∀ m : Nat, (m : Int) < n → DE K te ((σ.set i Option.none).set i (some (.int (m : Nat)))) H (f m)) :
    DL K (tLc (iRng1 t) (gName i) tYes te [i]) σ H ((List.range n.toNat).map f) := fun H0 Q s q => h1 H0 _ s fun H1 vs s1 hv => by
  cases hv with
  | cons a b =>
    cases a; cases b
    refine ⟨n, rfl, by omega, by omega, fun D nD => ?_⟩
    have hHD : H D = none := by
      cases h : H D with
      | none => rfl
      | some u => exact nomatch ((s.trans s1) D u h).symm.trans nD
    -- what stands beside D
    refine lc_range (lo := 0) (fun m H' => Same H1 H' ∧ ∃ xs, H' D = some (.lst xs) ∧ DpAll K (fun b => if b = D then none else Rs H H0 H' b) xs ((List.range m).map f)) ⟨snew (Same.refl _) nD, [], upd_same, .nil⟩ ?_ ?_
    · rintro m H2 hm ⟨s2, xs, eD, hd⟩
      refine ⟨?_, ?_⟩
      · show ((σ.set i Option.none).set i _).set i Option.none = σ.set i Option.none
        rw [List.set_set]
        rw [List.set_set]
      · show te ((σ.set i Option.none).set i (some (.int (0 + (m : Nat))))) H2 _
        rw [Int.zero_add]
        refine h2 m (by omega) H2 _ ((s.trans s1).trans s2) fun H3 v s3 dv => ⟨xs, s3 _ _ eD, ?_, ?_, xs ++ [v], upd_same, ?_⟩
        · rw [hd.leng, List.length_map, List.length_range, sizeLine_eq]
          omega
        · intro b u e
          rw [upd_ne (ne_of_none e nD)]
          exact s3 _ _ (s2 b u e)
        · rw [List.range_succ, List.map_append]
          refine DpAll.append (hd.on ?_) (.cons (dv.on ?_) .nil)
          · intro b u e
            have e : (if b = D then none else Rs H H0 H2 b) = some u := e
            show (if b = D then none else Rs H H0 (upd H3 D (HO.lst (xs ++ [v]))) b) = some u
            by_cases hb : b = D
            · rw [if_pos hb] at e
              cases e
            · rw [if_neg hb] at e ⊢
              obtain ⟨c, e'⟩ := rs_some.mp e
              exact rs_some.mpr ⟨c, by rw [upd_ne hb]; exact s3 _ _ e'⟩
          · intro b u e
            obtain ⟨c, e'⟩ := rs_some.mp e
            have hb : b ≠ D := fun z => c (by subst z; exact ⟨hHD, by rw [eD]; exact fun z => nomatch z⟩)
            show (if b = D then none else Rs H H0 (upd H3 D (HO.lst (xs ++ [v]))) b) = some u
            rw [if_neg hb]
            refine rs_some.mpr ⟨fun z => c ⟨z.1, ?_⟩, by rw [upd_ne hb]; exact e'⟩
            cases h : H0 b with
            | none => exact absurd h z.2
            | some w => rw [s2 _ _ (s1 _ _ h)]; exact fun z => nomatch z
    · rintro H2 ⟨s2, xs, eD, hd⟩
      refine q H2 D xs (s1.trans s2) (rs_some.mpr ⟨fun z => z.2 ?_, eD⟩) (hd.on fun b u e => ?_)
      · cases h : H0 D with
        | none => rfl
        | some u => exact nomatch (s1 D u h).symm.trans nD
      · have e : (if b = D then none else Rs H H0 H2 b) = some u := e
        by_cases hb : b = D
        · rw [if_pos hb] at e
          cases e
        · rw [if_neg hb] at e
          exact e
theorem DL.run {H0 : Hp} {Q : VK} (h : DL K te σ H0 ds) (q : ∀ H' l xs, Same H0 H' → H' l = some (.lst xs) → DpAll K H' xs ds → Q (.ref l) H') : te σ H0 Q := h H0 Q (Same.refl _) fun H' l xs s e hv => q H' l xs s (rs_le _ _ e) (hv.on rs_le)
theorem DE.run {H0 : Hp} {Q : VK} (h : DE K te σ H0 d) (q : ∀ H' v, Same H0 H' → Dp K H' v d → Q v H') : te σ H0 Q := h H0 Q (Same.refl _) fun H' v s hv => q H' v s (hv.on rs_le)
theorem cutD_len (ds : List PyData) (lo hi : Option Int) : (cutD ds lo hi).length ≤ ds.length := by
  unfold cutD
  rw [List.length_take, List.length_drop]
  omega
/-- at a ground G beside which p stands: what is given does not touch p -/
theorem DL.runG {G H0 : Hp} {p : Addr} {Q : VK} (h : DL K te σ G ds) (s : Same G H0) (gp : G p = none) (hp : H0 p ≠ none)
    (q : ∀ H' G' l xs, Same H0 H' → Same G G' → Same G' H' → G' p = none → H' p ≠ none → G' l = some (.lst xs) → DpAll K G' xs ds → Q (.ref l) H') : te σ H0 Q := h H0 Q s fun H' l xs s' e hv =>
  q H' (Rs G H0 H') l xs s' ((rs_gnd s).trans (rs_on s')) rs_le (if_pos ⟨gp, hp⟩) (by
    cases z : H0 p with
    | none => exact absurd z hp
    | some u => rw [s' _ _ z]; exact fun z => nomatch z) e hv
theorem DE.runG {G H0 : Hp} {p : Addr} {Q : VK} (h : DE K te σ G d) (s : Same G H0) (gp : G p = none) (hp : H0 p ≠ none)
    (q : ∀ H' G' v, Same H0 H' → Same G G' → Same G' H' → G' p = none → H' p ≠ none → Dp K G' v d → Q v H') : te σ H0 Q := h H0 Q s fun H' v s' hv =>
  q H' (Rs G H0 H') v s' ((rs_gnd s).trans (rs_on s')) rs_le (if_pos ⟨gp, hp⟩) (by
    cases z : H0 p with
    | none => exact absurd z hp
    | some u => rw [s' _ _ z]; exact fun z => nomatch z) hv
theorem DL.sl {tl th : TO} {lo hi : Option Int} (h : DL K te σ H ds) (hl : DPt tl σ H lo) (hh : DPt th σ H hi) : DL K (tSl (rSlL K) te tl th) σ H (cutD ds lo hi) := fun H0 Q s q => h H0 _ s fun H1 l xs s1 e1 d1 => hl H1 _ (s.trans s1) fun H2 s2 => hh H2 _ ((s.trans s1).trans s2) fun H3 s3 =>
  ⟨l, xs, rfl, .inl (.inl (s3 _ _ (s2 _ _ (rs_le _ _ e1)))), fun p np => q _ p _ (snew ((s1.trans s2).trans s3) np) (rs_at ((s1.trans s2).trans s3) np) (((d1.on (rs_on (s2.trans s3))).cut lo hi).on (rs_new np))⟩
theorem DE.tupOf (h : DL K te σ H ds) : DE K (tCB (fun xs H Q => ∃ p ys, xs = [.ref p] ∧ ((SqL K H p ys ∧ ∀ l, H l = none → Q (.ref l) (upd H l (.tup ys))) ∨ (SqT K H p ys ∧ Q (.ref p) H))) (tCons te tNil)) σ H (.tuple ds) := fun H0 Q s q => h H0 _ s fun H1 l xs s1 e1 d1 =>
  ⟨l, xs, rfl, .inl ⟨.inl (.inl (rs_le _ _ e1)), fun p np => q _ _ (snew s1 np) (.tup (.inl (.inl (rs_at s1 np))) (d1.on (rs_new np)))⟩⟩
end
end L2
set_option Elab.async false
set_option linter.all false
set_option maxRecDepth 100000
set_option maxHeartbeats 8000000
namespace Law
open PySem PySem.Spec PyProof.Rows L2 PySem.NearX
abbrev sRows : Stmt := inCls (top 17) 1
abbrev sLen : Stmt := inCls (top 17) 2
abbrev sHas : Stmt := inCls (top 17) 3
abbrev sEq : Stmt := inCls (top 17) 4
/-! ### rows as data -/
def rowD (ns : List Int) : PyData := .tuple (ns.map PyData.int)
def rowsD (nss : List (List Int)) : PyData := .list (nss.map rowD)
theorem ints_lay : ∀ ns : List Int, PyData.canLayAll0 (ns.map PyData.int) = true
  | [] => by simp [PyData.canLayAll0]
  | n :: ns => by simp [PyData.canLayAll0, PyData.canLay0, ints_lay ns]
theorem ints_depth : ∀ ns : List Int, PyData.depthAll (ns.map PyData.int) ≤ 1
  | [] => by simp [PyData.depthAll]
  | n :: ns => by
    have h := ints_depth ns
    simp only [List.map_cons, PyData.depthAll, PyData.depth]
    omega
theorem rowD_depth (ns : List Int) : (rowD ns).depth ≤ 2 := by
  have h := ints_depth ns
  simp only [rowD, PyData.depth]
  omega
theorem rowD_lay (ns : List Int) : (rowD ns).canLay0 = true := by
  simp only [rowD, PyData.canLay0]
  exact ints_lay ns
theorem rows_lay : ∀ nss : List (List Int), PyData.canLayAll0 (nss.map rowD) = true
  | [] => by simp [PyData.canLayAll0]
  | n :: ns => by simp [PyData.canLayAll0, rowD_lay n, rows_lay ns]
theorem rows_depth : ∀ nss : List (List Int), PyData.depthAll (nss.map rowD) ≤ 2
  | [] => by simp [PyData.depthAll]
  | n :: ns => by
    have h1 := rows_depth ns
    have h2 := rowD_depth n
    simp only [List.map_cons, PyData.depthAll]
    omega
theorem rowD_shaped (ns : List Int) : SeqAt.shaped (rowD ns) = true := by
  have h := rowD_depth ns
  show ((rowD ns).canLay0 && decide ((rowD ns).depth ≤ 64)) = true
  rw [Bool.and_eq_true]
  exact ⟨rowD_lay ns, decide_eq_true (by omega)⟩
theorem rowsD_shaped (nss : List (List Int)) : SeqAt.shaped (rowsD nss) = true := by
  have h1 := rows_depth nss
  have h2 : PyData.depth (rowsD nss) ≤ 64 := by
    simp only [rowsD, PyData.depth]
    omega
  show (PyData.canLay0 (rowsD nss) && decide (PyData.depth (rowsD nss) ≤ 64)) = true
  rw [Bool.and_eq_true]
  exact ⟨by simp only [rowsD, PyData.canLay0]; exact rows_lay nss, decide_eq_true h2⟩
theorem rowD_eqv (x y : List Int) : PyData.eqv (rowD x) (rowD y) = decide (x = y) := by
  simp only [rowD, PyData.eqv]
  exact PySem.W.ked_eqvAll x y
theorem rows_eqvAll : ∀ x y : List (List Int), PyData.eqvAll (x.map rowD) (y.map rowD) = decide (x = y)
  | [], [] => by simp [PyData.eqvAll]
  | [], _ :: _ => by simp [PyData.eqvAll]
  | _ :: _, [] => by simp [PyData.eqvAll]
  | a :: x, b :: y => by
    simp only [List.map_cons, PyData.eqvAll, rows_eqvAll x y, rowD_eqv]
    by_cases h1 : a = b <;> by_cases h2 : x = y <;> simp [h1, h2]
theorem rowsD_eqv (x y : List (List Int)) : PyData.eqv (rowsD x) (rowsD y) = decide (x = y) := by
  simp only [rowsD, PyData.eqv]
  exact rows_eqvAll x y
theorem rowsD_any (nss : List (List Int)) (x : List Int) : ((nss.map rowD).any fun z => PyData.eqv z (rowD x)) = decide (x ∈ nss) := by
  rw [List.any_map]
  rw [Bool.eq_iff_iff, List.any_eq_true, decide_eq_true_eq]
  constructor
  · rintro ⟨y, hy, e⟩
    have e' : PyData.eqv (rowD y) (rowD x) = true := e
    rw [rowD_eqv] at e'
    rw [← of_decide_eq_true e']
    exact hy
  · intro h
    exact ⟨x, h, by show PyData.eqv (rowD x) (rowD x) = true; rw [rowD_eqv]; exact decide_eq_true rfl⟩
section
variable {K : PySem.W.Frag} {H H' : Hp}
theorem dpInts : ∀ ns : List Int, DpAll K H (ns.map V.int) (ns.map PyData.int)
  | [] => .nil
  | n :: ns => .cons (.int n) (dpInts ns)
theorem dpRow {t : Addr} {ns : List Int} (h : SqT K H t (ns.map V.int)) : Dp K H (.ref t) (rowD ns) := .tup h (dpInts ns)
theorem dpRows : ∀ {L : List (Addr × List Int)}, (∀ q ∈ L, SqT K H q.1 (q.2.map V.int)) → DpAll K H (L.map fun q => V.ref q.1) ((L.map (·.2)).map rowD)
  | [], _ => .nil
  | q :: L, h => .cons (dpRow (h q (List.mem_cons_self ..))) (dpRows fun p hp => h p (List.mem_cons_of_mem _ hp))
theorem Told.dp {l : Addr} {ns : List (List Int)} (h : Told K H l ns) : Dp K H (.ref l) (rowsD ns) := by
  obtain ⟨L, e, t, rfl⟩ := h
  exact .lst (SqL.of e) (dpRows t)
theorem Told.on {l : Addr} {ns : List (List Int)} (h : Told K H l ns) (s : Same H H') : Told K H' l ns := by
  obtain ⟨L, e, t, en⟩ := h
  exact ⟨L, s _ _ e, fun q hq => (t q hq).on s, en⟩
/-- a table of a width, an arity and rows -/
structure Tab (K : PySem.W.Frag) (C : Addr) (H : Hp) (t : Addr) (w a : Int) (ns : List (List Int)) : Prop where
  ins : ∃ dx l, H t = some (.ins C dx [("width", .int w), ("arity", .int a), ("_rows", .ref l)]) ∧ Told K H l ns
  w1 : 1 ≤ w
  w3 : w ≤ 3
  a1 : 1 ≤ a
  a3 : a ≤ 3
theorem Tab.on {C t : Addr} {w a : Int} {ns : List (List Int)} (h : Tab K C H t w a ns) (s : Same H H') : Tab K C H' t w a ns := by
  obtain ⟨⟨dx, l, e, tl⟩, b1, b2, b3, b4⟩ := h
  exact ⟨⟨dx, l, s _ _ e, tl.on s⟩, b1, b2, b3, b4⟩
end
/-- what isinstance asks of the class at C -/
structure TabI (K : PySem.W.Frag) (C : Addr) : Prop where
  ha : PySem.W.findIn K (.ref C) "__class__" = some (some (.builtin "object.__class__"))
  hn : PySem.W.specialIn K (.builtin "object.__class__") "__get__" = some (some (.builtin "getset_descriptor.__get__"))
  ht : PySem.W.takesIn K (.builtin "object.__class__") = some true
  ob : PySem.W.mroIn K C (.type "object") = some true
  me : PySem.W.kitOne K (.ref C) (.ref C) = some true
  no : ∀ n ∈ (["NoneType", "bool", "int", "str", "list", "tuple"] : List String), PySem.W.kitOne K (.type n) (.ref C) = some false
theorem tyN_in {K : PySem.W.Frag} {H : Hp} {v : V} {d : PyData} (h : Dp K H v d) : tyN d ∈ (["NoneType", "bool", "int", "str", "list", "tuple"] : List String) := by
  cases h <;> simp [tyN]
def spRows (K : PySem.W.Frag) (C : Addr) : Sp := fun vs H Q _ => ∃ (t : Addr) (w a : Int) (ns : List (List Int)), vs = [.ref t] ∧ Tab K C H t w a ns ∧ ∀ H' p, Same H H' → H p = none → Told K H' p ns → Q (.ref p) H'
def spLen (K : PySem.W.Frag) (C : Addr) : Sp := fun vs H Q _ => ∃ (t : Addr) (w a : Int) (ns : List (List Int)), vs = [.ref t] ∧ Tab K C H t w a ns ∧ Q (.int ns.length) H
def spHas (K : PySem.W.Frag) (C : Addr) : Sp := fun vs H Q _ => ∃ (t : Addr) (w a : Int) (ns : List (List Int)) (v : V) (d : PyData), vs = [.ref t, v] ∧ Tab K C H t w a ns ∧ Dp K H v d ∧ ∀ H', Same H H' → Q (.bl (isRow w a d && decide (rowInts d ∈ ns))) H'
def spEqT (K : PySem.W.Frag) (C : Addr) : Sp := fun vs H Q _ => ∃ (t : Addr) (w a : Int) (ns : List (List Int)) (v : V), vs = [.ref t, v] ∧ Tab K C H t w a ns ∧
  ((∃ d, Dp K H v d ∧ Q (.bl false) H) ∨ ∃ (u : Addr) (w' a' : Int) (ns' : List (List Int)), v = .ref u ∧ Tab K C H u w' a' ns' ∧ Q (.bl (decide (w = w') && (decide (a = a') && decide (ns = ns')))) H)
section
variable {P : Program} {w : World} {K : PySem.W.Frag} {mg : Str → Option Value} {base : Heap}
theorem scRows : FnScope ["self"] ["self"] (defScope sRows) := ⟨rfl, rfl, rfl, by decide +kernel, rfl, by decide +kernel, by decide +kernel⟩
theorem ok_rows {f C : Addr} {fd : FuncData} (F : Fun K "rows" "Table.rows" sRows f fd) (T : Blt mg) (TK : TabK K C) : FnOk P w K mg base CX0 1 f fd ["self"] (spRows K C) := by
  refine F.ok scRows (fun vs H Q E h => ?_) (fun cdv A outer s H vs Q E hr h => ?_)
  · obtain ⟨t, w, a, ns, rfl, _⟩ := h
    rfl
  · obtain ⟨t, w, a, ns, rfl, hT, q⟩ := h
    obtain ⟨⟨dx, l, e, L, el, tl, en⟩, b⟩ := hT
    refine ⟨_, pss_one (ps_ret (pe_callTy call_list_of (by rfl) T.list Law.boot_list (pa_cons (pe_fld (pv 0) rfl) pa_nil))), ?_⟩
    refine ⟨_, rfl, t, C, dx, _, .ref l, rfl, e, TK.cls, TK.nr, rfl, l, _, rfl, .inl (SqL.of el), fun p hp => ?_⟩
    exact q _ p (same_new hp) hp ⟨L, upd_same, fun r hr => (tl r hr).on (same_new hp), en⟩
theorem scLen : FnScope ["self"] ["self"] (defScope sLen) := ⟨rfl, rfl, rfl, by decide +kernel, rfl, by decide +kernel, by decide +kernel⟩
theorem ok_len {f C : Addr} {fd : FuncData} (F : Fun K "__len__" "Table.__len__" sLen f fd) (T : Blt mg) (TK : TabK K C) : FnOk P w K mg base CX0 1 f fd ["self"] (spLen K C) := by
  refine F.ok scLen (fun vs H Q E h => ?_) (fun cdv A outer s H vs Q E hr h => ?_)
  · obtain ⟨t, w, a, ns, rfl, _⟩ := h
    rfl
  · obtain ⟨t, w, a, ns, rfl, hT, q⟩ := h
    obtain ⟨⟨dx, l, e, L, el, tl, en⟩, b⟩ := hT
    refine ⟨_, pss_one (ps_ret (pe_callB call_len_seq (by rfl) T.len PySem.boot_len (pa_cons (pe_fld (pv 0) rfl) pa_nil))), ?_⟩
    refine ⟨_, rfl, t, C, dx, _, .ref l, rfl, e, TK.cls, TK.nr, rfl, l, _, rfl, .inl (SqL.of el), ?_⟩
    rw [← en, List.length_map] at q
    rw [List.length_map]
    exact q
theorem scHas : FnScope ["self", "row"] ["self", "row"] (defScope sHas) := ⟨rfl, rfl, rfl, by decide +kernel, rfl, by decide +kernel, by decide +kernel⟩
theorem ok_has {f fR C : Addr} {fd dR : FuncData} (F : Fun K "__contains__" "Table.__contains__" sHas f fd) (T : Blt mg) (TK : TabK K C)
    (GR : FnOk P w K mg base CX0 3 fR dR ["value", "width", "length"] (spRow K)) (cR : Cal K mg "is_row" ["value", "width", "length"] fR dR) : FnOk P w K mg base CX0 4 f fd ["self", "row"] (spHas K C) := by
  refine F.ok scHas (fun vs H Q E h => ?_) (fun cdv A outer s H vs Q E hr h => ?_)
  · obtain ⟨t, w, a, ns, v, d, rfl, _⟩ := h
    rfl
  · obtain ⟨t, wi, a, ns, v, d, rfl, hT, hd, q⟩ := h
    have hu := hr.un
    obtain ⟨⟨dx, l, e, tl⟩, b1, b2, b3, b4⟩ := hT
    refine ⟨_, pss_one (ps_ret (pe_and (pe_call GR hr rfl cR.g cR.k cR.b .nil pass0 (pa_cons (pv 1) (pa_cons (pe_fld (pv 0) rfl) (pa_cons (pe_fld (pv 0) rfl) pa_nil))))
      (pe_one (pe_cmpR (op_inD (by show (A.deeper _).units + 65 < cLine; omega)) (pv 1) (pe_fld (pv 0) rfl) rfl)))), ?_⟩
    refine ⟨_, rfl, _, rfl, t, C, dx, _, .int wi, rfl, e, TK.cls, TK.nw, rfl, _, rfl, t, C, dx, _, .int a, rfl, e, TK.cls, TK.na, rfl, v, wi, a, d, rfl, hd, by omega, fun H1 s1 => ⟨_, rfl, ?_⟩⟩
    cases hb : isRow wi a d with
    | false =>
      refine iteF ?_
      have := q H1 s1
      rw [hb, Bool.false_and] at this
      exact this
    | true =>
      refine iteT ?_
      obtain ⟨is, rfl, er, _, _⟩ := isRow_ints hb
      refine ⟨_, rfl, _, rfl, t, C, dx, _, .ref l, rfl, s1 _ _ e, TK.cls, TK.nr, rfl, rowD is, ns.map rowD, hd.on s1, (tl.on s1).dp, rowD_shaped is, rowsD_shaped ns, ?_⟩
      have := q H1 s1
      rw [hb, Bool.true_and, er] at this
      rw [rowsD_any]
      exact this
theorem scEq : FnScope ["self", "other"] ["self", "other"] (defScope sEq) := ⟨rfl, rfl, rfl, by decide +kernel, rfl, by decide +kernel, by decide +kernel⟩
theorem ok_eq {f C : Addr} {fd : FuncData} (F : Fun K "__eq__" "Table.__eq__" sEq f fd) (T : Blt mg) (TK : TabK K C) (TI : TabI K C) (gT : mg "Table" = some (.ref C)) : FnOk P w K mg base CX0 1 f fd ["self", "other"] (spEqT K C) := by
  refine F.ok scEq (fun vs H Q E h => ?_) (fun cdv A outer s H vs Q E hr h => ?_)
  · obtain ⟨t, w, a, ns, v, rfl, _⟩ := h
    rfl
  · obtain ⟨t, wi, a, ns, v, rfl, hT, q⟩ := h
    have hu := hr.un
    obtain ⟨⟨dx, l, e, tl⟩, b1, b2, b3, b4⟩ := hT
    refine ⟨_, pss_one (ps_ret (pe_and (pe_callB call_isi (by rfl) T.isinstance boot_isi (pa_cons (pv 1) (pa_cons (pe_glob (v := .ref C) rfl gT rfl) pa_nil)))
      (pe_and (pe_cmpR op_eq (pe_fld (pv 0) rfl) (pe_fld (pv 1) rfl) (nomark _))
      (pe_and (pe_cmpR op_eq (pe_fld (pv 0) rfl) (pe_fld (pv 1) rfl) (nomark _))
      (pe_one (pe_cmpR (op_eqD (by show (A.deeper _).units + 64 < cLine; omega)) (pe_fld (pv 0) rfl) (pe_fld (pv 1) rfl) (nomark _))))))), ?_⟩
    rcases q with ⟨d, hd, q⟩ | ⟨u, w', a', ns', rfl, ⟨⟨dy, m, e', tm⟩, _⟩, q⟩
    · exact ⟨_, rfl, v, .ref C, _, _, false, rfl, .own C, hd.ty, TI.no _ (tyN_in hd), _, rfl, iteF q⟩
    · refine ⟨_, rfl, .ref u, .ref C, .ref C, .ref C, true, rfl, .own C, .base (.ins e' TK.cls TI.ha TI.hn TI.ht TI.ob), TI.me, _, rfl, iteT ?_⟩
      refine ⟨_, rfl, t, C, dx, _, .int wi, rfl, e, TK.cls, TK.nw, rfl, _, rfl, u, C, dy, _, .int w', rfl, e', TK.cls, TK.nw, rfl, rfl, _, rfl, ?_⟩
      by_cases hw : wi = w'
      · subst hw
        refine (if_pos (decide_eq_true rfl)).mpr ?_
        rw [decide_eq_true rfl, Bool.true_and] at q
        refine ⟨_, rfl, t, C, dx, _, .int a, rfl, e, TK.cls, TK.na, rfl, _, rfl, u, C, dy, _, .int a', rfl, e', TK.cls, TK.na, rfl, rfl, _, rfl, ?_⟩
        by_cases ha : a = a'
        · subst ha
          refine (if_pos (decide_eq_true rfl)).mpr ?_
          rw [decide_eq_true rfl, Bool.true_and] at q
          refine ⟨_, rfl, t, C, dx, _, .ref l, rfl, e, TK.cls, TK.nr, rfl, _, rfl, u, C, dy, _, .ref m, rfl, e', TK.cls, TK.nr, rfl, _, _, tl.dp, tm.dp, rowsD_shaped _, rowsD_shaped _, ?_⟩
          rw [rowsD_eqv]
          exact q
        · refine (if_neg (by rw [decide_eq_false fun z => ha (V.int.inj z)]; exact Bool.false_ne_true)).mpr ?_
          rw [decide_eq_false ha, Bool.false_and] at q
          exact q
      · refine (if_neg (by rw [decide_eq_false fun z => hw (V.int.inj z)]; exact Bool.false_ne_true)).mpr ?_
        rw [decide_eq_false hw, Bool.false_and] at q
        exact q
end
end Law
set_option Elab.async false
set_option linter.all false
set_option maxRecDepth 100000
set_option maxHeartbeats 8000000
namespace Law
open PySem PySem.Spec PyProof.Rows L2 PySem.NearX
abbrev sFeed : Stmt := top 19
abbrev sTake : Stmt := top 20
abbrev sPick : Stmt := top 21
/-! ### what the draws come from: a list of two numbers, neither below nought -/
def FeedAt (H : Hp) (p : Addr) : Prop := ∃ d s : Int, H p = some (.lst [.int d, .int s]) ∧ 0 ≤ d ∧ 0 ≤ s
def But (H H' : Hp) (p : Addr) : Prop := ∀ b o, b ≠ p → H b = some o → H' b = some o
def spFeed (K : PySem.W.Frag) : Sp := fun vs H Q _ => ∃ (a : Addr) (ns : List Int) (k : Nat), vs = [.ref a, .int k] ∧ SqL K H a (ns.map V.int) ∧ ns.length ≤ 63 ∧ k ≤ 5 ∧
  ∀ H' p, Same H H' → H p = none → FeedAt H' p → Q (.ref p) H'
def spTake : Sp := fun vs H Q _ => ∃ (p : Addr) (n : Int), vs = [.ref p, .int n] ∧ FeedAt H p ∧ 0 < n ∧ n < 1073741824 ∧
  ∀ H' r, But H H' p → FeedAt H' p → 0 ≤ r → r < n → Q (.int r) H'
def spPick (K : PySem.W.Frag) : Sp := fun vs H Q _ => ∃ (p a : Addr) (xs : List V), vs = [.ref p, .ref a] ∧ FeedAt H p ∧ SqL K H a xs ∧ p ≠ a ∧ 0 < xs.length ∧ xs.length < 1000000 ∧
  ∀ H' (i : Nat) x, But H H' p → FeedAt H' p → xs[i]? = some x → Q x H'
section
variable {P : Program} {w : World} {K : PySem.W.Frag} {mg : Str → Option Value} {base : Heap}
theorem scTake : FnScope ["feed", "many", "digit"] ["feed", "many"] (defScope sTake) := ⟨rfl, rfl, rfl, by decide +kernel, rfl, by decide +kernel, by decide +kernel⟩
theorem ok_take {f : Addr} {fd : FuncData} (F : Fun K "_law_take" "_law_take" sTake f fd) (T : Blt mg) : FnOk P w K mg base CX0 1 f fd ["feed", "many"] spTake := by
  refine F.ok scTake (fun vs H Q E h => ?_) (fun cdv A outer s H vs Q E hr h => ?_)
  · obtain ⟨p, n, rfl, _⟩ := h
    rfl
  · obtain ⟨p, n, rfl, ⟨d, st, hp, hd, hs⟩, hn, hn2, k⟩ := h
    refine ⟨_, pss_cons (ps_if (pt_cmpR op_gt (pe_ix ix_list (pv 0) pe_int (fun _ _ => rfl)) pe_int (nomark _))
        (pss_cons (ps_set (i := 2) scTake.nd rfl (Or.inl rfl) (pe_op op_mod (pe_callTy call_int1 (by rfl) T.int (by decide +kernel) (pa_cons (pe_ix ix_list (pv 0) pe_int (fun _ _ => rfl)) pa_nil)) (pv 1)))
        (pss_cons (ps_asg (pe_op op_fdiv (pe_ix ix_list (pv 0) pe_int (fun _ _ => rfl)) (pv 1)) (pg_sub (pv 0) pe_int set_list))
        (pss_one (ps_ret (pv 2)))))
        pss_nil)
      (pss_cons (ps_asg (pe_op op_mod (pe_callTy call_int1 (by rfl) T.int (by decide +kernel) (pa_cons (pe_op op_add (pe_op op_mul (pe_ix ix_list (pv 0) pe_int (fun _ _ => rfl)) pe_int) pe_int) pa_nil)) pe_int) (pg_sub (pv 0) pe_int set_list))
      (pss_one (ps_ret (pe_op op_mod (pe_callTy call_int1 (by rfl) T.int (by decide +kernel) (pa_cons (pe_op op_fdiv (pe_ix ix_list (pv 0) pe_int (fun _ _ => rfl)) pe_int) pa_nil)) (pv 1))))), ?_⟩
    refine ⟨_, rfl, p, _, _, _, rfl, rfl, SqL.of hp, rfl, _, _, rfl, rfl, _, rfl, ?_⟩
    refine ite2 (fun c => ?_) (fun c => ?_)
    · refine ⟨_, rfl, p, _, _, _, rfl, rfl, SqL.of hp, rfl, .inl ⟨_, rfl, _, rfl, _, _, rfl, rfl, hn, ?_⟩⟩
      refine ⟨_, rfl, p, _, _, _, rfl, rfl, SqL.of hp, rfl, _, rfl, _, _, rfl, rfl, ⟨hn, hn2⟩, ?_⟩
      refine ⟨_, rfl, p, _, _, _, rfl, rfl, hp, rfl, ?_⟩
      refine ⟨_, rfl, k _ _ (fun b o hb e => by rw [upd_ne hb]; exact e) ⟨d / n, st, upd_same, Int.ediv_nonneg hd (by omega), hs⟩ (Int.emod_nonneg _ (by omega)) (Int.emod_lt_of_pos _ hn)⟩
    · refine ⟨_, rfl, p, _, _, _, rfl, rfl, SqL.of hp, rfl, _, _, rfl, rfl, .inr ⟨by decide, by decide⟩, _, _, rfl, rfl, .inl ⟨_, rfl, _, _, rfl, rfl, (by show (0 : Int) < 2305843009213693951; decide), ?_⟩⟩
      refine ⟨_, rfl, p, _, _, _, rfl, rfl, hp, rfl, ?_⟩
      refine ⟨_, rfl, p, _, _, _, rfl, rfl, SqL.of upd_same, rfl, _, _, rfl, rfl, ⟨by decide, by decide⟩, .inl ⟨_, rfl, _, rfl, _, _, rfl, rfl, hn, ?_⟩⟩
      exact k _ _ (fun b o hb e => by rw [upd_ne hb]; exact e) ⟨d, _, upd_same, hd, Int.emod_nonneg _ (by decide)⟩ (Int.emod_nonneg _ (by omega)) (Int.emod_lt_of_pos _ hn)
theorem scPick : FnScope ["feed", "some"] ["feed", "some"] (defScope sPick) := ⟨rfl, rfl, rfl, by decide +kernel, rfl, by decide +kernel, by decide +kernel⟩
theorem ok_pick {f fT : Addr} {fd fdT : FuncData} (F : Fun K "_law_pick" "_law_pick" sPick f fd) (T : Blt mg) (GT : FnOk P w K mg base CX0 1 fT fdT ["feed", "many"] spTake) (gT : mg "_law_take" = some (.ref fT)) (kT : PySem.W.keepIn K (.ref fT) = true) (bT : Binds K fdT ["feed", "many"] []) :
    FnOk P w K mg base CX0 2 f fd ["feed", "some"] (spPick K) := by
  refine F.ok scPick (fun vs H Q E h => ?_) (fun cdv A outer s H vs Q E hr h => ?_)
  · obtain ⟨p, a, xs, rfl, _⟩ := h
    rfl
  · obtain ⟨p, a, xs, rfl, hp, ha, hpa, h0, h1, k⟩ := h
    refine ⟨_, pss_one (ps_ret (pe_ix ix_list (pv 1) (pe_call GT hr rfl gT kT bT .nil pass0 (pa_cons (pv 0) (pa_cons (pe_callB call_len_seq (by rfl) T.len PySem.boot_len (pa_cons (pv 1) pa_nil)) pa_nil))) (fun _ _ => rfl))), ?_⟩
    refine ⟨_, rfl, _, rfl, _, rfl, a, xs, rfl, .inl ha, p, _, rfl, hp, by omega, by omega, fun H' r hb hf r0 r1 => ?_⟩
    obtain ⟨i, rfl⟩ : ∃ i : Nat, r = (i : Int) := ⟨r.toNat, by omega⟩
    have hi : i < xs.length := by omega
    have ha' : SqL K H' a xs := by
      rcases ha with (h | ⟨o, h⟩) | h
      · exact .inl (.inl (hb _ _ (Ne.symm hpa) h))
      · exact .inl (.inr ⟨o, hb _ _ (Ne.symm hpa) h⟩)
      · exact .inr h
    exact ⟨a, xs, _, xs[i], rfl, rfl, ha', at_of (j := i) rfl (List.getElem?_eq_getElem hi), k H' i _ hb hf (List.getElem?_eq_getElem hi)⟩
theorem scFeed : FnScope ["script", "k", "cell", "digits", "state"] ["script", "k"] (defScope sFeed) := ⟨rfl, rfl, rfl, by decide +kernel, rfl, by decide +kernel, by decide +kernel⟩
theorem ok_feed {f : Addr} {fd : FuncData} (F : Fun K "_law_feed" "_law_feed" sFeed f fd) (T : Blt mg) : FnOk P w K mg base CX0 1 f fd ["script", "k"] (spFeed K) := by
  refine F.ok scFeed (fun vs H Q E h => ?_) (fun cdv A outer s H vs Q E hr h => ?_)
  · obtain ⟨a, ns, k, rfl, _⟩ := h
    rfl
  · obtain ⟨a, ns, k, rfl, hS, h63, hk, q⟩ := h
    refine ⟨_, pss_cons (ps_set (i := 2) scFeed.nd rfl (Or.inl rfl) (pe_ifExp (pt_cmpR op_lt (pv 1) (pe_callB call_len_seq (by rfl) T.len PySem.boot_len (pa_cons (pv 0) pa_nil)) (nomark _)) (pe_ix ix_list (pv 0) (pv 1) (fun _ _ => rfl)) (pe_op op_add (pe_op op_mul pe_int (pv 1)) pe_int)))
      (pss_cons (ps_set (i := 3) scFeed.nd rfl (Or.inl rfl) (pe_callB (call_max2 rfl) (by rfl) T.max (by decide +kernel) (pa_cons pe_int (pa_cons (pe_op op_sub (pe_callB call_abs (by rfl) T.abs (by decide +kernel) (pa_cons (pv 2) pa_nil)) (pe_op op_pow pe_int pe_int)) pa_nil))))
      (pss_cons (ps_set (i := 4) scFeed.nd rfl (Or.inl rfl) (pe_op op_mod (pe_callTy call_int1 (by rfl) T.int (by decide +kernel) (pa_cons (pe_op op_add (pe_op op_add (pe_op op_mul (pv 2) pe_int) (pe_op op_mul pe_int (pv 1))) pe_int) pa_nil)) pe_int))
      (pss_one (ps_ret (pe_lst (pa_cons (pv 3) (pa_cons (pv 4) pa_nil))))))), ?_⟩
    refine ⟨_, rfl, _, rfl, a, _, rfl, .inl hS, _, _, rfl, rfl, _, rfl, ?_⟩
    refine ite2 (fun c => ?_) (fun c => ?_)
    all_goals first
    | (have hi : k < ns.length := by
        have c' := of_decide_eq_true c
        rw [List.length_map] at c'
        omega
       refine ⟨_, rfl, _, rfl, a, _, _, _, rfl, rfl, hS, at_of (j := k) (v := V.int ns[k]) rfl (by rw [List.getElem?_map, List.getElem?_eq_getElem hi]; rfl), ?_⟩)
    | refine ⟨_, rfl, _, _, rfl, rfl, .inl ⟨by decide, by decide⟩, _, _, rfl, rfl, ?_⟩
    all_goals
      refine ⟨_, rfl, _, rfl, _, _, rfl, rfl, ⟨by decide, by decide, by decide⟩, _, _, rfl, rfl, _, _, rfl, ?_⟩
      refine ⟨_, rfl, _, _, rfl, rfl, .inr ⟨by decide, by decide⟩, _, rfl, _, _, rfl, rfl, .inl ⟨by decide, by decide⟩, _, _, rfl, rfl, _, _, rfl, rfl, .inl ⟨_, rfl, _, _, rfl, rfl, (by show (0 : Int) < 2305843009213693951; decide), ?_⟩⟩
      refine ⟨_, rfl, _, rfl, (by show 2 ≤ sizeLine; decide), fun p hp => q _ p (fun b o e => ?_) hp ⟨_, _, upd_same, ?_, Int.emod_nonneg _ (by decide)⟩⟩
      · rw [upd_ne (ne_of_none e hp)]
        exact e
      · split <;> omega
end
end Law
set_option Elab.async false
set_option linter.all false
set_option maxRecDepth 100000
set_option maxHeartbeats 8000000
namespace Law
open PySem PySem.Spec PyProof.Rows L2 PySem.NearX
abbrev sAll : Stmt := top 22
abbrev sDRow : Stmt := top 23
abbrev sDRows : Stmt := top 24
section
variable {K : PySem.W.Frag} {H H' : Hp}
theorem SqT.upL {D a : Addr} {xs : List V} {ys : List V} {o : HO} (h : SqT K H a ys) (hD : H D = some (.lst xs)) : SqT K (upd H D o) a ys :=
  h.elim (fun h => .inl (h.elim (fun h => .inl (by rw [upd_ne (fun z => by subst z; exact nomatch h.symm.trans hD)]; exact h)) fun ⟨o, h⟩ => .inr ⟨o, by rw [upd_ne (fun z => by subst z; exact nomatch h.symm.trans hD)]; exact h⟩)) fun h => .inr h
theorem SqT.but2 {p a : Addr} {xs : List V} {ys : List V} (h : SqT K H a ys) (hD : H p = some (.lst xs)) (b : But H H' p) : SqT K H' a ys :=
  h.elim (fun h => .inl (h.elim (fun h => .inl (b _ _ (fun z => by subst z; exact nomatch h.symm.trans hD) h)) fun ⟨o, h⟩ => .inr ⟨o, b _ _ (fun z => by subst z; exact nomatch h.symm.trans hD) h⟩)) fun h => .inr h
theorem told_new {D : Addr} (n : H D = none) : Told K (upd H D (.lst [])) D [] := ⟨[], upd_same, (by intro q h; cases h), rfl⟩
theorem told_push {D t : Addr} {ns : List (List Int)} {is : List Int} (h : Told K H D ns) (ht : SqT K H t (is.map V.int)) : ∃ acc, H D = some (.lst acc) ∧ acc.length = ns.length ∧ Told K (upd H D (.lst (acc ++ [.ref t]))) D (ns ++ [is]) := by
  obtain ⟨L, e, tl, rfl⟩ := h
  refine ⟨_, e, by rw [List.length_map, List.length_map], L ++ [(t, is)], ?_, fun q hq => ?_, by rw [List.map_append]; rfl⟩
  · rw [upd_same, List.map_append]
    rfl
  · rcases List.mem_append.mp hq with hq | hq
    · exact SqT.upL (tl q hq) e
    · rw [List.mem_singleton.mp hq]
      exact SqT.upL ht e
theorem told_cat {a b p : Addr} {ns ms : List (List Int)} (ha : Told K H a ns) (hb : Told K H b ms) : ∃ xs ys, H a = some (.lst xs) ∧ H b = some (.lst ys) ∧ xs.length = ns.length ∧ ys.length = ms.length ∧ ∀ p, H p = none → Told K (upd H p (.lst (xs ++ ys))) p (ns ++ ms) := by
  obtain ⟨L, e, tl, rfl⟩ := ha
  obtain ⟨M, e', tm, rfl⟩ := hb
  refine ⟨_, _, e, e', by rw [List.length_map, List.length_map], by rw [List.length_map, List.length_map], fun p np => ⟨L ++ M, by rw [upd_same, List.map_append], fun q hq => ?_, by rw [List.map_append]⟩⟩
  rcases List.mem_append.mp hq with hq | hq
  · exact (tl q hq).on (same_new np)
  · exact (tm q hq).on (same_new np)
theorem Told.len {l : Addr} {ns : List (List Int)} (h : Told K H l ns) : ∃ xs, H l = some (.lst xs) ∧ xs.length = ns.length := by
  obtain ⟨L, e, tl, rfl⟩ := h
  exact ⟨_, e, by rw [List.length_map, List.length_map]⟩
theorem Told.get {l : Addr} {ns : List (List Int)} (h : Told K H l ns) : ∃ L : List (Addr × List Int), H l = some (.lst (L.map fun q => V.ref q.1)) ∧ (∀ q ∈ L, SqT K H q.1 (q.2.map V.int)) ∧ L.map (·.2) = ns := h
theorem feed_ne {p l : Addr} {ns : List (List Int)} (hp : FeedAt H p) (h : Told K H l ns) : l ≠ p := by
  intro z
  subst z
  obtain ⟨d, s, e, _⟩ := hp
  obtain ⟨L, e', _⟩ := h
  have := HO.lst.inj (Option.some.inj (e.symm.trans e'))
  cases L with
  | nil => cases this
  | cons q L => exact nomatch (List.cons.inj this).1
theorem Told.but {p l : Addr} {ns : List (List Int)} (h : Told K H l ns) (hp : FeedAt H p) (b : But H H' p) : Told K H' l ns := by
  have ne := feed_ne hp h
  obtain ⟨L, e, tl, en⟩ := h
  obtain ⟨d, s, ep, _⟩ := hp
  exact ⟨L, b _ _ ne e, fun q hq => SqT.but2 (tl q hq) ep b, en⟩
theorem Tab.but {C p t : Addr} {w a : Int} {ns : List (List Int)} (h : Tab K C H t w a ns) (hp : FeedAt H p) (b : But H H' p) : Tab K C H' t w a ns := by
  obtain ⟨⟨dx, l, e, tl⟩, b1, b2, b3, b4⟩ := h
  refine ⟨⟨dx, l, b _ _ ?_ e, tl.but hp b⟩, b1, b2, b3, b4⟩
  intro z
  subst z
  obtain ⟨_, _, ep, _⟩ := hp
  exact nomatch ep.symm.trans e
theorem But.same {p : Addr} {H2 : Hp} (b : But H H' p) (s : Same H' H2) : But H H2 p := fun q o hq e => s _ _ (b q o hq e)
theorem But.of {p : Addr} (s : Same H H') : But H H' p := fun q o _ e => s _ _ e
theorem But.trans {p : Addr} {H2 : Hp} (b : But H H' p) (c : But H' H2 p) : But H H2 p := fun q o hq e => c q o hq (b q o hq e)
theorem FeedAt.on {p : Addr} (h : FeedAt H p) (s : Same H H') : FeedAt H' p := by
  obtain ⟨d, t, e, x⟩ := h
  exact ⟨d, t, s _ _ e, x⟩
theorem catA_go {a b : Addr} {xs ys : List V} {Q : VK} (ha : SqT K H a xs) (hb : SqT K H b ys) (hz : xs.length + ys.length ≤ sizeLine) (q : ∀ H' t, Same H H' → SqT K H' t (xs ++ ys) → Q (.ref t) H') : rCatA K (.ref a) (.ref b) H Q := by
  refine ⟨a, b, xs, ys, rfl, rfl, ha, hb, hz, fun e => ?_, fun _ e => ?_, fun _ _ p np => ?_⟩
  · subst e
    exact q H b (Same.refl H) hb
  · subst e
    exact q H a (Same.refl H) (by rw [List.append_nil]; exact ha)
  · exact q _ p (same_new np) (.inl (.inl upd_same))
end
/-! ### all rows -/
def ext (w : Int) (one : List Int) : List (List Int) := (List.range w.toNat).map fun (v : Nat) => one ++ [(v : Int)]
def allRows (w : Int) : Nat → List (List Int)
  | 0 => [[]]
  | n + 1 => (allRows w n).flatMap (ext w)
theorem ext_len (w : Int) (one : List Int) : (ext w one).length = w.toNat := by rw [ext, List.length_map, List.length_range]
theorem flat_len (w : Int) : ∀ ns : List (List Int), (ns.flatMap (ext w)).length = ns.length * w.toNat
  | [] => by simp
  | n :: ns => by
    rw [List.flatMap_cons, List.length_append, flat_len w ns, ext_len, List.length_cons, Nat.add_mul]
    omega
theorem all_len (w : Int) : ∀ n, (allRows w n).length = w.toNat ^ n
  | 0 => rfl
  | n + 1 => by
    show ((allRows w n).flatMap (ext w)).length = _
    rw [flat_len, all_len w n, Nat.pow_succ]
theorem all_small {w : Int} (h1 : 1 ≤ w) (h3 : w ≤ 3) {n : Nat} (hn : n ≤ 3) : (allRows w n).length ≤ 27 := by
  rw [all_len]
  have a : w.toNat ^ n ≤ 3 ^ n := Nat.pow_le_pow_left (by omega) n
  have b : 3 ^ n ≤ 3 ^ 3 := Nat.pow_le_pow_right (by omega) hn
  omega
theorem all_mem (w : Int) : ∀ (n : Nat) (x : List Int), x ∈ allRows w n → x.length = n
  | 0, x, h => by rw [List.mem_singleton.mp h]; rfl
  | n + 1, x, h => by
    obtain ⟨y, hy, hx⟩ := List.mem_flatMap.mp h
    obtain ⟨v, _, rfl⟩ := List.mem_map.mp hx
    rw [List.length_append, all_mem w n y hy]
    rfl
def spAll (K : PySem.W.Frag) : Sp := fun vs H Q _ => ∃ (w : Int) (n : Nat), vs = [.int w, .int n] ∧ 1 ≤ w ∧ w ≤ 3 ∧ n ≤ 3 ∧ ∀ H' l, Same H H' → Told K H' l (allRows w n) → Q (.ref l) H'
section
variable {P : Program} {w : World} {K : PySem.W.Frag} {mg : Str → Option Value} {base : Heap}
def NAll : List Str := ["width", "length", "found", "turn", "longer", "one", "value"]
theorem scAll : FnScope NAll ["width", "length"] (defScope sAll) := ⟨rfl, rfl, rfl, by decide +kernel, rfl, by decide +kernel, by decide +kernel⟩
theorem ok_all {f : Addr} {fd : FuncData} (F : Fun K "_law_all" "_law_all" sAll f fd) (T : Blt mg) : FnOk P w K mg base CX0 1 f fd ["width", "length"] (spAll K) := by
  refine F.ok scAll (fun vs H Q E h => ?_) (fun cdv A outer s H vs Q E hr h => ?_)
  · obtain ⟨wi, n, rfl, _⟩ := h
    rfl
  · obtain ⟨wi, n, rfl, w1, w3, hn, q⟩ := h
    refine ⟨_, pss_cons (ps_set (i := 2) scAll.nd rfl (Or.inl rfl) (pe_lst (pa_cons (pe_tup pa_nil) pa_nil)))
      (pss_cons (ps_for PassesOwn.never rfl (pi_range1 rfl T.range (pa_cons (pv 1) pa_nil)) (pg_name (i := 3) scAll.nd rfl (Or.inl rfl))
        (pss_cons (ps_set (i := 4) scAll.nd rfl (Or.inl rfl) (pe_lst pa_nil))
        (pss_cons (ps_for PassesOwn.never rfl (pi_list (pv 2)) (pg_name (i := 5) scAll.nd rfl (Or.inr rfl))
          (pss_one (ps_set (i := 4) scAll.nd rfl (Or.inl rfl) (pe_op op_cat (pv 4)
            (pe_lc (own := [("value", 6)]) (g := gName 6) (tt := tYes) rfl scAll.nd (pi_range1 rfl T.range (pa_cons (pv 0) pa_nil)) (blkOk_by (own := [("value", 6)]) (N := NAll) (sc := defScope sAll) (by decide +kernel)) (fun _ _ _ _ _ => pg_name (i := 6) scAll.nd rfl (Or.inl rfl)) (fun _ _ _ _ _ => pts_nil)
              (fun _ _ _ _ _ => pe_op (show OpR _ (binaryOp .Add) (rCatA K) from op_catA) (pv 5) (pe_tup (pa_cons (pv 6) pa_nil))))))))
        (pss_one (ps_set (i := 2) scAll.nd rfl (Or.inl rfl) (pv 4))))))
      (pss_one (ps_ret (pv 2)))), ?_⟩
    refine ⟨small (Nat.le_of_ble_eq_true rfl), fun t0 n0 => ⟨small (Nat.le_of_ble_eq_true rfl), fun l0 n1 => ?_⟩⟩
    have s0 := same_new (o := .tup []) n0
    have s1 := Law.Same.new (o := .lst [.ref t0]) s0 n1
    refine ⟨_, rfl, _, rfl, by omega, by omega, for_range (lo := 0) (n := n) (fun i σ H' => ∃ l n3 n4 n5, σ = [some (.int wi), some (.int n), some (.ref l), n3, n4, n5, none] ∧ Same H H' ∧ Told K H' l (allRows wi i))
      ⟨l0, none, none, none, rfl, s1, [(t0, [])], upd_same, (by intro q hq; rw [List.mem_singleton.mp hq]; exact .inl (.inl (same_new n1 _ _ upd_same))), rfl⟩ ?_ ?_⟩
    · rintro i σ H1 hi ⟨l, n3, n4, n5, rfl, s2, tl⟩
      have hlen := all_small w1 w3 (n := i) (by omega)
      obtain ⟨L, el, tl', en⟩ := tl.get
      have hL : L.length = (allRows wi i).length := by rw [← en, List.length_map]
      refine ⟨small (Nat.le_of_ble_eq_true rfl), fun g0 n6 => ?_⟩
      have s3 := same_new (o := .lst []) n6
      refine ⟨_, rfl, l, rfl, ⟨L.map (fun q => V.ref q.1), SqL.of (s3 _ _ el)⟩, for_list (xs := L.map (fun q => V.ref q.1)) (fun j σ H' => ∃ g n3 n5, σ = [some (.int wi), some (.int n), some (.ref l), n3, some (.ref g), n5, none] ∧ Same H1 H' ∧ Told K H' g (((allRows wi i).take j).flatMap (ext wi)))
        ⟨g0, _, _, rfl, s3, by rw [List.take_zero]; exact told_new n6⟩ (fun j σ H' _ ⟨_, _, _, _, s4, _⟩ => SqL.of (s4 _ _ el)) ?_ ?_⟩
      · rintro j x σ H2 hx ⟨g, m3, m5, rfl, s4, tg⟩
        rw [List.getElem?_map] at hx
        obtain ⟨q0, hq0, rfl⟩ := Option.map_eq_some_iff.mp hx
        have hj : j < L.length := (List.getElem?_eq_some_iff.mp hq0).1
        have hone : (allRows wi i)[j]? = some q0.2 := by rw [← en, List.getElem?_map, hq0]; rfl
        have hlen2 : (((allRows wi i).take j).flatMap (ext wi)).length ≤ 81 := by
          rw [flat_len, List.length_take]
          have : (min j (allRows wi i).length) * wi.toNat ≤ 27 * 3 := Nat.mul_le_mul (by omega) (by omega)
          omega
        refine ⟨_, rfl, _, rfl, _, rfl, by omega, by omega, fun D nD => lc_range (lo := 0) (fun m H' => Same H2 H' ∧ Told K H' D ((List.range m).map fun (v : Nat) => q0.2 ++ [(v : Int)])) ⟨same_new nD, told_new nD⟩ ?_ ?_⟩
        · rintro m H3 hm ⟨s5, tD⟩
          have hq : SqT K H3 q0.1 (q0.2.map V.int) := (tl' q0 (List.mem_of_getElem? hq0)).on (s4.trans s5)
          refine ⟨rfl, _, rfl, _, rfl, small (Nat.le_of_ble_eq_true rfl), fun t1 n7 => ?_⟩
          refine catA_go (hq.on (same_new n7)) (.inl (.inl upd_same)) ?_ fun H4 t s6 ht => ?_
          · have : q0.2.length = i := all_mem wi i _ (List.mem_of_getElem? hone)
            exact small (by rw [List.length_map]; show q0.2.length + 1 ≤ 1000; omega)
          · have tD' := (tD.on (same_new n7)).on s6
            have ht' : SqT K H4 t ((q0.2 ++ [(((0 : Int) + (m : Int)) : Int)]).map V.int) := by
              rw [List.map_append]
              exact ht
            obtain ⟨acc, ea, la, tp⟩ := told_push tD' ht'
            refine ⟨acc, ea, small1000 (by rw [la, List.length_map, List.length_range]; omega), Law.Same.mut ((s5.trans (same_new n7)).trans s6) nD, ?_⟩
            rw [List.range_succ, List.map_append]
            rw [Int.zero_add] at tp
            exact tp
        · rintro H3 ⟨s5, tD⟩
          have tg3 := tg.on s5
          obtain ⟨xs, ys, e1, e2, l1, l2, fin⟩ := told_cat (p := D) tg3 tD
          refine ⟨g, D, xs, ys, rfl, rfl, e1, e2, small (by rw [l1, l2, List.length_map, List.length_range]; omega), fun p np => ?_⟩
          refine ⟨p, _, _, rfl, (s4.trans s5).trans (same_new np), ?_⟩
          rw [take_next hone, List.flatMap_append, List.flatMap_singleton]
          exact fin p np
      · rintro σ H2 ⟨g, m3, m5, rfl, s4, tg⟩
        rw [List.length_map, hL, List.take_length] at tg
        exact ⟨_, rfl, g, _, _, _, rfl, s2.trans s4, tg⟩
    · rintro σ H1 ⟨l, n3, n4, n5, rfl, s2, tl⟩
      exact ⟨_, rfl, q _ l s2 tl⟩
end
end Law
set_option Elab.async false
set_option linter.all false
set_option maxRecDepth 100000
set_option maxHeartbeats 8000000
namespace Law
open PySem PySem.Spec PyProof.Rows L2 PySem.NearX
/-- a row of an arity over a width -/
def RowOk (w a : Int) (r : List Int) : Prop := (r.length : Int) = a ∧ ∀ m ∈ r, 0 ≤ m ∧ m < w
def RowsOk (w a : Int) (ns : List (List Int)) : Prop := ∀ r ∈ ns, RowOk w a r
section
variable {H H' : Hp}
theorem But.new {p D : Addr} {o : HO} (b : But H H' p) (n : H D = none) : But H (upd H' D o) p := fun q u hq e => by
  rw [upd_ne (ne_of_none e n)]
  exact b q u hq e
theorem FeedAt.ne {p D : Addr} (h : FeedAt H p) (n : H D = none) : p ≠ D := by
  obtain ⟨_, _, e, _⟩ := h
  exact ne_of_none e n
theorem FeedAt.up {p D : Addr} {o : HO} (h : FeedAt H' p) (n : p ≠ D) : FeedAt (upd H' D o) p := by
  obtain ⟨d, t, e, x⟩ := h
  exact ⟨d, t, by rw [upd_ne n]; exact e, x⟩
end
def spDRow (K : PySem.W.Frag) : Sp := fun vs H Q _ => ∃ (p : Addr) (w a : Int), vs = [.ref p, .int w, .int a] ∧ FeedAt H p ∧ 1 ≤ w ∧ w ≤ 3 ∧ 1 ≤ a ∧ a ≤ 3 ∧
  ∀ H' t r, But H H' p → FeedAt H' p → RowOk w a r → SqT K H' t (r.map V.int) → Q (.ref t) H'
def spDRows (K : PySem.W.Frag) : Sp := fun vs H Q _ => ∃ (p : Addr) (w a : Int) (m : Nat), vs = [.ref p, .int w, .int a, .int m] ∧ FeedAt H p ∧ 1 ≤ w ∧ w ≤ 3 ∧ 1 ≤ a ∧ a ≤ 3 ∧ m ≤ 20 ∧
  ∀ H' l ns, But H H' p → FeedAt H' p → RowsOk w a ns → ns.length ≤ m → Told K H' l ns → Q (.ref l) H'
section
variable {P : Program} {w : World} {K : PySem.W.Frag} {mg : Str → Option Value} {base : Heap}
def NDR : List Str := ["feed", "width", "arity", "turn"]
theorem scDRow : FnScope NDR ["feed", "width", "arity"] (defScope sDRow) := ⟨rfl, rfl, rfl, by decide +kernel, rfl, by decide +kernel, by decide +kernel⟩
theorem ok_drow {f fT : Addr} {fd dT : FuncData} (F : Fun K "_law_drawn_row" "_law_drawn_row" sDRow f fd) (T : Blt mg) (GT : FnOk P w K mg base CX0 1 fT dT ["feed", "many"] spTake) (cT : Cal K mg "_law_take" ["feed", "many"] fT dT) :
    FnOk P w K mg base CX0 2 f fd ["feed", "width", "arity"] (spDRow K) := by
  refine F.ok scDRow (fun vs H Q E h => ?_) (fun cdv A outer s H vs Q E hr h => ?_)
  · obtain ⟨p, wi, a, rfl, _⟩ := h
    rfl
  · obtain ⟨p, wi, a, rfl, hp, w1, w3, a1, a3, q⟩ := h
    refine ⟨_, pss_one (ps_ret (pe_callTy call_tuple_of (by rfl) T.tuple Law.boot_tuple (pa_cons
      (pe_lc (own := [("turn", 3)]) (g := gName 3) (tt := tYes) rfl scDRow.nd (pi_range1 rfl T.range (pa_cons (pv 2) pa_nil)) (blkOk_by (own := [("turn", 3)]) (N := NDR) (sc := defScope sDRow) (by decide +kernel)) (fun _ _ _ _ _ => pg_name (i := 3) scDRow.nd rfl (Or.inl rfl)) (fun _ _ _ _ _ => pts_nil)
        (fun _ _ _ _ _ => pe_call GT hr rfl cT.g cT.k cT.b .nil pass0 (pa_cons (pv 0) (pa_cons (pv 1) pa_nil)))) pa_nil))), ?_⟩
    refine ⟨_, rfl, _, rfl, by omega, by omega, fun D nD => ?_⟩
    have np := hp.ne nD
    refine lc_range (lo := 0) (fun m H' => But H H' p ∧ FeedAt H' p ∧ ∃ r : List Int, r.length = m ∧ (∀ x ∈ r, 0 ≤ x ∧ x < wi) ∧ H' D = some (.lst (r.map V.int))) ⟨But.of (same_new nD), hp.up np, [], rfl, (by intro x hx; cases hx), upd_same⟩ ?_ ?_
    · rintro m H1 hm ⟨b, hp1, r, hl, hr1, hD⟩
      refine ⟨rfl, _, rfl, _, rfl, p, wi, rfl, hp1, by omega, by omega, fun H2 x b2 hp2 x0 x1 => ?_⟩
      have hD2 := b2 _ _ (Ne.symm np) hD
      refine ⟨_, hD2, small1000 (by rw [List.length_map]; omega), (b.trans b2).new nD, hp2.up np, r ++ [x], by rw [List.length_append, hl]; rfl, fun y hy => ?_, by rw [upd_same, List.map_append]; rfl⟩
      rcases List.mem_append.mp hy with hy | hy
      · exact hr1 y hy
      · rw [List.mem_singleton.mp hy]
        exact ⟨x0, x1⟩
    · rintro H1 ⟨b, hp1, r, hl, hr1, hD⟩
      refine ⟨D, _, rfl, .inl ⟨SqL.of hD, fun t nt => ?_⟩⟩
      exact q _ t r (b.same (same_new nt)) (hp1.on (same_new nt)) ⟨by omega, hr1⟩ (.inl (.inl upd_same))
def NDS : List Str := ["feed", "width", "arity", "most", "turn"]
theorem scDRows : FnScope NDS ["feed", "width", "arity", "most"] (defScope sDRows) := ⟨rfl, rfl, rfl, by decide +kernel, rfl, by decide +kernel, by decide +kernel⟩
theorem ok_drows {f fT fR : Addr} {fd dT dR : FuncData} (F : Fun K "_law_drawn_rows" "_law_drawn_rows" sDRows f fd) (T : Blt mg) (GT : FnOk P w K mg base CX0 1 fT dT ["feed", "many"] spTake) (cT : Cal K mg "_law_take" ["feed", "many"] fT dT)
    (GR : FnOk P w K mg base CX0 2 fR dR ["feed", "width", "arity"] (spDRow K)) (cR : Cal K mg "_law_drawn_row" ["feed", "width", "arity"] fR dR) : FnOk P w K mg base CX0 3 f fd ["feed", "width", "arity", "most"] (spDRows K) := by
  refine F.ok scDRows (fun vs H Q E h => ?_) (fun cdv A outer s H vs Q E hr h => ?_)
  · obtain ⟨p, wi, a, m, rfl, _⟩ := h
    rfl
  · obtain ⟨p, wi, a, mo, rfl, hp, w1, w3, a1, a3, hm, q⟩ := h
    refine ⟨_, pss_one (ps_ret
      (pe_lc (own := [("turn", 4)]) (g := gName 4) (tt := tYes) rfl scDRows.nd (pi_range1 rfl T.range (pa_cons (pe_call GT (hr.mono (by decide)) rfl cT.g cT.k cT.b .nil pass0 (pa_cons (pv 0) (pa_cons (pe_op op_add (pv 3) pe_int) pa_nil))) pa_nil)) (blkOk_by (own := [("turn", 4)]) (N := NDS) (sc := defScope sDRows) (by decide +kernel)) (fun _ _ _ _ _ => pg_name (i := 4) scDRows.nd rfl (Or.inl rfl)) (fun _ _ _ _ _ => pts_nil)
        (fun _ _ _ _ _ => pe_call GR hr rfl cR.g cR.k cR.b .nil pass0 (pa_cons (pv 0) (pa_cons (pv 1) (pa_cons (pv 2) pa_nil)))))), ?_⟩
    refine ⟨_, rfl, _, rfl, _, _, rfl, rfl, p, _, rfl, hp, by omega, by omega, fun H0 n b0 hp0 n0 n1 => ?_⟩
    refine ⟨_, rfl, by omega, by omega, fun D nD => ?_⟩
    have np := hp0.ne nD
    refine lc_range (lo := 0) (fun m H' => But H0 H' p ∧ FeedAt H' p ∧ ∃ ns : List (List Int), ns.length = m ∧ RowsOk wi a ns ∧ Told K H' D ns) ⟨But.of (same_new nD), hp0.up np, [], rfl, (by intro x hx; cases hx), told_new nD⟩ ?_ ?_
    · rintro m H1 hmm ⟨b, hp1, ns, hl, ok, tD⟩
      refine ⟨rfl, _, rfl, _, rfl, _, rfl, p, wi, a, rfl, hp1, w1, w3, a1, a3, fun H2 t r b2 hp2 ro ht => ?_⟩
      obtain ⟨acc, ea, la, tp⟩ := told_push (tD.but hp1 b2) ht
      refine ⟨_, ea, small1000 (by rw [la]; omega), (b.trans b2).new nD, hp2.up np, ns ++ [r], by rw [List.length_append, hl]; rfl, fun y hy => ?_, tp⟩
      rcases List.mem_append.mp hy with hy | hy
      · exact ok y hy
      · rw [List.mem_singleton.mp hy]
        exact ro
    · rintro H1 ⟨b, hp1, ns, hl, ok, tD⟩
      exact q _ D ns (b0.trans b) hp1 ok (by omega) tD
end
end Law
set_option Elab.async false
set_option linter.all false
set_option maxRecDepth 100000
set_option maxHeartbeats 8000000
namespace Law
open PySem PySem.Spec PyProof.Rows L2 PySem.NearX
abbrev sMade : Stmt := top 25
def tagD (x : String) (n : Nat) : PyData := .tuple [.str x, .int n]
/-- what is refused, and how -/
def badRows : PyData → PyData → PyData → Option PyData
  | .int w, .int a, .list ds => (ds.findIdx? fun d => !isRow w a d).map (tagD "row")
  | _, _, _ => some (tagD "list" 0)
def badOf (dw da dr : PyData) : Option PyData := if inB 1 3 dw = false then some (tagD "width" 0) else if inB 1 3 da = false then some (tagD "arity" 0) else badRows dw da dr
theorem badOf_w {dw da dr : PyData} (h : inB 1 3 dw = false) : badOf dw da dr = some (tagD "width" 0) := if_pos h
theorem badOf_a {dw da dr : PyData} (h : inB 1 3 dw = true) (h2 : inB 1 3 da = false) : badOf dw da dr = some (tagD "arity" 0) := (if_neg (by rw [h]; exact Bool.noConfusion)).trans (if_pos h2)
theorem badOf_r {dw da dr : PyData} (h : inB 1 3 dw = true) (h2 : inB 1 3 da = true) : badOf dw da dr = badRows dw da dr := (if_neg (by rw [h]; exact Bool.noConfusion)).trans (if_neg (by rw [h2]; exact Bool.noConfusion))
/-- which clauses take which errors -/
structure Exm (K : PySem.W.Frag) (CW CA CL CR : Addr) : Prop where
  ww : PySem.W.exmOne K (.ref CW) (.ref CW) = some true
  aw : PySem.W.exmOne K (.ref CA) (.ref CW) = some false
  aa : PySem.W.exmOne K (.ref CA) (.ref CA) = some true
  lw : PySem.W.exmOne K (.ref CL) (.ref CW) = some false
  la : PySem.W.exmOne K (.ref CL) (.ref CA) = some false
  ll : PySem.W.exmOne K (.ref CL) (.ref CL) = some true
  rw_ : PySem.W.exmOne K (.ref CR) (.ref CW) = some false
  ra : PySem.W.exmOne K (.ref CR) (.ref CA) = some false
  rl : PySem.W.exmOne K (.ref CR) (.ref CL) = some false
  rr : PySem.W.exmOne K (.ref CR) (.ref CR) = some true
def spMade (K : PySem.W.Frag) : Sp := fun vs H Q _ => ∃ (v1 v2 v3 : V) (dw da dr k : PyData), vs = [v1, v2, v3] ∧ Dp K H v1 dw ∧ Dp K H v2 da ∧ Dp K H v3 dr ∧ (∀ ds, dr = .list ds → ds.length < 64) ∧ badOf dw da dr = some k ∧
  ∀ H' v, Same H H' → Dp K H' v k → Q v H'
section
variable {P : Program} {w : World} {K : PySem.W.Frag} {mg : Str → Option Value} {base : Heap}
def NM : List Str := ["width", "arity", "rows", "e"]
theorem scMade : FnScope NM ["width", "arity", "rows"] (defScope sMade) := ⟨rfl, rfl, rfl, by decide +kernel, rfl, by decide +kernel, by decide +kernel⟩
theorem dp_tag {H : Hp} {t : Addr} {x : String} {n : Nat} {v : V} (e : H t = some (.tup [.str x, .int n])) : Dp K H (.ref t) (tagD x n) := .tup (.inl (.inl e)) (.cons (.str _) (.cons (.int _) .nil))
theorem ok_made {f fI C CW CA CL CR : Addr} {fd dI : FuncData} (F : Fun K "_law_made" "_law_made" sMade f fd) (M : Mk K C fI) (gT : mg "Table" = some (.ref C)) (X : Exm K CW CA CL CR)
    (gW : mg "BadWidth" = some (.ref CW)) (gA : mg "BadArity" = some (.ref CA)) (gL : mg "NoList" = some (.ref CL)) (gR : mg "BadRow" = some (.ref CR)) (fR : FldC K CR "number")
    (GI : FnOk P w K mg base (L2.CX P w) 4 fI dI ["self", "width", "arity", "rows"] (spInit K C CW CA CL CR)) (bI : Binds K dI ["self", "width", "arity", "rows"] []) :
    FnOk P w K mg base CX0 6 f fd ["width", "arity", "rows"] (spMade K) := by
  refine F.ok scMade (fun vs H Q E h => ?_) (fun cdv A outer s H vs Q E hr h => ?_)
  · obtain ⟨v1, v2, v3, dw, da, dr, k, rfl, _⟩ := h
    rfl
  · obtain ⟨v1, v2, v3, dw, da, dr, k, rfl, hw, ha, hd, h64, hk, q⟩ := h
    refine ⟨_, pss_one (ps_try_mix rfl rfl scMade.nd takesNo (fun W pn xe tk hp => pss_one (ps_ret (pe_makeS (E := WE W) M GI hr rfl gT bI (fun σ => passAt tk σ) (pa_cons (pv 0) (pa_cons (pv 1) (pa_cons (pv 2) pa_nil))))))
      (.cons (c := .ref CW) (oi := none) ⟨rfl, by decide, .inl gW⟩ (.inl ⟨rfl, rfl⟩) (fun a oe cls d pn hz hf => pss_one (ps_ret (pe_tup (pa_cons pe_str (pa_cons pe_int pa_nil)))))
      (.cons (c := .ref CA) (oi := none) ⟨rfl, by decide, .inl gA⟩ (.inl ⟨rfl, rfl⟩) (fun a oe cls d pn hz hf => pss_one (ps_ret (pe_tup (pa_cons pe_str (pa_cons pe_int pa_nil)))))
      (.cons (c := .ref CL) (oi := none) ⟨rfl, by decide, .inl gL⟩ (.inl ⟨rfl, rfl⟩) (fun a oe cls d pn hz hf => pss_one (ps_ret (pe_tup (pa_cons pe_str (pa_cons pe_int pa_nil)))))
      (.cons (c := .ref CR) (oi := some 3) ⟨rfl, by decide, .inl gR⟩ (.inr ⟨"e", 3, rfl, rfl, rfl, rfl⟩) (fun a oe cls d pn hz hf => pss_one (ps_ret (pe_tup (pa_cons pe_str (pa_cons (pe_nearX fR hz hf (pv 3)) pa_nil)))))
      .nil))))), ?_⟩
    refine ⟨_, rfl, _, rfl, _, rfl, fun x dx nx ndx ne => ?_⟩
    have s0 : Same H (upd (upd H dx (.own x)) x (.ins C dx [])) := Law.Same.new (same_new ndx) (by rw [upd_ne (Ne.symm ne)]; exact nx)
    refine ⟨x, dx, v1, v2, v3, dw, da, dr, rfl, upd_same, hw.on s0, ha.on s0, hd.on s0, h64, fun bw H' s' => ?_, fun bw ba H' s' => ?_, fun bw ba bl H' s' => ?_, fun wi ai ds ew ea w1 w3 a1 a3 ed => ⟨fun i d ei er hj H' y s' hy => ?_, fun good H' l ns s' hl0 hx tl cn => ?_⟩⟩
    · have e : k = tagD "width" 0 := by
        rw [badOf_w bw] at hk
        exact (Option.some.inj hk).symm
      subst e
      refine ⟨true, X.ww, fun _ a na => ⟨small (Nat.le_of_ble_eq_true rfl), fun t nt => ?_⟩, (fun z => nomatch z)⟩
      exact q _ _ ((s0.trans s').trans (same_new nt)) (dp_tag (v := .non) upd_same)
    · have e : k = tagD "arity" 0 := by
        rw [badOf_a bw ba] at hk
        exact (Option.some.inj hk).symm
      subst e
      refine ⟨false, X.aw, (fun z => nomatch z), fun _ => ⟨true, X.aa, fun _ a na => ⟨small (Nat.le_of_ble_eq_true rfl), fun t nt => ?_⟩, (fun z => nomatch z)⟩⟩
      exact q _ _ ((s0.trans s').trans (same_new nt)) (dp_tag (v := .non) upd_same)
    · have e : k = tagD "list" 0 := by
        rw [badOf_r bw ba] at hk
        cases dr with
        | list ds => cases bl
        | _ => cases dw <;> cases da <;> exact (Option.some.inj hk).symm
      subst e
      refine ⟨false, X.lw, (fun z => nomatch z), fun _ => ⟨false, X.la, (fun z => nomatch z), fun _ => ⟨true, X.ll, fun _ a na => ⟨small (Nat.le_of_ble_eq_true rfl), fun t nt => ?_⟩, (fun z => nomatch z)⟩⟩⟩
      exact q _ _ ((s0.trans s').trans (same_new nt)) (dp_tag (v := .non) upd_same)
    · subst ew; subst ea; subst ed
      have bw : inB 1 3 (.int wi) = true := by show (decide (1 ≤ wi) && decide (wi ≤ 3)) = true; rw [decide_eq_true w1, decide_eq_true w3]; rfl
      have ba : inB 1 3 (.int ai) = true := by show (decide (1 ≤ ai) && decide (ai ≤ 3)) = true; rw [decide_eq_true a1, decide_eq_true a3]; rfl
      have hi : i < ds.length := (List.getElem?_eq_some_iff.mp ei).1
      have e : k = tagD "row" i := by
        rw [badOf_r bw ba] at hk
        have : (ds.findIdx? fun d => !isRow wi ai d) = some i := by
          rw [List.findIdx?_eq_some_iff_getElem]
          refine ⟨hi, ?_, fun j hj2 => ?_⟩
          · have := (List.getElem?_eq_some_iff.mp ei).2
            rw [this, er]; rfl
          · rw [hj j hj2 _ (List.getElem?_eq_getElem (by omega))]
            exact Bool.noConfusion
        have hk' : (ds.findIdx? fun d => !isRow wi ai d).map (tagD "row") = some k := hk
        rw [this] at hk'
        exact (Option.some.inj hk').symm
      subst e
      refine ⟨false, X.rw_, (fun z => nomatch z), fun _ => ⟨false, X.ra, (fun z => nomatch z), fun _ => ⟨false, X.rl, (fun z => nomatch z), fun _ => ⟨true, X.rr, fun _ a na => ?_, (fun z => nomatch z)⟩⟩⟩⟩
      refine ⟨_, rfl, rfl, rfl, y, _, .int i, rfl, hy, rfl, small (Nat.le_of_ble_eq_true rfl), fun t nt => ?_⟩
      exact q _ _ ((s0.trans s').trans (same_new nt)) (dp_tag (v := .non) upd_same)
    · subst ew; subst ea; subst ed
      have bw : inB 1 3 (.int wi) = true := by show (decide (1 ≤ wi) && decide (wi ≤ 3)) = true; rw [decide_eq_true w1, decide_eq_true w3]; rfl
      have ba : inB 1 3 (.int ai) = true := by show (decide (1 ≤ ai) && decide (ai ≤ 3)) = true; rw [decide_eq_true a1, decide_eq_true a3]; rfl
      rw [badOf_r bw ba] at hk
      have hk' : (ds.findIdx? fun d => !isRow wi ai d).map (tagD "row") = some k := hk
      rw [List.findIdx?_eq_none_iff.mpr fun d hd => by rw [good d hd]; rfl] at hk'
      cases hk'
end
end Law
set_option Elab.async false
set_option linter.all false
set_option maxRecDepth 100000
set_option maxHeartbeats 8000000
namespace Law
open PySem PySem.Spec PyProof.Rows L2 PySem.NearX
abbrev sOdd : Stmt := top 26
def repf (n : Nat) (ds : List PyData) : List PyData := (List.replicate n ds).flatten
def odd1 (w : Int) (r : List Int) : List PyData := [.none, .tuple [], .list (r.map .int), .tuple (r.map .int ++ [.int 0]), .tuple (repf r.length [.int w]), .tuple (repf r.length [.int (-1)]), .tuple (repf r.length [.bool true]), .tuple (repf r.length [.str "0"])]
def odd2 (r : List Int) : List PyData := [.str (repS "0" r.length), .int 0, .tuple (repf r.length [.tuple [.int 0]]), .tuple (repf r.length [.list [.int 0]])]
def odd3 (r : List Int) : List PyData := [.tuple (repf r.length [.none]), .tuple (cutD (r.map .int) none (some (-1)) ++ [.int (10 ^ 30)]), .tuple (repf 4 [.tuple (r.map .int)])]
def oddB (r : List Int) (b : PyData) : List PyData := (List.range r.length).map fun m => .tuple ((cutD (r.map .int) none (some (m : Nat)) ++ [b]) ++ cutD (r.map .int) (some ((m : Nat) + 1)) none)
def bads (w : Int) : List PyData := [.int w, .int (-1), .bool true, .bool false, .none, .str "0", .tuple [.int 0], .list [.int 0], .int (10 ^ 30)]
def odd4 (r : List Int) : List PyData := if 1 < r.length then [.tuple (cutD (r.map .int) none (some (-1))), .tuple (cutD (r.map .int) (some 1) none)] else []
def odd5 (w : Int) (r : List Int) : List PyData := [.tuple (cutD (r.map .int) none (some (-1)) ++ [.bool false]), .tuple ((([(r.map PyData.int).headD .none] : List PyData) ++ repf (r.length - 1) [.int w]) ++ [.int 0])]
def oddD (w : Int) (r : List Int) : List PyData := ((((odd1 w r ++ odd2 r) ++ odd3 r) ++ (bads w).flatMap (oddB r)) ++ odd4 r) ++ odd5 w r
def oddOk (w : Int) (r : List Int) : Bool := (oddD w r).all fun d => !isRow w r.length d && d.showable && !d.hasDict && SeqAt.shaped d && d.leavesShort 40 && decide (d.weight ≤ 400) && decide (d.depth ≤ 10)
theorem rows_fine : ([1, 2, 3] : List Int).all (fun w => ([1, 2, 3] : List Nat).all fun n => (allRows w n).all fun r => (rowD r).showable && !(rowD r).hasDict && SeqAt.shaped (rowD r) && (rowD r).leavesShort 40 && decide ((rowD r).weight ≤ 400) && decide ((rowD r).depth ≤ 10) && isRow w r.length (rowD r)) = true := by decide +kernel
theorem odd_all : ([1, 2, 3] : List Int).all (fun w => ([1, 2, 3] : List Nat).all fun n => (allRows w n).all fun r => oddOk w r && decide ((oddD w r).length ≤ 60)) = true := by decide +kernel
theorem row_in {w : Int} : ∀ (n : Nat) (r : List Int), r.length = n → (∀ m ∈ r, 0 ≤ m ∧ m < w) → r ∈ allRows w n
  | 0, r, h, _ => by
    rw [List.eq_nil_of_length_eq_zero h]
    exact List.mem_singleton.mpr rfl
  | n + 1, r, h, hb => by
    rcases List.eq_nil_or_concat r with rfl | ⟨s, x, rfl⟩
    · cases h
    · rw [List.concat_eq_append] at h hb ⊢
      have hl : s.length = n := by rw [List.length_append] at h; simpa using h
      refine List.mem_flatMap.mpr ⟨s, row_in n s hl fun m hm => hb m (List.mem_append_left _ hm), ?_⟩
      have hx := hb x (List.mem_append_right _ (List.mem_singleton.mpr rfl))
      refine List.mem_map.mpr ⟨x.toNat, List.mem_range.mpr (by omega), ?_⟩
      rw [Int.toNat_of_nonneg hx.1]
theorem odd_ok {w a : Int} {r : List Int} (w1 : 1 ≤ w) (w3 : w ≤ 3) (a1 : 1 ≤ a) (a3 : a ≤ 3) (h : RowOk w a r) : oddOk w r = true ∧ (oddD w r).length ≤ 60 := by
  have h1 := List.all_eq_true.mp odd_all w (by
    have : w = 1 ∨ w = 2 ∨ w = 3 := by omega
    rcases this with rfl | rfl | rfl <;> decide)
  have h2 := List.all_eq_true.mp h1 r.length (by
    have := h.1
    have : r.length = 1 ∨ r.length = 2 ∨ r.length = 3 := by omega
    rcases this with e | e | e <;> rw [e] <;> decide)
  have h3 := List.all_eq_true.mp h2 r (row_in _ r rfl h.2)
  rw [Bool.and_eq_true] at h3
  exact ⟨h3.1, of_decide_eq_true h3.2⟩
end Law
set_option Elab.async false
set_option linter.all false
set_option maxRecDepth 100000
set_option maxHeartbeats 8000000
namespace Law
open PySem PySem.Spec PyProof.Rows L2 PySem.NearX
/-- p stands beside the ground G, and nothing that is given touches it -/
def spOdd (K : PySem.W.Frag) : Sp := fun vs H Q _ => ∃ (v : V) (w a : Int) (r : List Int) (p : Addr) (G : Hp), vs = [v, .int w] ∧ Same G H ∧ G p = none ∧ H p ≠ none ∧ Dp K G v (rowD r) ∧ 1 ≤ w ∧ w ≤ 3 ∧ 1 ≤ a ∧ a ≤ 3 ∧ RowOk w a r ∧
  ∀ H' G' l xs, Same H H' → Same G G' → Same G' H' → G' p = none → G' l = some (.lst xs) → DpAll K G' xs (oddD w r) → Q (.ref l) H'
theorem oddB_len (r : List Int) (b : PyData) : (oddB r b).length = r.length := by rw [oddB, List.length_map, List.length_range]
theorem repf_len (n : Nat) (ds : List PyData) : (repf n ds).length = n * ds.length := PyProof.Rows.lm_len_rep_flat ds n
theorem oddB_flat (r : List Int) : ∀ bs : List PyData, (bs.flatMap (oddB r)).length = bs.length * r.length
  | [] => by simp
  | b :: bs => by
    rw [List.flatMap_cons, List.length_append, oddB_flat r bs, List.length_cons, Nat.add_mul]
    have : (oddB r b).length = r.length := by rw [oddB, List.length_map, List.length_range]
    omega
section
variable {P : Program} {w : World} {K : PySem.W.Frag} {mg : Str → Option Value} {base : Heap}
def NO : List Str := ["row", "width", "arity", "odd", "bad", "at"]
theorem scOdd : FnScope NO ["row", "width"] (defScope sOdd) := ⟨rfl, rfl, rfl, by decide +kernel, rfl, by decide +kernel, by decide +kernel⟩
theorem ok_odd {f : Addr} {fd : FuncData} (F : Fun K "_law_odd_rows" "_law_odd_rows" sOdd f fd) (T : Blt mg) : FnOk P w K mg base CX0 1 f fd ["row", "width"] (spOdd K) := by
  refine F.ok scOdd (fun vs H Q E h => ?_) (fun cdv A outer s H vs Q E hr h => ?_)
  · obtain ⟨v, wi, a, r, p, G, rfl, _⟩ := h
    rfl
  · obtain ⟨v, wi, a, r, p, G, rfl, u0, p0, hp0, hd, w1, w3, a1, a3, ok, q⟩ := h
    have cA : OpR (cxOf CX0 P w K mg base NO "_law_odd_rows" (defScope sOdd) f cdv A outer s H E).nox (binaryOp .Add) (rCatA K) := op_catA
    have rA : OpR (cxOf CX0 P w K mg base NO "_law_odd_rows" (defScope sOdd) f cdv A outer s H E).nox (binaryOp .Mult) (rRepA K) := op_repA
    have sA : SlR (cxOf CX0 P w K mg base NO "_law_odd_rows" (defScope sOdd) f cdv A outer s H E).nox (rSlA K) := sl_tupA
    refine ⟨_, pss_cons (ps_set (i := 2) scOdd.nd rfl (Or.inl rfl) (pe_callB call_len_seq (by rfl) T.len PySem.boot_len (pa_cons (pv 0) pa_nil)))
      (pss_cons (ps_set (i := 3) scOdd.nd rfl (Or.inl rfl) (pe_lst (pa_cons pe_non (pa_cons (pe_tup pa_nil) (pa_cons (pe_callTy call_list_of (by rfl) T.list Law.boot_list (pa_cons (pv 0) pa_nil)) (pa_cons (pe_op cA (pv 0) (pe_tup (pa_cons pe_int pa_nil)))
        (pa_cons (pe_op rA (pe_tup (pa_cons (pv 1) pa_nil)) (pv 2)) (pa_cons (pe_op rA (pe_tup (pa_cons (pe_un un_neg pe_int) pa_nil)) (pv 2)) (pa_cons (pe_op rA (pe_tup (pa_cons pe_bl pa_nil)) (pv 2)) (pa_cons (pe_op rA (pe_tup (pa_cons pe_str pa_nil)) (pv 2)) pa_nil))))))))))
      (pss_cons (ps_set (i := 3) scOdd.nd rfl (Or.inl rfl) (pe_op op_cat (pv 3) (pe_lst (pa_cons (pe_op op_repS pe_str (pv 2)) (pa_cons pe_int (pa_cons (pe_op rA (pe_tup (pa_cons (pe_tup (pa_cons pe_int pa_nil)) pa_nil)) (pv 2)) (pa_cons (pe_op rA (pe_tup (pa_cons (pe_lst (pa_cons pe_int pa_nil)) pa_nil)) (pv 2)) pa_nil)))))))
      (pss_cons (ps_set (i := 3) scOdd.nd rfl (Or.inl rfl) (pe_op op_cat (pv 3) (pe_lst (pa_cons (pe_op rA (pe_tup (pa_cons pe_non pa_nil)) (pv 2)) (pa_cons (pe_op cA (pe_slice sA (pv 0) po_none (po_some (pe_un un_neg pe_int))) (pe_tup (pa_cons (pe_op op_pow pe_int pe_int) pa_nil))) (pa_cons (pe_op rA (pe_tup (pa_cons (pv 0) pa_nil)) pe_int) pa_nil))))))
      (pss_cons (ps_for PassesOwn.never rfl (pi_tup (pe_tup (pa_cons (pv 1) (pa_cons (pe_un un_neg pe_int) (pa_cons pe_bl (pa_cons pe_bl (pa_cons pe_non (pa_cons pe_str (pa_cons (pe_tup (pa_cons pe_int pa_nil)) (pa_cons (pe_lst (pa_cons pe_int pa_nil)) (pa_cons (pe_op op_pow pe_int pe_int) pa_nil))))))))))) (pg_name (i := 4) scOdd.nd rfl (Or.inr rfl))
        (pss_one (ps_set (i := 3) scOdd.nd rfl (Or.inl rfl) (pe_op op_cat (pv 3)
          (pe_lc (own := [("at", 5)]) (g := gName 5) (tt := tYes) rfl scOdd.nd (pi_range1 rfl T.range (pa_cons (pv 2) pa_nil)) (blkOk_by (own := [("at", 5)]) (N := NO) (sc := defScope sOdd) (by decide +kernel)) (fun _ _ _ _ _ => pg_name (i := 5) scOdd.nd rfl (Or.inl rfl)) (fun _ _ _ _ _ => pts_nil)
            (fun _ _ _ _ _ => pe_op (show OpR _ (binaryOp .Add) (rCatA K) from op_catA) (pe_op (show OpR _ (binaryOp .Add) (rCatA K) from op_catA) (pe_slice (show SlR _ (rSlA K) from sl_tupA) (pv 0) po_none (po_some (pv 5))) (pe_tup (pa_cons (pv 4) pa_nil))) (pe_slice (show SlR _ (rSlA K) from sl_tupA) (pv 0) (po_some (pe_op op_add (pv 5) pe_int)) po_none)))))))
      (pss_cons (ps_if (pt_cmpR op_gt (pv 2) pe_int (nomark _)) (pss_one (ps_set (i := 3) scOdd.nd rfl (Or.inl rfl) (pe_op op_cat (pv 3) (pe_lst (pa_cons (pe_slice sA (pv 0) po_none (po_some (pe_un un_neg pe_int))) (pa_cons (pe_slice sA (pv 0) (po_some pe_int) po_none) pa_nil)))))) pss_nil)
      (pss_one (ps_ret (pe_op op_cat (pv 3) (pe_lst (pa_cons (pe_op cA (pe_slice sA (pv 0) po_none (po_some (pe_un un_neg pe_int))) (pe_tup (pa_cons pe_bl pa_nil)))
        (pa_cons (pe_op cA (pe_op cA (pe_tup (pa_cons (pe_ix ix_tup (pv 0) pe_int (fun _ _ => rfl)) pa_nil)) (pe_op rA (pe_tup (pa_cons (pv 1) pa_nil)) (pe_op op_sub (pv 2) pe_int))) (pe_tup (pa_cons pe_int pa_nil))) pa_nil))))))))))), ?_⟩
    obtain ⟨t, rfl, ht⟩ := dp_row hd
    have n1 : 1 ≤ r.length := by have := ok.1; omega
    have n3 : r.length ≤ 3 := by have := ok.1; omega
    have hrow : Dp K G (.ref t) (.tuple (r.map PyData.int)) := hd
    have lr : (r.map PyData.int).length = r.length := List.length_map _
    have cl : ∀ lo hi, (cutD (r.map PyData.int) lo hi).length ≤ 3 := fun lo hi => Nat.le_trans (cutD_len _ _ _) (by omega)
    refine ⟨_, rfl, t, _, rfl, .inr (ht.on u0), ?_⟩
    rw [List.length_map]
    dsimp only [tSeq, tAsg, gName]
    refine DL.runG (K := K) (p := p) (ds := odd1 wi r) (DL.lst (DAs.cons DE.non (DAs.cons (DE.tup DAs.nil (Nat.le_of_ble_eq_true rfl)) (DAs.cons (DE.listOf (DE.var rfl hrow)) (DAs.cons (DE.cat (DE.var rfl hrow) (DE.tup (DAs.cons DE.int DAs.nil) (Nat.le_of_ble_eq_true rfl)) (by rw [lr]; show r.length + 1 ≤ 1000; omega))
      (DAs.cons (DE.rep (k := (r.length : Nat)) (DE.tup (DAs.cons (DE.var rfl (.int wi)) DAs.nil) (Nat.le_of_ble_eq_true rfl)) (DE.var rfl (.int _)) (by simp) (by omega) (by omega) (Nat.le_of_ble_eq_true rfl))
      (DAs.cons (DE.rep (k := (r.length : Nat)) (DE.tup (DAs.cons (DE.neg DE.int) DAs.nil) (Nat.le_of_ble_eq_true rfl)) (DE.var rfl (.int _)) (by simp) (by omega) (by omega) (Nat.le_of_ble_eq_true rfl))
      (DAs.cons (DE.rep (k := (r.length : Nat)) (DE.tup (DAs.cons DE.bl DAs.nil) (Nat.le_of_ble_eq_true rfl)) (DE.var rfl (.int _)) (by simp) (by omega) (by omega) (Nat.le_of_ble_eq_true rfl))
      (DAs.cons (DE.rep (k := (r.length : Nat)) (DE.tup (DAs.cons DE.str DAs.nil) (Nat.le_of_ble_eq_true rfl)) (DE.var rfl (.int _)) (by simp) (by omega) (by omega) (Nat.le_of_ble_eq_true rfl)) DAs.nil)))))))) (Nat.le_of_ble_eq_true rfl)) u0 p0 hp0 fun H1 G1 l1 x1 s1 g1 u1 p1 hp1 e1 d1 => ?_
    refine DL.runG (K := K) (p := p) (ds := odd1 wi r ++ odd2 r) (DL.cat (DL.var rfl e1 d1) (DL.lst (DAs.cons (DE.repS (k := (r.length : Nat)) DE.str (DE.var rfl (.int _)) (by omega) (by omega) (Nat.le_of_ble_eq_true rfl) (Nat.le_of_ble_eq_true rfl)) (DAs.cons DE.int
      (DAs.cons (DE.rep (k := (r.length : Nat)) (DE.tup (DAs.cons (DE.tup (DAs.cons DE.int DAs.nil) (Nat.le_of_ble_eq_true rfl)) DAs.nil) (Nat.le_of_ble_eq_true rfl)) (DE.var rfl (.int _)) (by simp) (by omega) (by omega) (Nat.le_of_ble_eq_true rfl))
      (DAs.cons (DE.rep (k := (r.length : Nat)) (DE.tup (DAs.cons (DL.lst (DAs.cons DE.int DAs.nil) (Nat.le_of_ble_eq_true rfl)).toE DAs.nil) (Nat.le_of_ble_eq_true rfl)) (DE.var rfl (.int _)) (by simp) (by omega) (by omega) (Nat.le_of_ble_eq_true rfl)) DAs.nil)))) (Nat.le_of_ble_eq_true rfl)) (Nat.le_of_ble_eq_true rfl)) u1 p1 hp1 fun H2 G2 l2 x2 s2 g2 u2 p2 hp2 e2 d2 => ?_
    have hr2 := hrow.on (g1.trans g2)
    refine DL.runG (K := K) (p := p) (ds := (odd1 wi r ++ odd2 r) ++ odd3 r) (DL.cat (DL.var rfl e2 d2) (DL.lst (DAs.cons (DE.rep (k := (r.length : Nat)) (DE.tup (DAs.cons DE.non DAs.nil) (Nat.le_of_ble_eq_true rfl)) (DE.var rfl (.int _)) (by simp) (by omega) (by omega) (Nat.le_of_ble_eq_true rfl))
      (DAs.cons (DE.cat (DE.sl (DE.var rfl hr2) DPt.none (DPt.some (K := K) (DE.neg DE.int))) (DE.tup (DAs.cons (DE.pow (i := 10) (j := 30) DE.int DE.int ⟨by decide, by decide, by decide⟩) DAs.nil) (Nat.le_of_ble_eq_true rfl)) (by have := cl none (some (-1)); show _ + 1 ≤ 1000; omega))
      (DAs.cons (DE.rep (k := 4) (DE.tup (DAs.cons (DE.var rfl hr2) DAs.nil) (Nat.le_of_ble_eq_true rfl)) DE.int (by simp) (by omega) (by omega) (Nat.le_of_ble_eq_true rfl)) DAs.nil))) (Nat.le_of_ble_eq_true rfl)) (Nat.le_of_ble_eq_true rfl)) u2 p2 hp2 fun H3 G3 l3 x3 s3 g3 u3 p3 hp3 e3 d3 => ?_
    dsimp only [tFor, iTup]
    have s03 := (s1.trans s2).trans s3
    have g03 := (g1.trans g2).trans g3
    refine DE.runG (K := K) (p := p) (d := .tuple (bads wi)) (DE.tup (DAs.cons (DE.var rfl (.int wi)) (DAs.cons (DE.neg DE.int) (DAs.cons DE.bl (DAs.cons DE.bl (DAs.cons DE.non (DAs.cons DE.str (DAs.cons (DE.tup (DAs.cons DE.int DAs.nil) (Nat.le_of_ble_eq_true rfl)) (DAs.cons (DL.lst (DAs.cons DE.int DAs.nil) (Nat.le_of_ble_eq_true rfl)).toE
      (DAs.cons (DE.pow (i := 10) (j := 30) DE.int DE.int ⟨by decide, by decide, by decide⟩) DAs.nil))))))))) (Nat.le_of_ble_eq_true rfl)) u3 p3 hp3 fun H4 G4 vb s4 g4 u4 p4 hp4 db => ?_
    cases db with
    | @tup b bx _ hb hbx =>
    refine ⟨b, rfl, ⟨bx, hb.on u4⟩, for_tup (K := K) (a := b) (xs := bx) (D := { nx := _, rt := _, bk := fun _ _ => False, ct := fun _ _ => False }) (fun j σ H' => ∃ n4 l ys G', σ = [some (.ref t), some (.int wi), some (.int (r.length : Nat)), some (.ref l), n4, none] ∧ Same H4 H' ∧ Same G4 G' ∧ Same G' H' ∧ G' p = none ∧ H' p ≠ none ∧ G' l = some (.lst ys) ∧ DpAll K G' ys (((odd1 wi r ++ odd2 r) ++ odd3 r) ++ ((bads wi).take j).flatMap (oddB r)))
      ⟨none, l3, x3, G4, rfl, Same.refl _, Same.refl _, u4, p4, hp4, g4 _ _ e3, by rw [List.take_zero]; show DpAll K G4 x3 (_ ++ []); rw [List.append_nil]; exact d3.on g4⟩ (fun j σ H' _ ⟨_, _, _, _, _, s5, _⟩ => (hb.on u4).on s5) ?_ ?_⟩
    · rintro j x σ H5 hx ⟨n4, l, ys, G5, rfl, s5, g5, u5, p5, hp5, el, dl⟩
      obtain ⟨bd, ebd, hbd⟩ := dpAll_get hbx hx
      have hrow5 := hrow.on (g03.trans (g4.trans g5))
      have fl : (((bads wi).take j).flatMap (oddB r)).length ≤ 27 := by
        rw [oddB_flat, List.length_take]
        have : min j (bads wi).length ≤ 9 := Nat.min_le_right _ _
        have : (min j (bads wi).length) * r.length ≤ 9 * 3 := Nat.mul_le_mul this n3
        omega
      refine DL.runG (K := K) (p := p) (ds := (((odd1 wi r ++ odd2 r) ++ odd3 r) ++ ((bads wi).take j).flatMap (oddB r)) ++ oddB r bd) (DL.cat (DL.var rfl el dl) (DL.lc (n := (r.length : Nat)) (DAs.cons (DE.var rfl (.int _)) DAs.nil) (by omega) (by omega) fun m hm =>
        DE.cat (DE.cat (DE.sl (DE.var rfl hrow5) DPt.none (DPt.some (K := K) (DE.var rfl (.int _)))) (DE.tup (DAs.cons (DE.var rfl (hbd.on g5)) DAs.nil) (Nat.le_of_ble_eq_true rfl)) (by have := cl none (some (m : Nat)); show _ + 1 ≤ 1000; omega))
          (DE.sl (DE.var rfl hrow5) (DPt.some (K := K) (DE.op0 (k := (m : Nat) + 1) (DE.var rfl (.int _)) DE.int rfl)) DPt.none) (by have := cl none (some (m : Nat)); have := cl (some ((m : Nat) + 1)) none; rw [List.length_append]; show _ + 1 + _ ≤ 1000; omega))
        (by rw [List.length_append, oddB_len]; show 15 + _ + r.length ≤ 1000; omega)) u5 p5 hp5 fun H6 G6 l6 x6 s6 g6 u6 p6 hp6 e6 d6 => ?_
      refine ⟨some x, l6, x6, G6, rfl, s5.trans s6, g5.trans g6, u6, p6, hp6, e6, ?_⟩
      rw [take_next ebd, List.flatMap_append, List.flatMap_singleton, ← List.append_assoc]
      exact d6
    · rintro σ H5 ⟨n4, l, ys, G5, rfl, s5, g5, u5, p5, hp5, el, dl⟩
      rw [hbx.leng, List.take_length] at dl
      have s05 := s03.trans (s4.trans s5)
      have g05 := g03.trans (g4.trans g5)
      have hrow5 := hrow.on g05
      have fl : ((bads wi).flatMap (oddB r)).length ≤ 27 := by
        rw [oddB_flat]
        have : (bads wi).length * r.length ≤ 9 * 3 := Nat.mul_le_mul (Nat.le_refl 9) n3
        omega
      have last : ∀ (H6 G6 : Hp) (l6 : Addr) (x6 : List V) (σ : L2.St), σ[0]? = some (some (.ref t)) → σ[1]? = some (some (.int wi)) → σ[2]? = some (some (.int (r.length : Nat))) → σ[3]? = some (some (.ref l6)) → Same H5 H6 → Same G5 G6 → Same G6 H6 → G6 p = none → H6 p ≠ none → G6 l6 = some (.lst x6) →
          DpAll K G6 x6 ((((odd1 wi r ++ odd2 r) ++ odd3 r) ++ (bads wi).flatMap (oddB r)) ++ odd4 r) → tOp rCat (tVar 3) (tLst (tCons (tOp (rCatA K) (tSl (rSlA K) (tVar 0) tNoPart (tPart (tUn (rU fun i => .int (-i)) (tC (.int 1))))) (tTup (tCons (tC (.bl false)) tNil)))
            (tCons (tOp (rCatA K) (tOp (rCatA K) (tTup (tCons (tOp (rIxT K) (tVar 0) (tC (.int 0))) tNil)) (tOp (rRepA K) (tTup (tCons (tVar 1) tNil)) (tOp (rI0 fun i j => .int (i - j)) (tVar 2) (tC (.int 1))))) (tTup (tCons (tC (.int 0)) tNil))) tNil))) σ H6 Q := by
        intro H6 G6 l6 x6 σ g0 g1 g2 g3 s6 gg6 u6 p6 hp6 e6 d6
        have hrow6 := hrow5.on gg6
        obtain ⟨r0, hr0⟩ : ∃ r0, r.head? = some r0 := by
          cases r with
          | nil => exact absurd n1 (by simp)
          | cons a b => exact ⟨a, rfl⟩
        have hr0' : (r.map PyData.int)[0]? = some ((r.map PyData.int).headD .none) := by
          cases r with
          | nil => cases hr0
          | cons a b => rfl
        refine DL.runG (K := K) (p := p) (ds := oddD wi r) (DL.cat (DL.var g3 e6 d6) (DL.lst (DAs.cons (DE.cat (DE.sl (DE.var g0 hrow6) DPt.none (DPt.some (K := K) (DE.neg DE.int))) (DE.tup (DAs.cons DE.bl DAs.nil) (Nat.le_of_ble_eq_true rfl)) (by have := cl none (some (-1)); show _ + 1 ≤ 1000; omega))
          (DAs.cons (DE.cat (DE.cat (DE.tup (DAs.cons (DE.ix (i := 0) (DE.var g0 hrow6) DE.int hr0') DAs.nil) (Nat.le_of_ble_eq_true rfl)) (DE.rep (k := ((r.length - 1 : Nat) : Int)) (DE.tup (DAs.cons (DE.var g1 (.int wi)) DAs.nil) (Nat.le_of_ble_eq_true rfl)) (DE.op0 (DE.var g2 (.int _)) DE.int (by show V.int ((r.length : Int) - 1) = V.int ((r.length - 1 : Nat) : Int); congr 1; omega)) (by simp) (by omega) (by omega) (Nat.le_of_ble_eq_true rfl))
            (by rw [repf_len]; show 1 + (r.length - 1) * 1 ≤ 1000; omega)) (DE.tup (DAs.cons DE.int DAs.nil) (Nat.le_of_ble_eq_true rfl))
            (by rw [List.length_append, repf_len]; show 1 + (r.length - 1) * 1 + 1 ≤ 1000; omega)) DAs.nil)) (Nat.le_of_ble_eq_true rfl)) ?_) u6 p6 hp6 fun H7 G7 l7 x7 s7 g7 u7 p7 hp7 e7 d7 => ?_
        · rw [List.length_append, List.length_append]
          have : (odd4 r).length ≤ 2 := by
            unfold odd4
            split
            · exact Nat.le_refl _
            · exact Nat.zero_le _
          show 15 + _ + _ + 2 ≤ 1000
          omega
        · exact q _ G7 l7 x7 ((s05.trans s6).trans s7) ((g05.trans gg6).trans g7) u7 p7 e7 d7
      refine ⟨_, rfl, _, _, rfl, rfl, _, rfl, ?_⟩
      refine ite2 (fun c => ?_) (fun c => ?_)
      · have c' : 1 < r.length := by have := of_decide_eq_true c; omega
        dsimp only [tSeq, tAsg, gName, tRet]
        refine DL.runG (K := K) (p := p) (ds := (((odd1 wi r ++ odd2 r) ++ odd3 r) ++ (bads wi).flatMap (oddB r)) ++ odd4 r) ?_ u5 p5 hp5 fun H6 G6 l6 x6 s6 g6 u6 p6 hp6 e6 d6 => last H6 G6 l6 x6 _ rfl rfl rfl rfl s6 g6 u6 p6 hp6 e6 d6
        rw [odd4, if_pos c']
        refine DL.cat (DL.var rfl el dl) (DL.lst (DAs.cons (DE.sl (DE.var rfl hrow5) DPt.none (DPt.some (K := K) (DE.neg DE.int))) (DAs.cons (DE.sl (DE.var rfl hrow5) (DPt.some (K := K) DE.int) DPt.none) DAs.nil)) (Nat.le_of_ble_eq_true rfl)) ?_
        rw [List.length_append]
        show 15 + _ + 2 ≤ 1000
        omega
      · have c' : ¬ 1 < r.length := fun z => c (decide_eq_true (by omega))
        refine last H5 G5 l ys _ rfl rfl rfl rfl (Same.refl _) (Same.refl _) u5 p5 hp5 el ?_
        rw [odd4, if_neg c', List.append_nil]
        exact dl
end
end Law
set_option Elab.async false
set_option linter.all false
set_option maxRecDepth 100000
set_option maxHeartbeats 8000000
namespace Law
open PySem PySem.Spec PyProof.Rows L2 PySem.NearX
abbrev sRight : Stmt := top 27
/-! ### data that may stand in a list whose text is asked -/
structure Fine (d : PyData) : Prop where
  s : d.showable = true
  n : d.hasDict = false
  h : SeqAt.shaped d = true
  l : d.leavesShort 40 = true
  w : d.weight ≤ 400
  p : d.depth ≤ 10
theorem fine_of {d : PyData} (h : (d.showable && !d.hasDict && SeqAt.shaped d && d.leavesShort 40 && decide (d.weight ≤ 400) && decide (d.depth ≤ 10)) = true) : Fine d := by
  simp only [Bool.and_eq_true, Bool.not_eq_true', decide_eq_true_eq] at h
  exact ⟨h.1.1.1.1.1, h.1.1.1.1.2, h.1.1.1.2, h.1.1.2, h.1.2, h.2⟩
theorem fine_all : ∀ {ds : List PyData}, (∀ d ∈ ds, Fine d) → PyData.showableAll ds = true ∧ PyData.hasDictAll ds = false ∧ PyData.canLayAll0 ds = true ∧ PyData.leavesShortAll 40 ds = true ∧ PyData.weightAll ds ≤ 401 * ds.length ∧ PyData.depthAll ds ≤ 10
  | [], _ => by refine ⟨?_, ?_, ?_, ?_, ?_, ?_⟩ <;> simp [PyData.showableAll, PyData.hasDictAll, PyData.canLayAll0, PyData.leavesShortAll, PyData.weightAll, PyData.depthAll]
  | d :: ds, h => by
    obtain ⟨a, b, c, e, f, g⟩ := fine_all (ds := ds) fun x hx => h x (List.mem_cons_of_mem _ hx)
    have k := h d (List.mem_cons_self ..)
    have kc := SeqAt.canLay_of_shaped k.h
    have kw := k.w
    have kp := k.p
    refine ⟨?_, ?_, ?_, ?_, ?_, ?_⟩
    · simp [PyData.showableAll, a, k.s]
    · simp [PyData.hasDictAll, b, k.n]
    · simp [PyData.canLayAll0, c, kc]
    · simp [PyData.leavesShortAll, e, k.l]
    · simp only [PyData.weightAll, List.length_cons]
      omega
    · simp only [PyData.depthAll]
      omega
theorem fine_list {ds : List PyData} (h : ∀ d ∈ ds, Fine d) (hn : ds.length ≤ 120) : PyData.showable (.list ds) = true ∧ PyData.hasDict (.list ds) = false ∧ (PyData.shown (.list ds)).length ≤ sizeLine ∧ PyData.depth (.list ds) ≤ 60 ∧ SeqAt.shaped (.list ds) = true := by
  obtain ⟨a, b, c, e, f, g⟩ := fine_all h
  have hd : PyData.depth (.list ds) ≤ 60 := by
    simp only [PyData.depth]
    omega
  refine ⟨by simpa [PyData.showable] using a, by simpa [PyData.hasDict] using b, ?_, hd, ?_⟩
  · have := PyData.shown_le 40 (by decide) (.list ds) (by simpa [PyData.leavesShort] using e)
    have hw : PyData.weight (.list ds) ≤ 401 * 120 := by
      simp only [PyData.weight]
      omega
    rw [sizeLine_eq]
    omega
  · show (PyData.canLay0 (.list ds) && decide (PyData.depth (.list ds) ≤ 64)) = true
    rw [Bool.and_eq_true]
    exact ⟨by simp only [PyData.canLay0]; exact c, decide_eq_true (by omega)⟩
theorem row_facts {w a : Int} {r : List Int} (w1 : 1 ≤ w) (w3 : w ≤ 3) (a1 : 1 ≤ a) (a3 : a ≤ 3) (h : RowOk w a r) : Fine (rowD r) ∧ isRow w a (rowD r) = true := by
  have h1 := List.all_eq_true.mp rows_fine w (by
    have : w = 1 ∨ w = 2 ∨ w = 3 := by omega
    rcases this with rfl | rfl | rfl <;> decide)
  have h2 := List.all_eq_true.mp h1 r.length (by
    have := h.1
    have : r.length = 1 ∨ r.length = 2 ∨ r.length = 3 := by omega
    rcases this with e | e | e <;> rw [e] <;> decide)
  have h3 := List.all_eq_true.mp h2 r (row_in _ r rfl h.2)
  rw [Bool.and_eq_true] at h3
  refine ⟨fine_of h3.1, ?_⟩
  have := h3.2
  rw [h.1] at this
  exact this
theorem rowInts_rowD (r : List Int) : rowInts (rowD r) = r := by
  show (r.map PyData.int).map intOf = r
  rw [List.map_map]
  exact (List.map_congr_left fun _ _ => rfl).trans (List.map_id _)
theorem all_ok {w : Int} : ∀ (n : Nat) (r : List Int), r ∈ allRows w n → ∀ m ∈ r, 0 ≤ m ∧ m < w
  | 0, r, h, m, hm => by
    rw [List.mem_singleton.mp h] at hm
    cases hm
  | n + 1, r, h, m, hm => by
    obtain ⟨y, hy, hx⟩ := List.mem_flatMap.mp h
    obtain ⟨v, hv, rfl⟩ := List.mem_map.mp hx
    rcases List.mem_append.mp hm with hm | hm
    · exact all_ok n y hy m hm
    · rw [List.mem_singleton.mp hm]
      have := List.mem_range.mp hv
      omega
/-! ### ascending rows, each once: there is one such list -/
theorem code_bd {B : Int} (hB : 1 ≤ B) : ∀ (r : List Int), (∀ m ∈ r, 0 ≤ m ∧ m < B) → 0 ≤ TS.code B r ∧ TS.code B r < B ^ r.length
  | [], _ => ⟨Int.le_refl 0, by show (0 : Int) < B ^ 0; rw [Int.pow_zero]; decide⟩
  | d :: r, h => by
    obtain ⟨c0, c1⟩ := code_bd hB r fun m hm => h m (List.mem_cons_of_mem _ hm)
    obtain ⟨d0, d1⟩ := h d (List.mem_cons_self ..)
    have := TS.num1 c0 c1 d0 d1
    show 0 ≤ d * B ^ r.length + TS.code B r ∧ d * B ^ r.length + TS.code B r < B ^ (r.length + 1)
    rw [Int.pow_succ]
    exact this
theorem code_inj {B : Int} (hB : 1 ≤ B) : ∀ (r s : List Int), r.length = s.length → (∀ m ∈ r, 0 ≤ m ∧ m < B) → (∀ m ∈ s, 0 ≤ m ∧ m < B) → TS.code B r = TS.code B s → r = s
  | [], [], _, _, _, _ => rfl
  | [], _ :: _, h, _, _, _ => by cases h
  | _ :: _, [], h, _, _, _ => by cases h
  | x :: r, y :: s, hl, hr, hs, e => by
    have hl' : r.length = s.length := by simpa using hl
    obtain ⟨c0, c1⟩ := code_bd hB r fun m hm => hr m (List.mem_cons_of_mem _ hm)
    obtain ⟨f0, f1⟩ := code_bd hB s fun m hm => hs m (List.mem_cons_of_mem _ hm)
    have e' : x * B ^ r.length + TS.code B r = y * B ^ r.length + TS.code B s := by
      have : x * B ^ r.length + TS.code B r = y * B ^ s.length + TS.code B s := e
      rw [← hl'] at this
      exact this
    rw [← hl'] at f1
    have hxy : x = y := by
      rcases Int.lt_trichotomy x y with h | h | h
      · have : (x + 1) * B ^ r.length ≤ y * B ^ r.length := Int.mul_le_mul_of_nonneg_right (by omega) (by omega)
        rw [Int.add_mul, Int.one_mul] at this
        omega
      · exact h
      · have : (y + 1) * B ^ r.length ≤ x * B ^ r.length := Int.mul_le_mul_of_nonneg_right (by omega) (by omega)
        rw [Int.add_mul, Int.one_mul] at this
        omega
    subst hxy
    rw [code_inj hB r s hl' (fun m hm => hr m (List.mem_cons_of_mem _ hm)) (fun m hm => hs m (List.mem_cons_of_mem _ hm)) (by omega)]
theorem Canon.uniq {B a : Int} {rows rows' ns ns' : List (List Int)} (hB : 1 ≤ B) (h : Canon B rows ns) (h' : Canon B rows' ns') (he : ∀ x, x ∈ rows ↔ x ∈ rows') (ok : RowsOk B a rows) : ns = ns' := by
  have pm : ns.Perm ns' := (List.perm_ext_iff_of_nodup h.nd h'.nd).mpr fun x => by rw [h.mem, h'.mem, he]
  refine List.Perm.eq_of_pairwise (fun x y hx hy l1 l2 => ?_) h.srt h'.srt pm
  have ox := ok x ((h.mem x).mp hx)
  have oy := ok y ((he y).mpr ((h'.mem y).mp hy))
  exact code_inj hB x y (by have := ox.1; have := oy.1; omega) ox.2 oy.2 (by omega)
theorem nodup_le : ∀ (l m : List (List Int)), l.Nodup → (∀ x ∈ l, x ∈ m) → l.length ≤ m.length
  | [], _, _, _ => Nat.zero_le _
  | x :: l, m, h, hs => by
    have hn := List.nodup_cons.mp h
    have hx := hs x (List.mem_cons_self ..)
    have := nodup_le l (m.erase x) hn.2 fun y hy => (List.mem_erase_of_ne fun z => hn.1 (by rw [← z]; exact hy)).mpr (hs y (List.mem_cons_of_mem _ hy))
    rw [List.length_erase_of_mem hx] at this
    have := List.length_pos_of_mem hx
    rw [List.length_cons]
    omega
theorem Canon.len {B : Int} {rows ns : List (List Int)} (h : Canon B rows ns) : ns.length ≤ rows.length := nodup_le _ _ h.nd fun x hx => (h.mem x).mp hx
end Law
set_option Elab.async false
set_option linter.all false
set_option maxRecDepth 100000
set_option maxHeartbeats 8000000
namespace Law
open PySem PySem.Spec PyProof.Rows L2 PySem.NearX
def spRight (K : PySem.W.Frag) (C : Addr) : Sp := fun vs H Q _ => ∃ (t l : Addr) (w a : Int) (rows ns : List (List Int)), vs = [.ref t, .int w, .int a, .ref l] ∧ Tab K C H t w a ns ∧ Told K H l rows ∧ RowsOk w a rows ∧ rows.length < 64 ∧ Canon w rows ns ∧
  ∀ H', Same H H' → Q (.bl true) H'
section
variable {P : Program} {w : World} {K : PySem.W.Frag} {mg : Str → Option Value} {base : Heap}
def NT : List Str := ["table", "width", "arity", "rows", "due", "told", "row"]
theorem scRight : FnScope NT ["table", "width", "arity", "rows"] (defScope sRight) := ⟨rfl, rfl, rfl, by decide +kernel, rfl, by decide +kernel, by decide +kernel⟩
theorem ok_right {f fAll fRows fLen fHas C pR : Addr} {fd dAll dRows dLen dHas : FuncData} (F : Fun K "_law_table_right" "_law_table_right" sRight f fd) (T : Blt mg) (TK : TabK K C)
    (GA : FnOk P w K mg base CX0 1 fAll dAll ["width", "length"] (spAll K)) (cA : Cal K mg "_law_all" ["width", "length"] fAll dAll)
    (GR : FnOk P w K mg base CX0 1 fRows dRows ["self"] (spRows K C)) (PR : PropOf K C "rows" pR fRows) (bR : Binds K dRows ["self"] [])
    (GL : FnOk P w K mg base CX0 1 fLen dLen ["self"] (spLen K C)) (hL : Has K C "__len__" fLen dLen ["self"])
    (GH : FnOk P w K mg base CX0 4 fHas dHas ["self", "row"] (spHas K C)) (hH : Has K C "__contains__" fHas dHas ["self", "row"]) :
    FnG P w K mg base CX0 6 f fd ["table", "width", "arity", "rows"] (spRight K C) := by
  refine F.okG scRight (fun vs H Q E h => ?_) (fun cdv A outer s H vs Q E hg hr h => ?_)
  · obtain ⟨t, l, wi, a, rows, ns, rfl, _⟩ := h
    rfl
  · obtain ⟨t, l, wi, a, rows, ns, rfl, hT, tl, ok, h64, cn, q⟩ := h
    have hu := hr.un
    have rp : CallR (cxOf CX0 P w K mg base NT "_law_table_right" (defScope sRight) f cdv A outer s H E).nox (.builtin "repr") (rRepr K) := call_reprD hg (by show (A.deeper _).units + 64 < cLine; omega)
    have hr2 : Room 2 (A.deeper (envOfC "_law_table_right" (defScope sRight) s.heap.objs.size f cdv)) := hr.mono (by decide)
    have hr1 : Room 1 (A.deeper (envOfC "_law_table_right" (defScope sRight) s.heap.objs.size f cdv)) := hr.mono (by decide)
    have hr4 : Room 4 (A.deeper (envOfC "_law_table_right" (defScope sRight) s.heap.objs.size f cdv)) := hr.mono (by decide)
    have oI : OpR (cxOf CX0 P w K mg base NT "_law_table_right" (defScope sRight) f cdv A outer s H E).nox (compareOp .In) (rInO C (spHas K C) E0 id) := op_inO GH hr4 hH pass0 fun vs H Q Q' hq ⟨t, w, a, ns, v, d, e, hT, hd, q⟩ => ⟨t, w, a, ns, v, d, e, hT, hd, fun H' s => hq _ _ (q H' s)⟩
    refine ⟨_, pss_cons (ps_set (i := 4) scRight.nd rfl (Or.inl rfl) (pe_callB (cr_sortedT rfl) (by rfl) T.sorted PyProof.Rows.boot_sorted (pa_cons (pe_callTy (cr_setOfT rfl (by show (A.deeper _).units + 64 < cLine; omega)) (by rfl) T.set PyProof.Rows.boot_set (pa_cons (pv 3) pa_nil)) pa_nil)))
      (pss_cons (ps_set (i := 5) scRight.nd rfl (Or.inl rfl) (pe_prop (E := E0) (pv 0) TK.cls PR GR hr2 bR .nil pass0 rfl))
      (pss_cons (ps_if (PW.pt (pw_or (pt_not (pt_val (pe_callB is_list (by rfl) T.isinstance boot_isi (pa_cons (pv 5) (pa_cons (pe_bltn (v := .ty "list") (by rfl) T.list Law.boot_list rfl) pa_nil)))))
          (pw_or (pt_cmpR op_ne (pe_callB rp (by rfl) T.repr PyProof.Rows.boot_repr (pa_cons (pv 5) pa_nil)) (pe_callB rp (by rfl) T.repr PyProof.Rows.boot_repr (pa_cons (pv 4) pa_nil)) (nomark _))
          (pw_or1 (pt_cmpR op_ne (pe_callB (call_lenO (E := E0) GL hr2 hL pass0) (by rfl) T.len PySem.boot_len (pa_cons (pv 0) pa_nil)) (pe_callB call_len_seq (by rfl) T.len PySem.boot_len (pa_cons (pv 4) pa_nil)) (nomark _)))))) (pss_one (ps_ret pe_bl)) pss_nil)
      (pss_cons (ps_if (PW.pt (pw_or (pt_cmpR op_ne (pe_fld (pv 0) rfl) (pv 1) (nomark _)) (pw_or1 (pt_cmpR op_ne (pe_fld (pv 0) rfl) (pv 2) (nomark _))))) (pss_one (ps_ret pe_bl)) pss_nil)
      (pss_cons (ps_expr (pe_bm PySem.F.plainAttrs_list PySem.F.slot_list_append PySem.F.type_list_append mt_append (pv 5) (pa_cons pe_non pa_nil)))
      (pss_cons (ps_expr (pe_bm0 PySem.F.plainAttrs_list PySem.F.slot_list_reverse PySem.F.type_list_reverse mt_reverse (pv 5)))
      (pss_cons (ps_for PassesOwn.never rfl (pi_list (pe_call GA hr1 rfl cA.g cA.k cA.b .nil pass0 (pa_cons (pv 1) (pa_cons (pv 2) pa_nil)))) (pg_name (i := 6) scRight.nd rfl (Or.inl rfl))
        (pss_one (ps_if (pt_cmpR op_ne (pe_cmpR oI (pv 6) (pv 0) rfl) (pe_cmpR (op_inD (by show (A.deeper _).units + 65 < cLine; omega)) (pv 6) (pv 4) rfl) (nomark _)) (pss_one (ps_ret pe_bl)) pss_nil)))
      (pss_one (ps_ret (pe_cmpR op_eq (pe_callB rp (by rfl) T.repr PyProof.Rows.boot_repr (pa_cons (pe_prop (E := E0) (pv 0) TK.cls PR GR hr2 bR .nil pass0 rfl) pa_nil)) (pe_callB rp (by rfl) T.repr PyProof.Rows.boot_repr (pa_cons (pv 4) pa_nil)) (nomark _)))))))))), ?_⟩
    -- due
    obtain ⟨w1, w3, a1, a3⟩ : 1 ≤ wi ∧ wi ≤ 3 ∧ 1 ≤ a ∧ a ≤ 3 := ⟨hT.w1, hT.w3, hT.a1, hT.a3⟩
    obtain ⟨n, rfl⟩ : ∃ n : Nat, a = (n : Int) := ⟨a.toNat, by omega⟩
    obtain ⟨ks, el, tk, ek⟩ := id tl
    have lks : ks.length = rows.length := by rw [← ek, List.length_map]
    have okk : ∀ p ∈ ks, RowOk wi n p.2 := fun p hp => ok p.2 (by rw [← ek]; exact List.mem_map.mpr ⟨p, hp, rfl⟩)
    refine ⟨_, rfl, l, ks, rfl, SqL.of el, tk, by omega, fun S L nS m1 m2 => ?_⟩
    have sS := same_new (o := SetTO P w S L) nS
    refine ⟨S, L, n, wi, rfl, upd_same, fun p hp => (tk p (m1 p hp)).on sS, by omega, fun p hp => ⟨by have := (okk p (m1 p hp)).1; omega, (okk p (m1 p hp)).2⟩, fun L' u pm nd hl ps nu => ?_⟩
    have s1 := Law.Same.new (o := .lst (L'.map fun q => V.ref q.1)) sS nu
    have tU : Told K (upd (upd H S (SetTO P w S L)) u (.lst (L'.map fun q => V.ref q.1))) u (L'.map (·.2)) := ⟨L', upd_same, fun q hq => (tk q (m1 q (pm.mem_iff.mp hq))).on s1, rfl⟩
    have cU : Canon wi rows (L'.map (·.2)) := by
      refine ⟨nd, List.pairwise_map.mpr ps, fun x => ⟨fun hx => ?_, fun hx => ?_⟩⟩
      · obtain ⟨q, hq, rfl⟩ := List.mem_map.mp hx
        rw [← ek]
        exact List.mem_map.mpr ⟨q, m1 q (pm.mem_iff.mp hq), rfl⟩
      · rw [← ek] at hx
        obtain ⟨q, hq, rfl⟩ := List.mem_map.mp hx
        obtain ⟨q', hq', e⟩ := List.mem_map.mp (m2 q hq)
        exact List.mem_map.mpr ⟨q', pm.mem_iff.mpr hq', e⟩
    have eU := Canon.uniq w1 cn cU (fun _ => Iff.rfl) ok
    rw [← eU] at tU
    have hn : ns.length < 64 := Nat.lt_of_le_of_lt cn.len h64
    obtain ⟨f1, f2, f3, f4, _⟩ := fine_list (ds := ns.map rowD) (fun d hd => by
      obtain ⟨x, hx, rfl⟩ := List.mem_map.mp hd
      exact (row_facts w1 w3 a1 a3 (ok x ((cn.mem x).mp hx))).1) (by rw [List.length_map]; omega)
    have hT1 := hT.on s1
    obtain ⟨⟨dx, lr, eT, tlr⟩, _⟩ := id hT1
    -- told
    refine ⟨_, rfl, t, dx, _, rfl, eT, t, wi, n, ns, rfl, hT1, fun H2 p s2 np tP => ?_⟩
    have tU2 := tU.on s2
    have hT2 := hT1.on s2
    obtain ⟨⟨dx2, lr2, eT2, tlr2⟩, _⟩ := id hT2
    obtain ⟨X5, eX5, tX5, eX5n⟩ := id tP
    obtain ⟨X4, eX4, tX4, eX4n⟩ := id tU2
    refine ⟨_, rfl, .ref p, _, rfl, tP.dp, _, rfl, iteF ?_⟩
    refine ⟨_, rfl, .ref p, _, rfl, tP.dp, f1, f2, f3, f4, _, rfl, .ref u, _, rfl, tU2.dp, f1, f2, f3, f4, rfl, _, rfl, ?_⟩
    refine ifNot (decide_eq_true rfl) ?_
    refine ⟨_, rfl, t, dx2, _, rfl, eT2, t, wi, n, ns, rfl, hT2, ns.length, rfl, small3 (by omega), ?_⟩
    refine ⟨_, rfl, u, _, rfl, .inl (SqL.of eX4), rfl, _, rfl, ?_⟩
    have lx4 : (X4.map fun q => V.ref q.1).length = ns.length := by rw [List.length_map, ← eX4n, List.length_map]
    refine ifNot (decide_eq_true (by rw [lx4])) ?_
    -- width, arity
    refine ⟨_, rfl, t, C, dx2, _, .int wi, rfl, eT2, TK.cls, TK.nw, rfl, _, rfl, rfl, _, rfl, ifNot (decide_eq_true rfl) ?_⟩
    refine ⟨_, rfl, t, C, dx2, _, .int n, rfl, eT2, TK.cls, TK.na, rfl, _, rfl, rfl, _, rfl, ifNot (decide_eq_true rfl) ?_⟩
    -- told is changed
    have lx5 : (X5.map fun q => V.ref q.1).length = ns.length := by rw [List.length_map, ← eX5n, List.length_map]
    refine ⟨_, rfl, .inl ⟨rfl, _, SqL.of eX5⟩, p, _, .non, rfl, rfl, eX5, small1000 (by rw [lx5]; omega), ?_⟩
    refine ⟨_, rfl, .inl ⟨rfl, _, SqL.of upd_same⟩, p, _, rfl, rfl, upd_same, ?_⟩
    have s4 : Same H (upd (upd H2 p (.lst ((X5.map fun q : Addr × List Int => V.ref q.1) ++ [V.non]))) p (.lst ((X5.map fun q : Addr × List Int => V.ref q.1) ++ [V.non]).reverse)) := fun b o e => by
      have e1 := s1 b o e
      rw [upd_ne (ne_of_none e1 np), upd_ne (ne_of_none e1 np)]
      exact s2 b o e1
    have hT4 := hT.on s4
    have tU4 : Told K (upd (upd H2 p (.lst ((X5.map fun q : Addr × List Int => V.ref q.1) ++ [V.non]))) p (.lst ((X5.map fun q : Addr × List Int => V.ref q.1) ++ [V.non]).reverse)) u ns := tU.on fun b o e1 => by
      rw [upd_ne (ne_of_none e1 np), upd_ne (ne_of_none e1 np)]
      exact s2 b o e1
    refine ⟨_, rfl, _, rfl, wi, n, rfl, w1, w3, by omega, fun H3 g s3 tg => ?_⟩
    obtain ⟨G, eG, tG, eGn⟩ := id tg
    refine ⟨g, rfl, ⟨_, SqL.of eG⟩, for_list (K := K) (a := g) (xs := G.map fun q => V.ref q.1) (fun j σ H' => ∃ n6, σ = [some (.ref t), some (.int wi), some (.int n), some (.ref l), some (.ref u), some (.ref p), n6] ∧ Same H3 H') ⟨none, rfl, Same.refl _⟩ (fun j σ H' _ ⟨_, _, s5⟩ => SqL.of (s5 _ _ eG)) ?_ ?_⟩
    · rintro j x σ H4 hx ⟨n6, rfl, s5⟩
      rw [List.getElem?_map] at hx
      obtain ⟨q0, hq0, rfl⟩ := Option.map_eq_some_iff.mp hx
      have hq := List.mem_of_getElem? hq0
      have hin : q0.2 ∈ allRows wi n := by rw [← eGn]; exact List.mem_map.mpr ⟨q0, hq, rfl⟩
      have hok : RowOk wi n q0.2 := ⟨by rw [all_mem wi n _ hin], all_ok n _ hin⟩
      have hD : Dp K H4 (.ref q0.1) (rowD q0.2) := dpRow ((tG q0 hq).on s5)
      have hT5 := (hT4.on s3).on s5
      have tU5 := (tU4.on s3).on s5
      obtain ⟨⟨dx5, lr5, eT5, _⟩, _⟩ := id hT5
      refine ⟨_, rfl, _, rfl, t, dx5, _, rfl, eT5, t, wi, n, ns, _, rowD q0.2, rfl, hT5, hD, fun H6 s6 => ⟨_, rfl, ?_⟩⟩
      refine ⟨_, rfl, _, rfl, rowD q0.2, ns.map rowD, hD.on s6, (tU5.on s6).dp, rowD_shaped _, rowsD_shaped _, rfl, _, rfl, ?_⟩
      rw [rowsD_any, (row_facts w1 w3 a1 a3 hok).2, Bool.true_and, rowInts_rowD]
      refine ifNot (decide_eq_true rfl) ?_
      exact ⟨_, rfl, s5.trans s6⟩
    · rintro σ H4 ⟨n6, rfl, s5⟩
      have hT5 := (hT4.on s3).on s5
      have tU5 := (tU4.on s3).on s5
      obtain ⟨⟨dx5, lr5, eT5, _⟩, _⟩ := id hT5
      refine ⟨_, rfl, t, dx5, _, rfl, eT5, t, wi, n, ns, rfl, hT5, fun H6 p6 s6 np6 tP6 => ?_⟩
      refine ⟨.ref p6, _, rfl, tP6.dp, f1, f2, f3, f4, _, rfl, .ref u, _, rfl, (tU5.on s6).dp, f1, f2, f3, f4, rfl, ?_⟩
      rw [show decide (V.str (PyData.shown (rowsD ns)) = V.str (PyData.shown (rowsD ns))) = true from decide_eq_true rfl]
      exact q _ (((s4.trans s3).trans s5).trans s6)
end
end Law
set_option Elab.async false
set_option linter.all false
set_option maxRecDepth 100000
set_option maxHeartbeats 8000000
namespace Law
open PySem PySem.Spec PyProof.Rows L2 PySem.NearX
abbrev sRef : Stmt := top 28
def badA : List PyData := [.int 0, .int 4, .int (-1), .bool true, .none, .str "2", .tuple [.int 2], .list [.int 2], .int (10 ^ 30)]
theorem badA_no : ∀ b ∈ badA, inB 1 3 b = false := by
  have : badA.all (fun b => !inB 1 3 b) = true := by decide +kernel
  intro b hb
  have := List.all_eq_true.mp this b hb
  simpa using this
def badL (rows : List (List Int)) : List PyData := [.none, .tuple (rows.map rowD), .str "rows", .int 0, .bool true, .tuple []]
theorem badL_no {w a : Int} {rows : List (List Int)} (hw : inB 1 3 (.int w) = true) (ha : inB 1 3 (.int a) = true) : ∀ b ∈ badL rows, badOf (.int w) (.int a) b = some (tagD "list" 0) ∧ ∀ ds, b ≠ .list ds := by
  intro b hb
  rw [badOf_r hw ha]
  simp only [badL, List.mem_cons, List.not_mem_nil, or_false] at hb
  rcases hb with rfl | rfl | rfl | rfl | rfl | rfl <;> exact ⟨rfl, fun ds z => nomatch z⟩
theorem inB_of {i : Int} (h1 : 1 ≤ i) (h3 : i ≤ 3) : inB 1 3 (.int i) = true := by
  show (decide (1 ≤ i) && decide (i ≤ 3)) = true
  rw [decide_eq_true h1, decide_eq_true h3]
  rfl
theorem find_at {α : Type} (p : α → Bool) : ∀ (A : List α) (d : α) (r : List α), (∀ x ∈ A, p x = false) → p d = true → (A ++ d :: r).findIdx? p = some A.length
  | [], d, r, _, h => by simp [List.findIdx?_cons, h]
  | a :: A, d, r, hA, h => by
    rw [List.cons_append, List.findIdx?_cons, hA a (List.mem_cons_self ..)]
    rw [find_at p A d r (fun x hx => hA x (List.mem_cons_of_mem _ hx)) h]
    rfl
theorem cut_lo (ds : List PyData) {k : Nat} (h : k ≤ ds.length) : L2.cutD ds none (some (k : Nat)) = ds.take k := by
  rw [L2.cutD, HT.sIx_nat, HT.sIx_none, List.drop_zero, Nat.min_eq_left h, Nat.sub_zero]
theorem cut_hi (ds : List PyData) {k : Nat} (h : k ≤ ds.length) : L2.cutD ds (some (k : Nat)) none = ds.drop k := by
  rw [L2.cutD, HT.sIx_nat, HT.sIx_none, Nat.min_eq_left h]
  exact List.take_of_length_le (by rw [List.length_drop]; omega)
section
variable {K : PySem.W.Frag} {σ : L2.St} {G H0 : Hp}
theorem made_test {t tt : TA} {dw da dr : PyData} {x : String} {n : Nat} {Q : Bool → Hp → Prop} (hd : DAs K t σ G [dw, da, dr]) (s : Same G H0) (h64 : ∀ ds, dr = .list ds → ds.length < 64) (hk : badOf dw da dr = some (tagD x n)) (ht : DAs K tt σ G [.str x, .int n])
    (hs : SeqAt.shaped (tagD x n) = true) (q : ∀ H', Same H0 H' → Q false H') : tTest (tOp (rNeD K) (tCall (spMade K) [] E0 t) (tTup tt)) σ H0 Q := by
  refine hd H0 _ s fun H1 vs s1 hv => ?_
  have hv := DpAll.on rs_le hv
  cases hv with
  | @cons v1 _ _ _ a1 hv =>
  cases hv with
  | @cons v2 _ _ _ a2 hv =>
  cases hv with
  | @cons v3 _ _ _ a3 hv =>
  cases hv
  refine ⟨v1, v2, v3, dw, da, dr, tagD x n, rfl, a1, a2, a3, h64, hk, fun H2 v s2 hv2 => ?_⟩
  refine ht H2 _ (s.trans (s1.trans s2)) fun H3 us s3 hus => ⟨by rw [hus.leng]; exact Nat.le_of_ble_eq_true rfl, fun p np => ?_⟩
  refine ⟨tagD x n, tagD x n, (hv2.on s3).on (same_new np), .tup (.inl (.inl upd_same)) ((DpAll.on rs_le hus).on (same_new np)), hs, hs, _, rfl, ?_⟩
  rw [SeqAt.eqv_refl _ (SeqAt.canLay_of_shaped hs)]
  exact q _ (((s1.trans s2).trans s3).trans (same_new np))
end
theorem tSeq_mk {σ : L2.St} {a b : TS} {D : Ends} {H : Hp} (h : a { D with nx := b D } σ H) : tSeq a b D σ H := h
theorem tAsg_mk {σ : L2.St} {te : TE} {g : TG} {D : Ends} {H : Hp} (h : te σ H fun x H1 => g x σ H1 D.nx) : tAsg te g D σ H := h
theorem for_DL {K : PySem.W.Frag} {σ : L2.St} {tl : TE} {g : TG} {tb : TS} {D : Ends} {H : Hp} {ds : List PyData} (h : DL K tl σ H ds) (k : ∀ H' l xs, Same H H' → H' l = some (.lst xs) → DpAll K H' xs ds → ∃ W : Nat → Nat → L2.St → Hp → Prop, (∃ m, W 0 m σ H') ∧ ∀ i m σ H, W i m σ H →
    (((Itl K l).stop i H ∧ D.nx σ H) ∨ ((Itl K l).go i H ∧ ∃ N : L2.St → Hp → Prop, (∀ σ' H', N σ' H' → ∃ m', m' < m ∧ W (i + 1) m' σ' H') ∧ ∀ x H', (Itl K l).yld i H x H' → g x σ H' fun σ2 H2 => tb { D with nx := N, ct := N, bk := D.nx } σ2 H2))) :
    tFor (iList K tl) g tb D σ H := DL.run h fun H' l xs s e d => ⟨l, rfl, ⟨xs, .inl (.inl e)⟩, k H' l xs s e d⟩
theorem tOp_mk {σ : L2.St} {r : R2} {ta tb : TE} {H : Hp} {Q : VK} (h : ta σ H fun x H1 => tb σ H1 fun y H2 => r x y H2 Q) : tOp r ta tb σ H Q := h
theorem odd_fact {w a : Int} {r : List Int} (w1 : 1 ≤ w) (w3 : w ≤ 3) (a1 : 1 ≤ a) (a3 : a ≤ 3) (ro : RowOk w a r) (d : PyData) (hd : d ∈ oddD w r) : Fine d ∧ isRow w a d = false := by
  have h := List.all_eq_true.mp (odd_ok w1 w3 a1 a3 ro).1 d hd
  simp only [Bool.and_eq_true, Bool.not_eq_true', decide_eq_true_eq] at h
  rw [ro.1] at h
  exact ⟨⟨h.1.1.1.1.1.2, h.1.1.1.1.2, h.1.1.1.2, h.1.1.2, h.1.2, h.2⟩, h.1.1.1.1.1.1⟩
def spRef (K : PySem.W.Frag) : Sp := fun vs H Q _ => ∃ (p l : Addr) (w a : Int) (rows : List (List Int)), vs = [.ref p, .int w, .int a, .ref l] ∧ FeedAt H p ∧ 1 ≤ w ∧ w ≤ 3 ∧ 1 ≤ a ∧ a ≤ 3 ∧ Told K H l rows ∧ RowsOk w a rows ∧ rows.length ≤ 40 ∧
  ∀ H', But H H' p → FeedAt H' p → Q (.bl true) H'
section
variable {P : Program} {w : World} {K : PySem.W.Frag} {mg : Str → Option Value} {base : Heap}
def NR : List Str := ["feed", "width", "arity", "rows", "bad", "row", "one", "at", "wrong", "shown"]
theorem scRef : FnScope NR ["feed", "width", "arity", "rows"] (defScope sRef) := ⟨rfl, rfl, rfl, by decide +kernel, rfl, by decide +kernel, by decide +kernel⟩
theorem ok_ref {f fM fD fO fT fP : Addr} {fd dM dD dO dT dP : FuncData} (F : Fun K "_law_refused_right" "_law_refused_right" sRef f fd) (T : Blt mg)
    (GM : FnOk P w K mg base CX0 6 fM dM ["width", "arity", "rows"] (spMade K)) (cM : Cal K mg "_law_made" ["width", "arity", "rows"] fM dM)
    (GD : FnOk P w K mg base CX0 2 fD dD ["feed", "width", "arity"] (spDRow K)) (cD : Cal K mg "_law_drawn_row" ["feed", "width", "arity"] fD dD)
    (GO : FnOk P w K mg base CX0 1 fO dO ["row", "width"] (spOdd K)) (cO : Cal K mg "_law_odd_rows" ["row", "width"] fO dO)
    (GT : FnOk P w K mg base CX0 1 fT dT ["feed", "many"] spTake) (cT : Cal K mg "_law_take" ["feed", "many"] fT dT)
    (GP : FnOk P w K mg base CX0 2 fP dP ["feed", "some"] (spPick K)) (cP : Cal K mg "_law_pick" ["feed", "some"] fP dP) :
    FnG P w K mg base CX0 7 f fd ["feed", "width", "arity", "rows"] (spRef K) := by
  refine F.okG scRef (fun vs H Q E h => ?_) (fun cdv A outer s H vs Q E hg hr h => ?_)
  · obtain ⟨p, l, wi, a, rows, rfl, _⟩ := h
    rfl
  · obtain ⟨p, l, wi, a, rows, rfl, hp, w1, w3, a1, a3, tl, ok, h40, q⟩ := h
    have hu := hr.un
    have rp : CallR (cxOf CX0 P w K mg base NR "_law_refused_right" (defScope sRef) f cdv A outer s H E).nox (.builtin "repr") (rRepr K) := call_reprD hg (by show (A.deeper _).units + 64 < cLine; omega)
    have oN : OpR (cxOf CX0 P w K mg base NR "_law_refused_right" (defScope sRef) f cdv A outer s H E).nox (compareOp .NotEq) (rNeD K) := op_neD (by show (A.deeper _).units + 64 < cLine; omega)
    have sL : SlR (cxOf CX0 P w K mg base NR "_law_refused_right" (defScope sRef) f cdv A outer s H E).nox (rSlL K) := sl_list
    have hr2 : Room 2 (A.deeper (envOfC "_law_refused_right" (defScope sRef) s.heap.objs.size f cdv)) := hr.mono (by decide)
    have hr1 : Room 1 (A.deeper (envOfC "_law_refused_right" (defScope sRef) s.heap.objs.size f cdv)) := hr.mono (by decide)
    refine ⟨_, pss_cons (ps_for PassesOwn.never rfl (pi_list (pe_lst (pa_cons pe_int (pa_cons pe_int (pa_cons (pe_un un_neg pe_int) (pa_cons pe_bl (pa_cons pe_non (pa_cons pe_str (pa_cons (pe_tup (pa_cons pe_int pa_nil)) (pa_cons (pe_lst (pa_cons pe_int pa_nil)) (pa_cons (pe_op op_pow pe_int pe_int) pa_nil))))))))))) (pg_name (i := 4) scRef.nd rfl (Or.inl rfl))
        (pss_cons (ps_if (PW.pt (pw_or (pt_cmpR oN (pe_call GM hr rfl cM.g cM.k cM.b .nil pass0 (pa_cons (pv 4) (pa_cons (pv 4) (pa_cons pe_non pa_nil)))) (pe_tup (pa_cons pe_str (pa_cons pe_int pa_nil))) (nomark _))
          (pw_or1 (pt_cmpR oN (pe_call GM hr rfl cM.g cM.k cM.b .nil pass0 (pa_cons (pv 4) (pa_cons (pv 2) (pa_cons (pv 3) pa_nil)))) (pe_tup (pa_cons pe_str (pa_cons pe_int pa_nil))) (nomark _))))) (pss_one (ps_ret pe_bl)) pss_nil)
        (pss_cons (ps_if (PW.pt (pw_or (pt_cmpR oN (pe_call GM hr rfl cM.g cM.k cM.b .nil pass0 (pa_cons (pv 1) (pa_cons (pv 4) (pa_cons pe_non pa_nil)))) (pe_tup (pa_cons pe_str (pa_cons pe_int pa_nil))) (nomark _))
          (pw_or1 (pt_cmpR oN (pe_call GM hr rfl cM.g cM.k cM.b .nil pass0 (pa_cons (pv 1) (pa_cons (pv 4) (pa_cons (pv 3) pa_nil)))) (pe_tup (pa_cons pe_str (pa_cons pe_int pa_nil))) (nomark _))))) (pss_one (ps_ret pe_bl)) pss_nil)
        (pss_cons (ps_if (pt_cmpR oN (pe_call GM hr rfl cM.g cM.k cM.b .nil pass0 (pa_cons (pv 4) (pa_cons (pv 2) (pa_cons (pe_op op_cat (pv 3) (pe_lst (pa_cons pe_non pa_nil))) pa_nil)))) (pe_tup (pa_cons pe_str (pa_cons pe_int pa_nil))) (nomark _)) (pss_one (ps_ret pe_bl)) pss_nil)
        (pss_one (ps_if (pt_cmpR oN (pe_call GM hr rfl cM.g cM.k cM.b .nil pass0 (pa_cons (pv 1) (pa_cons (pv 4) (pa_cons (pe_op op_cat (pv 3) (pe_lst (pa_cons pe_non pa_nil))) pa_nil)))) (pe_tup (pa_cons pe_str (pa_cons pe_int pa_nil))) (nomark _)) (pss_one (ps_ret pe_bl)) pss_nil))))))
      (pss_cons (ps_for PassesOwn.never rfl (pi_list (pe_lst (pa_cons pe_non (pa_cons (pe_callTy call_tuple_of (by rfl) T.tuple Law.boot_tuple (pa_cons (pv 3) pa_nil)) (pa_cons pe_str (pa_cons pe_int (pa_cons pe_bl (pa_cons (pe_tup pa_nil) pa_nil)))))))) (pg_name (i := 4) scRef.nd rfl (Or.inl rfl))
        (pss_one (ps_if (pt_cmpR oN (pe_call GM hr rfl cM.g cM.k cM.b .nil pass0 (pa_cons (pv 1) (pa_cons (pv 2) (pa_cons (pv 4) pa_nil)))) (pe_tup (pa_cons pe_str (pa_cons pe_int pa_nil))) (nomark _)) (pss_one (ps_ret pe_bl)) pss_nil)))
      (pss_cons (ps_set (i := 5) scRef.nd rfl (Or.inl rfl) (pe_call GD hr2 rfl cD.g cD.k cD.b .nil pass0 (pa_cons (pv 0) (pa_cons (pv 1) (pa_cons (pv 2) pa_nil)))))
      (pss_cons (ps_for PassesOwn.never rfl (pi_list (pe_call GO hr1 rfl cO.g cO.k cO.b .nil pass0 (pa_cons (pv 5) (pa_cons (pv 1) pa_nil)))) (pg_name (i := 6) scRef.nd rfl (Or.inl rfl))
        (pss_cons (ps_set (i := 7) scRef.nd rfl (Or.inl rfl) (pe_call GT hr1 rfl cT.g cT.k cT.b .nil pass0 (pa_cons (pv 0) (pa_cons (pe_op op_add (pe_callB call_len_seq (by rfl) T.len PySem.boot_len (pa_cons (pv 3) pa_nil)) pe_int) pa_nil))))
        (pss_cons (ps_set (i := 8) scRef.nd rfl (Or.inl rfl) (pe_op op_cat (pe_op op_cat (pe_op op_cat (pe_slice sL (pv 3) po_none (po_some (pv 7))) (pe_lst (pa_cons (pv 6) pa_nil))) (pe_slice sL (pv 3) (po_some (pv 7)) po_none))
          (pe_call GP hr2 rfl cP.g cP.k cP.b .nil pass0 (pa_cons (pv 0) (pa_cons (pe_lst (pa_cons (pe_lst pa_nil) (pa_cons (pe_lst (pa_cons pe_non pa_nil)) (pa_cons (pe_lst (pa_cons (pv 6) pa_nil)) pa_nil)))) pa_nil)))))
        (pss_cons (ps_set (i := 9) scRef.nd rfl (Or.inl rfl) (pe_callB rp (by rfl) T.repr PyProof.Rows.boot_repr (pa_cons (pv 8) pa_nil)))
        (pss_one (ps_if (PW.pt (pw_or (pt_cmpR oN (pe_call GM hr rfl cM.g cM.k cM.b .nil pass0 (pa_cons (pv 1) (pa_cons (pv 2) (pa_cons (pv 8) pa_nil)))) (pe_tup (pa_cons pe_str (pa_cons (pv 7) pa_nil))) (nomark _))
          (pw_or1 (pt_cmpR op_ne (pe_callB rp (by rfl) T.repr PyProof.Rows.boot_repr (pa_cons (pv 8) pa_nil)) (pv 9) (nomark _))))) (pss_one (ps_ret pe_bl)) pss_nil))))))
      (pss_one (ps_ret pe_bl))))), ?_⟩
    obtain ⟨L, eL, tL, eLn⟩ := id tl
    have lL : L.length = rows.length := by rw [← eLn, List.length_map]
    have iw := inB_of w1 w3
    have ia := inB_of a1 a3
    have dR : DpAll K H (L.map fun q => V.ref q.1) (rows.map rowD) := by rw [← eLn]; exact dpRows tL
    have lR : (rows.map rowD).length = rows.length := List.length_map _
    have sw : SeqAt.shaped (tagD "width" 0) = true := by decide +kernel
    have sa : SeqAt.shaped (tagD "arity" 0) = true := by decide +kernel
    have sl : SeqAt.shaped (tagD "list" 0) = true := by decide +kernel
    have sr : ∀ n : Nat, SeqAt.shaped (tagD "row" n) = true := fun n => by
      have h : SeqAt.shaped (tagD "row" 0) = true := by decide +kernel
      simpa [SeqAt.shaped, tagD, PyData.canLay0, PyData.canLayAll0, PyData.depth, PyData.depthAll] using h
    try dsimp only [gName]
    refine tSeq_mk ?_
    refine for_DL (K := K) (ds := badA) (DL.lst (DAs.cons DE.int (DAs.cons DE.int (DAs.cons (DE.neg DE.int) (DAs.cons DE.bl (DAs.cons DE.non (DAs.cons DE.str (DAs.cons (DE.tup (DAs.cons DE.int DAs.nil) (Nat.le_of_ble_eq_true rfl)) (DAs.cons (DL.lst (DAs.cons DE.int DAs.nil) (Nat.le_of_ble_eq_true rfl)).toE
      (DAs.cons (DE.pow (i := 10) (j := 30) DE.int DE.int ⟨by decide, by decide, by decide⟩) DAs.nil))))))))) (Nat.le_of_ble_eq_true rfl)) fun H1 l1 x1 s1 e1 d1 => ?_
    refine for_list (K := K) (a := l1) (xs := x1) (fun j σ H' => ∃ n4, σ = [some (.ref p), some (.int wi), some (.int a), some (.ref l), n4, none, none, none, none, none] ∧ Same H1 H') ⟨none, rfl, Same.refl _⟩ (fun j σ H' _ ⟨_, _, s2⟩ => SqL.of (s2 _ _ e1)) ?_ ?_
    · rintro j x σ H2 hx ⟨n4, rfl, s2⟩
      obtain ⟨b, eb, hb⟩ := dpAll_get d1 hx
      have nb := badA_no b (List.mem_of_getElem? eb)
      have b2 := hb.on s2
      have dR2 := DpAll.on (s1.trans s2) dR
      have eL2 := (s1.trans s2) _ _ eL
      have vb : ∀ {H3 : Hp}, Same H2 H3 → ∀ σ : L2.St, σ[4]? = some (some x) → DE K (tVar 4) σ H2 b := fun _ σ e => DE.var e b2
      refine made_test (K := K) (G := H2) (x := "width") (n := 0) (dw := b) (da := b) (dr := .none) (DAs.cons (DE.var rfl b2) (DAs.cons (DE.var rfl b2) (DAs.cons DE.non DAs.nil))) (Same.refl _) (fun ds z => nomatch z) (badOf_w nb) (DAs.cons DE.str (DAs.cons DE.int DAs.nil)) sw fun H3 s3 => iteF ?_
      refine made_test (K := K) (G := H2) (x := "width") (n := 0) (dw := b) (da := .int a) (dr := .list (rows.map rowD)) (DAs.cons (DE.var rfl b2) (DAs.cons (DE.var rfl (.int a)) (DAs.cons (DL.var rfl eL2 dR2).toE DAs.nil))) s3 (fun ds z => by cases z; rw [lR]; omega) (badOf_w nb) (DAs.cons DE.str (DAs.cons DE.int DAs.nil)) sw fun H4 s4 => ?_
      refine iteF ?_
      refine made_test (K := K) (G := H2) (x := "arity") (n := 0) (dw := .int wi) (da := b) (dr := .none) (DAs.cons (DE.var rfl (.int wi)) (DAs.cons (DE.var rfl b2) (DAs.cons DE.non DAs.nil))) (s3.trans s4) (fun ds z => nomatch z) (badOf_a iw nb) (DAs.cons DE.str (DAs.cons DE.int DAs.nil)) sa fun H5 s5 => iteF ?_
      refine made_test (K := K) (G := H2) (x := "arity") (n := 0) (dw := .int wi) (da := b) (dr := .list (rows.map rowD)) (DAs.cons (DE.var rfl (.int wi)) (DAs.cons (DE.var rfl b2) (DAs.cons (DL.var rfl eL2 dR2).toE DAs.nil))) ((s3.trans s4).trans s5) (fun ds z => by cases z; rw [lR]; omega) (badOf_a iw nb) (DAs.cons DE.str (DAs.cons DE.int DAs.nil)) sa fun H6 s6 => ?_
      refine iteF ?_
      refine made_test (K := K) (G := H2) (x := "width") (n := 0) (dw := b) (da := .int a) (dr := .list (rows.map rowD ++ [.none])) (DAs.cons (DE.var rfl b2) (DAs.cons (DE.var rfl (.int a)) (DAs.cons (DL.cat (DL.var rfl eL2 dR2) (DL.lst (DAs.cons DE.non DAs.nil) (Nat.le_of_ble_eq_true rfl)) (by rw [lR]; show _ + 1 ≤ 1000; omega)).toE DAs.nil))) (((s3.trans s4).trans s5).trans s6) (fun ds z => by cases z; rw [List.length_append, lR]; show _ + 1 < 64; omega) (badOf_w nb) (DAs.cons DE.str (DAs.cons DE.int DAs.nil)) sw fun H7 s7 => iteF ?_
      refine made_test (K := K) (G := H2) (x := "arity") (n := 0) (dw := .int wi) (da := b) (dr := .list (rows.map rowD ++ [.none])) (DAs.cons (DE.var rfl (.int wi)) (DAs.cons (DE.var rfl b2) (DAs.cons (DL.cat (DL.var rfl eL2 dR2) (DL.lst (DAs.cons DE.non DAs.nil) (Nat.le_of_ble_eq_true rfl)) (by rw [lR]; show _ + 1 ≤ 1000; omega)).toE DAs.nil))) ((((s3.trans s4).trans s5).trans s6).trans s7) (fun ds z => by cases z; rw [List.length_append, lR]; show _ + 1 < 64; omega) (badOf_a iw nb) (DAs.cons DE.str (DAs.cons DE.int DAs.nil)) sa fun H8 s8 => iteF ?_
      exact ⟨_, rfl, (((((s2.trans s3).trans s4).trans s5).trans s6).trans s7).trans s8⟩
    · rintro σ H2 ⟨n4, rfl, s2⟩
      try dsimp only [gName]
      refine tSeq_mk ?_
      have eL2 := (s1.trans s2) _ _ eL
      have dR2 := DpAll.on (s1.trans s2) dR
      refine for_DL (K := K) (ds := badL rows) (DL.lst (DAs.cons DE.non (DAs.cons (DE.tupOf (DL.var rfl eL2 dR2)) (DAs.cons DE.str (DAs.cons DE.int (DAs.cons DE.bl (DAs.cons (DE.tup DAs.nil (Nat.le_of_ble_eq_true rfl)) DAs.nil)))))) (Nat.le_of_ble_eq_true rfl)) fun H3 l3 x3 s3 e3 d3 => ?_
      refine for_list (K := K) (a := l3) (xs := x3) (fun j σ H' => ∃ n4, σ = [some (.ref p), some (.int wi), some (.int a), some (.ref l), n4, none, none, none, none, none] ∧ Same H3 H') ⟨_, rfl, Same.refl _⟩ (fun j σ H' _ ⟨_, _, s2⟩ => SqL.of (s2 _ _ e3)) ?_ ?_
      · rintro j x σ H4 hx ⟨n4, rfl, s4⟩
        obtain ⟨b, eb, hb⟩ := dpAll_get d3 hx
        obtain ⟨bo, bl⟩ := badL_no (rows := rows) iw ia b (List.mem_of_getElem? eb)
        refine made_test (K := K) (G := H4) (x := "list") (n := 0) (dw := .int wi) (da := .int a) (dr := b) (DAs.cons (DE.var rfl (.int wi)) (DAs.cons (DE.var rfl (.int a)) (DAs.cons (DE.var rfl (hb.on s4)) DAs.nil))) (Same.refl _) (fun ds z => absurd z (bl ds)) bo (DAs.cons DE.str (DAs.cons DE.int DAs.nil)) sl fun H5 s5 => iteF ?_
        exact ⟨_, rfl, s4.trans s5⟩
      · rintro σ H4 ⟨n4', rfl, s4⟩
        have s04 := ((s1.trans s2).trans s3).trans s4
        try dsimp only [gName]
        refine tSeq_mk (tAsg_mk ?_)
        refine ⟨_, rfl, _, rfl, _, rfl, p, wi, a, rfl, hp.on s04, w1, w3, a1, a3, fun H5 t r b5 hp5 ro ht => ?_⟩
        try dsimp only [gName]
        refine tSeq_mk ?_
        obtain ⟨Gm, hGm⟩ : ∃ G : Hp, G = fun b => if b = p then none else H5 b := ⟨_, rfl⟩
        have gm : Same Gm H5 := fun b o e => by
          rw [hGm] at e
          have e : (if b = p then none else H5 b) = some o := e
          by_cases z : b = p
          · rw [if_pos z] at e; cases e
          · rw [if_neg z] at e; exact e
        have gb : But H5 Gm p := fun b o hb e => by
          rw [hGm]
          show (if b = p then none else H5 b) = some o
          rw [if_neg hb]; exact e
        have gp : Gm p = none := by rw [hGm]; exact if_pos rfl
        have ne5 : H5 p ≠ none := by obtain ⟨_, _, e, _⟩ := hp5; rw [e]; exact fun z => nomatch z
        have hrowG : Dp K Gm (.ref t) (rowD r) := dpRow (by obtain ⟨_, _, e, _⟩ := hp5; exact SqT.but2 ht e gb)
        refine ⟨_, rfl, _, rfl, .ref t, wi, a, r, p, Gm, rfl, gm, gp, ne5, hrowG, w1, w3, a1, a3, ro, fun H6 G6 l6 x6 s6 g6 u6 p6 e6 d6 => ?_⟩
        have ne6 : l6 ≠ p := fun z => by subst z; exact nomatch p6.symm.trans e6
        have tG : Told K G6 l rows := (((tl.on s04).but (hp.on s04) b5).but hp5 gb).on g6
        obtain ⟨LG, eLG, tLG, eLGn⟩ := id tG
        have lLG : (LG.map fun q => V.ref q.1).length = rows.length := by rw [List.length_map, ← eLGn, List.length_map]
        have dG : DpAll K G6 (LG.map fun q => V.ref q.1) (rows.map rowD) := by rw [← eLGn]; exact dpRows tLG
        refine ⟨l6, rfl, ⟨x6, SqL.of (u6 _ _ e6)⟩, for_list (K := K) (a := l6) (xs := x6) (fun j σ H' => ∃ n6 n7 n8 n9, σ = [some (.ref p), some (.int wi), some (.int a), some (.ref l), n4', some (.ref t), n6, n7, n8, n9] ∧ But H6 H' p ∧ FeedAt H' p)
          ⟨none, none, none, none, rfl, But.of (Same.refl _), hp5.on s6⟩ (fun j σ H' _ ⟨_, _, _, _, _, b7, _⟩ => SqL.of (b7 _ _ ne6 (u6 _ _ e6))) ?_ ?_⟩
        · rintro j x σ H7 hx ⟨n6, n7, n8, n9, rfl, b7, hp7⟩
          obtain ⟨d, ed, hd⟩ := dpAll_get d6 hx
          obtain ⟨fd, nd⟩ := odd_fact w1 w3 a1 a3 ro d (List.mem_of_getElem? ed)
          have u7 : Same G6 H7 := fun b o e => b7 b o (fun z => by subst z; exact nomatch p6.symm.trans e) (u6 b o e)
          try dsimp only [gName]
          refine tSeq_mk (tAsg_mk ?_)
          refine ⟨_, rfl, _, rfl, l, _, rfl, .inl (SqL.of (u7 _ _ eLG)), _, _, rfl, rfl, p, _, rfl, hp7, by omega, by rw [lLG]; omega, fun H8 at_ b8 hp8 c0 c1 => ?_⟩
          rw [lLG] at c1
          obtain ⟨k, rfl⟩ : ∃ k : Nat, at_ = (k : Int) := ⟨at_.toNat, by omega⟩
          have hk : k ≤ rows.length := by omega
          have u8 : Same G6 H8 := fun b o e => b8 b o (fun z => by subst z; exact nomatch p6.symm.trans e) (u7 b o e)
          have ne8 : H8 p ≠ none := by obtain ⟨_, _, e, _⟩ := hp8; rw [e]; exact fun z => nomatch z
          try dsimp only [gName]
          refine tSeq_mk (tAsg_mk (tOp_mk ?_))
          refine DL.runG (K := K) (p := p) (ds := (L2.cutD (rows.map rowD) none (some (k : Nat)) ++ [d]) ++ L2.cutD (rows.map rowD) (some (k : Nat)) none) (DL.cat (DL.cat (DL.sl (DL.var rfl eLG dG) DPt.none (DPt.some (K := K) (DE.var rfl (.int _)))) (DL.lst (DAs.cons (DE.var rfl hd) DAs.nil) (Nat.le_of_ble_eq_true rfl))
              (by have := cutD_len (rows.map rowD) none (some (k : Nat)); rw [lR] at this; show _ + 1 ≤ 1000; omega)) (DL.sl (DL.var rfl eLG dG) (DPt.some (K := K) (DE.var rfl (.int _))) DPt.none)
              (by have := cutD_len (rows.map rowD) none (some (k : Nat)); have := cutD_len (rows.map rowD) (some (k : Nat)) none; rw [lR] at *; rw [List.length_append]; show _ + 1 + _ ≤ 1000; omega)) u8 p6 ne8 fun H9 G9 l9 x9 s9 g9 u9 p9 hp9 e9 d9 => ?_
          rw [cut_lo _ (by rw [lR]; exact hk), cut_hi _ (by rw [lR]; exact hk)] at d9
          refine ⟨_, rfl, (Nat.le_of_ble_eq_true rfl), fun q1 m1 => ⟨(Nat.le_of_ble_eq_true rfl), fun q2 m2 => ⟨_, rfl, (Nat.le_of_ble_eq_true rfl), fun q3 m3 => ⟨(Nat.le_of_ble_eq_true rfl), fun q4 m4 => ?_⟩⟩⟩⟩
          have z1 := same_new (o := .lst []) m1
          have z2 := same_new (o := .lst [V.non]) m2
          have z3 := same_new (o := .lst [x]) m3
          have z4 := same_new (o := .lst [V.ref q1, V.ref q2, V.ref q3]) m4
          have sx := ((z1.trans z2).trans z3).trans z4
          have hp9f := hp8.on s9
          refine ⟨p, q4, [.ref q1, .ref q2, .ref q3], rfl, hp9f.on sx, SqL.of upd_same, ((hp9f.on ((z1.trans z2).trans z3))).ne m4, (by show 0 < 3; decide), (by show 3 < 1000000; decide), fun H10 i y b10 hp10 ey => ?_⟩
          have u10 : Same G9 H10 := fun b o e => b10 b o (fun z => by subst z; exact nomatch p9.symm.trans e) (sx b o (u9 b o e))
          have key : ∃ (py : Addr) (ys : List V) (es : List PyData), y = .ref py ∧ H10 py = some (.lst ys) ∧ DpAll K H10 ys es ∧ (∀ e ∈ es, Fine e) ∧ es.length ≤ 1 := by
            match i, ey with
            | 0, ey =>
              cases ey
              exact ⟨q1, [], [], rfl, b10 _ _ (Ne.symm (hp9f.ne m1)) (z4 _ _ (z3 _ _ (z2 _ _ upd_same))), .nil, (by intro e he; cases he), Nat.zero_le _⟩
            | 1, ey =>
              cases ey
              exact ⟨q2, [.non], [.none], rfl, b10 _ _ (Ne.symm ((hp9f.on z1).ne m2)) (z4 _ _ (z3 _ _ upd_same)), .cons .non .nil, (by intro e he; rw [List.mem_singleton.mp he]; exact fine_of (by decide +kernel)), Nat.le_refl _⟩
            | 2, ey =>
              cases ey
              exact ⟨q3, [x], [d], rfl, b10 _ _ (Ne.symm ((hp9f.on (z1.trans z2)).ne m3)) (z4 _ _ upd_same), .cons ((hd.on g9).on u10) .nil, (by intro e he; rw [List.mem_singleton.mp he]; exact fd), Nat.le_refl _⟩
            | i + 3, ey => cases ey
          obtain ⟨py, ys, es, rfl, epy, dys, fes, les⟩ := key
          have lW : (((rows.map rowD).take k ++ [d]) ++ (rows.map rowD).drop k).length = rows.length + 1 := by
            rw [List.length_append, List.length_append, List.length_take, List.length_drop, lR]
            show min k rows.length + 1 + _ = _
            omega
          refine ⟨l9, py, x9, ys, rfl, rfl, u10 _ _ e9, epy, small3 (by rw [d9.leng, dys.leng, lW]; omega), fun qq nq => ?_⟩
          have dWW : Dp K (upd H10 qq (.lst (x9 ++ ys))) (.ref qq) (.list ((((rows.map rowD).take k ++ [d]) ++ (rows.map rowD).drop k) ++ es)) := .lst (.inl (.inl upd_same)) ((DpAll.append (d9.on u10) dys).on (same_new nq))
          have lWW : ((((rows.map rowD).take k ++ [d]) ++ (rows.map rowD).drop k) ++ es).length ≤ 42 := by
            rw [List.length_append, lW]
            omega
          have frow : ∀ e ∈ rows.map rowD, Fine e ∧ isRow wi a e = true := fun e he => by
            obtain ⟨z, hz, rfl⟩ := List.mem_map.mp he
            exact row_facts w1 w3 a1 a3 (ok z hz)
          obtain ⟨f1, f2, f3, f4, _⟩ := fine_list (ds := (((rows.map rowD).take k ++ [d]) ++ (rows.map rowD).drop k) ++ es) (fun e he => by
            rcases List.mem_append.mp he with he | he
            · rcases List.mem_append.mp he with he | he
              · rcases List.mem_append.mp he with he | he
                · exact (frow e (List.mem_of_mem_take he)).1
                · rw [List.mem_singleton.mp he]; exact fd
              · exact (frow e (List.mem_of_mem_drop he)).1
            · exact fes e he) (by omega)
          try dsimp only [gName]
          refine tSeq_mk (tAsg_mk ?_)
          refine ⟨_, rfl, .ref qq, _, rfl, dWW, f1, f2, f3, f4, ?_⟩
          have bo : badOf (.int wi) (.int a) (.list ((((rows.map rowD).take k ++ [d]) ++ (rows.map rowD).drop k) ++ es)) = some (tagD "row" k) := by
            rw [badOf_r iw ia]
            show (List.findIdx? (fun d => !isRow wi a d) _).map (tagD "row") = _
            rw [List.append_assoc, List.append_assoc]
            have := find_at (fun d => !isRow wi a d) ((rows.map rowD).take k) d ((rows.map rowD).drop k ++ es) (fun e he => by
              rw [(frow e (List.mem_of_mem_take he)).2]; rfl) (by rw [nd]; rfl)
            rw [List.length_take, lR, Nat.min_eq_left hk] at this
            rw [show [d] ++ ((rows.map rowD).drop k ++ es) = d :: ((rows.map rowD).drop k ++ es) from rfl, this]
            rfl
          refine made_test (K := K) (G := upd H10 qq (.lst (x9 ++ ys))) (x := "row") (n := k) (dw := .int wi) (da := .int a) (dr := .list ((((rows.map rowD).take k ++ [d]) ++ (rows.map rowD).drop k) ++ es)) (DAs.cons (DE.var rfl (.int wi)) (DAs.cons (DE.var rfl (.int a)) (DAs.cons (DE.var rfl dWW) DAs.nil))) (Same.refl _)
            (fun ds z => by cases z; omega) bo (DAs.cons DE.str (DAs.cons (DE.var rfl (.int _)) DAs.nil)) (sr k) fun H12 s12 => iteF ?_
          refine ⟨_, rfl, .ref qq, _, rfl, dWW.on s12, f1, f2, f3, f4, _, rfl, rfl, _, rfl, ifNot (decide_eq_true rfl) ?_⟩
          have s912 := (same_new (o := .lst (x9 ++ ys)) nq).trans s12
          exact ⟨_, _, _, _, rfl, ((((b7.trans b8).same s9).same sx).trans b10).same s912, hp10.on s912⟩
        · rintro σ H7 ⟨n6, n7, n8, n9, rfl, b7, hp7⟩
          exact q _ ((((But.of s04).trans b5).same s6).trans b7) hp7
end
end Law
set_option Elab.async false
set_option linter.all false
set_option maxRecDepth 100000
set_option maxHeartbeats 8000000
namespace Law
open PySem PySem.Spec PyProof.Rows L2 PySem.NearX
abbrev sLaw : Stmt := top 29
section
variable {P : Program} {w : World} {K : PySem.W.Frag} {mg : Str → Option Value} {base : Heap}
/-- a table is made of right rows; it stays when a list that stood before is changed -/
theorem mk_table {C CW CA CL CR : Addr} {wi a : Int} {v3 : V} {rows : List (List Int)} {H : Hp} {Q : Addr → Hp → Prop} (w1 : 1 ≤ wi) (w3 : wi ≤ 3) (a1 : 1 ≤ a) (a3 : a ≤ 3) (ok : RowsOk wi a rows) (h64 : rows.length < 64) (hd : Dp K H v3 (rowsD rows))
    (q : ∀ H' t ns, Same H H' → Canon wi rows ns → Tab K C H' t wi a ns → (∀ b xs o, H b = some (.lst xs) → Tab K C (upd H' b o) t wi a ns) → Q t H') :
    ∀ x dx, H x = none → H dx = none → dx ≠ x → spInit K C CW CA CL CR (.ref x :: [.int wi, .int a, v3]) (upd (upd H dx (.own x)) x (.ins C dx [])) (fun v H2 => v = .non ∧ Q x H2) (fun _ _ _ => False) := by
  intro x dx nx ndx ne
  have s0 : Same H (upd (upd H dx (.own x)) x (.ins C dx [])) := Law.Same.new (same_new ndx) (by rw [upd_ne (Ne.symm ne)]; exact nx)
  have iw := inB_of w1 w3
  have ia := inB_of a1 a3
  refine ⟨x, dx, .int wi, .int a, v3, .int wi, .int a, rowsD rows, rfl, upd_same, .int _, .int _, hd.on s0, fun ds z => by cases z; rw [List.length_map]; exact h64, fun z => (by rw [iw] at z; cases z), fun _ z => (by rw [ia] at z; cases z), (fun _ _ z => nomatch z), fun wi' ai' ds ew ea _ _ _ _ ed => ?_⟩
  cases ew; cases ea; cases ed
  have good : ∀ d ∈ rows.map rowD, isRow wi a d = true := fun d hd => by
    obtain ⟨z, hz, rfl⟩ := List.mem_map.mp hd
    exact (row_facts w1 w3 a1 a3 (ok z hz)).2
  refine ⟨fun i d ei er _ H' y _ _ => ?_, fun _ H' l ns sb nl hx tl cn => ⟨rfl, ?_⟩⟩
  · rw [good d (List.mem_of_getElem? ei)] at er
    cases er
  · have er : (rows.map rowD).map rowInts = rows := by
      rw [List.map_map]
      exact (List.map_congr_left fun r _ => rowInts_rowD r).trans (List.map_id _)
    rw [er] at cn
    have s' : Same H H' := fun b o e => sb b o (ne_of_none e nx) (s0 b o e)
    have nl' : H l = none := by
      cases z : H l with
      | none => rfl
      | some o => exact nomatch (s0 _ _ z).symm.trans nl
    refine q H' x ns s' cn ⟨⟨dx, l, hx, tl⟩, w1, w3, a1, a3⟩ fun b xs o eb => ?_
    have hb := s' _ _ eb
    obtain ⟨L, eL, tL, en⟩ := tl
    refine ⟨⟨dx, l, by rw [upd_ne (Ne.symm (ne_of_none eb nx))]; exact hx, L, by rw [upd_ne (Ne.symm (ne_of_none eb nl'))]; exact eL, fun q hq => SqT.upL (tL q hq) hb, en⟩, w1, w3, a1, a3⟩
/-- sorted(set(rows)) -/
theorem ssort {l : Addr} {wi a : Int} {rows : List (List Int)} {H : Hp} {Q : VK} (w1 : 1 ≤ wi) (a1 : 1 ≤ a) (tl : Told K H l rows) (ok : RowsOk wi a rows) (h64 : rows.length < 64) (q : ∀ H' u ns, Same H H' → Told K H' u ns → Canon wi rows ns → Q (.ref u) H') :
    rSetOfT K P w [.ref l] H (fun v H1 => rSortedT K P w [v] H1 Q) := by
  obtain ⟨ks, el, tk, ek⟩ := id tl
  have lks : ks.length = rows.length := by rw [← ek, List.length_map]
  have okk : ∀ p ∈ ks, RowOk wi a p.2 := fun p hp => ok p.2 (by rw [← ek]; exact List.mem_map.mpr ⟨p, hp, rfl⟩)
  refine ⟨l, ks, rfl, SqL.of el, tk, by omega, fun S L nS m1 m2 => ?_⟩
  have sS := same_new (o := SetTO P w S L) nS
  refine ⟨S, L, a.toNat, wi, rfl, upd_same, fun p hp => (tk p (m1 p hp)).on sS, by omega, fun p hp => ⟨by have := (okk p (m1 p hp)).1; omega, (okk p (m1 p hp)).2⟩, fun L' u pm nd hl ps nu => ?_⟩
  have s1 := Law.Same.new (o := .lst (L'.map fun q => V.ref q.1)) sS nu
  refine q _ u (L'.map (·.2)) s1 ⟨L', upd_same, fun q hq => (tk q (m1 q (pm.mem_iff.mp hq))).on s1, rfl⟩ ⟨nd, List.pairwise_map.mpr ps, fun x => ⟨fun hx => ?_, fun hx => ?_⟩⟩
  · obtain ⟨q, hq, rfl⟩ := List.mem_map.mp hx
    rw [← ek]
    exact List.mem_map.mpr ⟨q, m1 q (pm.mem_iff.mp hq), rfl⟩
  · rw [← ek] at hx
    obtain ⟨q, hq, rfl⟩ := List.mem_map.mp hx
    obtain ⟨q', hq', e⟩ := List.mem_map.mp (m2 q hq)
    exact List.mem_map.mpr ⟨q', pm.mem_iff.mpr hq', e⟩
theorem told_rev {H : Hp} {l p : Addr} {ns : List (List Int)} (h : Told K H l ns) : ∃ xs, H l = some (.lst xs) ∧ ∀ p, H p = none → Told K (upd H p (.lst xs.reverse)) p ns.reverse := by
  obtain ⟨L, e, t, rfl⟩ := h
  refine ⟨_, e, fun p np => ⟨L.reverse, by rw [upd_same, List.map_reverse], fun q hq => (t q (List.mem_reverse.mp hq)).on (same_new np), by rw [List.map_reverse]⟩⟩
/-- what == and != ask of the class -/
structure EqK (K : PySem.W.Frag) (C : Addr) : Prop where
  ne : PySem.W.findIn K (.ref C) "__ne__" = some (some (.builtin "object.__ne__"))
  ob : PySem.W.subIn K (.ref C) (.type "object") = some true
  fl : PySem.W.notFirst K C (.type "list") = true
  fn : PySem.W.notFirst K C (.type "NoneType") = true
theorem nf_self {C : Addr} : PySem.W.notFirst K C (.ref C) = true := by simp [PySem.W.notFirst]
theorem DpAll.rev {K : PySem.W.Frag} {H : Hp} : ∀ {xs : List V} {ds : List PyData}, DpAll K H xs ds → DpAll K H xs.reverse ds.reverse
  | _, _, .nil => .nil
  | _, _, .cons h r => by
    rw [List.reverse_cons, List.reverse_cons]
    exact DpAll.append (DpAll.rev r) (.cons h .nil)
theorem DE.rev {K : PySem.W.Frag} {σ : L2.St} {H : Hp} {te : TE} {ds : List PyData} (h : DE K te σ H (.list ds)) : DE K (tRevL K te) σ H (.list ds.reverse) := fun H0 Q s q => h H0 _ s fun H1 v s1 d1 => by
  cases d1 with
  | @lst a xs _ a1 a2 => exact ⟨a, xs, rfl, a1.on rs_le, fun p np => q _ _ (snew s1 np) (.lst (.inl (.inl (rs_at s1 np))) ((DpAll.rev a2).on (rs_new np)))⟩
theorem DE.ref {K : PySem.W.Frag} {σ : L2.St} {H : Hp} {l : Addr} {rows : List (List Int)} {i : Nat} (e : σ[i]? = some (some (.ref l))) (h : Told K H l rows) : DE K (tVar i) σ H (rowsD rows) := DE.var e h.dp
/-- table == Table(..), table != Table(..) -/
theorem eq_made {K : PySem.W.Frag} {C CW CA CL CR t : Addr} {σ : L2.St} {H : Hp} {ta : TA} {i : Nat} {wi a w' a' : Int} {ns rows' : List (List Int)} {g : Bool → Bool} {Q : VK} (TK : TabK K C) (TI : TabI K C) (e : σ[i]? = some (some (.ref t))) (hT : Tab K C H t wi a ns)
    (hd : DAs K ta σ H [.int w', .int a', rowsD rows']) (w1 : 1 ≤ w') (w3 : w' ≤ 3) (a1 : 1 ≤ a') (a3 : a' ≤ 3) (ok : RowsOk w' a' rows') (h64 : rows'.length < 64)
    (q : ∀ H' ns', Same H H' → Canon w' rows' ns' → Q (.bl (g (decide (wi = w') && (decide (a = a') && decide (ns = ns'))))) H') : tOp (rEqO K C (spEqT K C) E0 g) (tVar i) (tMakeS C (spInit K C CW CA CL CR) (fun _ _ _ _ => False) ta) σ H Q := by
  refine ⟨_, e, hd H _ (Same.refl _) fun H1 vs s1 hv => ?_⟩
  have hv := DpAll.on rs_le hv
  cases hv with
  | cons b1 hv =>
  cases hv with
  | cons b2 hv =>
  cases hv with
  | @cons v3 _ _ _ b3 hv =>
  cases hv
  cases b1; cases b2
  refine mk_table w1 w3 a1 a3 ok h64 b3 fun H2 t2 ns2 s2 cn2 hT2 _ => ?_
  have hT' := hT.on (s1.trans s2)
  obtain ⟨⟨dx, l, eT, _⟩, _⟩ := id hT'
  obtain ⟨⟨dx2, l2, eT2, _⟩, _⟩ := id hT2
  exact ⟨t, dx, _, .ref C, rfl, eT, .base (.ins eT2 TK.cls TI.ha TI.hn TI.ht TI.ob), nf_self, t, wi, a, ns, .ref t2, rfl, hT', .inr ⟨t2, w', a', ns2, rfl, hT2, _, rfl, q H2 ns2 (s1.trans s2) cn2⟩⟩
/-- table == data -/
theorem eq_data {K : PySem.W.Frag} {C t : Addr} {σ : L2.St} {H : Hp} {te : TE} {i : Nat} {wi a : Int} {ns : List (List Int)} {d : PyData} {Q : VK} (e : σ[i]? = some (some (.ref t))) (hT : Tab K C H t wi a ns) (hd : DE K te σ H d) (hn : PySem.W.notFirst K C (.type (tyN d)) = true)
    (q : ∀ H', Same H H' → Q (.bl false) H') : tOp (rEqO K C (spEqT K C) E0 id) (tVar i) te σ H Q := by
  refine ⟨_, e, hd.run fun H1 v s1 d1 => ?_⟩
  have hT' := hT.on s1
  obtain ⟨⟨dx, l, eT, _⟩, _⟩ := id hT'
  exact ⟨t, dx, _, _, rfl, eT, d1.ty, hn, t, wi, a, ns, v, rfl, hT', .inl ⟨d, d1, _, rfl, q H1 s1⟩⟩
theorem minus {H : Hp} {p : Addr} : ∃ G : Hp, Same G H ∧ But H G p ∧ G p = none := by
  refine ⟨fun b => if b = p then none else H b, fun b o e => ?_, fun b o hb e => ?_, if_pos rfl⟩
  · have e : (if b = p then none else H b) = some o := e
    by_cases z : b = p
    · rw [if_pos z] at e; cases e
    · rw [if_neg z] at e; exact e
  · show (if b = p then none else H b) = some o
    rw [if_neg hb]; exact e
theorem Told.copy {K : PySem.W.Frag} {H : Hp} {l : Addr} {rows : List (List Int)} (h : Told K H l rows) : ∃ xs, H l = some (.lst xs) ∧ ∀ p, H p = none → Told K (upd H p (.lst xs)) p rows := by
  obtain ⟨L, e, t, en⟩ := h
  exact ⟨_, e, fun p np => ⟨L, upd_same, fun q hq => (t q hq).on (same_new np), en⟩⟩
def lawBody : List Stmt := match defBody sLaw with
  | .For _ _ b _ _ :: _ => b
  | _ => []
def spLaw (K : PySem.W.Frag) : Sp := fun vs H Q _ => ∃ (a : Addr) (ns : List Int), vs = [.ref a] ∧ SqL K H a (ns.map V.int) ∧ ns.length ≤ 63 ∧ ∀ H', Q (.bl true) H'
def NW : List Str := ["script", "k", "feed", "width", "arity", "rows", "handed", "table", "one", "other"]
theorem scLaw : FnScope NW ["script"] (defScope sLaw) := ⟨rfl, rfl, rfl, by decide +kernel, rfl, by decide +kernel, by decide +kernel⟩
theorem ok_law {f fF fT fA fD fDS fR fV fO fI fE fH C CW CA CL CR : Addr} {fd dF dT dA dD dDS dR dV dO dI dE dH : FuncData} (F : Fun K "law" "law" sLaw f fd) (T : Blt mg) (TK : TabK K C) (TI : TabI K C) (EK : EqK K C)
    (GF : FnOk P w K mg base CX0 1 fF dF ["script", "k"] (spFeed K)) (cF : Cal K mg "_law_feed" ["script", "k"] fF dF)
    (GT : FnOk P w K mg base CX0 1 fT dT ["feed", "many"] spTake) (cT : Cal K mg "_law_take" ["feed", "many"] fT dT)
    (GA : FnOk P w K mg base CX0 1 fA dA ["width", "length"] (spAll K)) (cA : Cal K mg "_law_all" ["width", "length"] fA dA)
    (GD : FnOk P w K mg base CX0 2 fD dD ["feed", "width", "arity"] (spDRow K)) (cD : Cal K mg "_law_drawn_row" ["feed", "width", "arity"] fD dD)
    (GS : FnOk P w K mg base CX0 3 fDS dDS ["feed", "width", "arity", "most"] (spDRows K)) (cS : Cal K mg "_law_drawn_rows" ["feed", "width", "arity", "most"] fDS dDS)
    (GR : FnG P w K mg base CX0 6 fR dR ["table", "width", "arity", "rows"] (spRight K C)) (cR : Cal K mg "_law_table_right" ["table", "width", "arity", "rows"] fR dR)
    (GV : FnG P w K mg base CX0 7 fV dV ["feed", "width", "arity", "rows"] (spRef K)) (cV : Cal K mg "_law_refused_right" ["feed", "width", "arity", "rows"] fV dV)
    (GO : FnOk P w K mg base CX0 1 fO dO ["row", "width"] (spOdd K)) (cO : Cal K mg "_law_odd_rows" ["row", "width"] fO dO)
    (GI : FnOk P w K mg base (L2.CX P w) 4 fI dI ["self", "width", "arity", "rows"] (spInit K C CW CA CL CR)) (bI : Binds K dI ["self", "width", "arity", "rows"] []) (M : Mk K C fI) (gT : mg "Table" = some (.ref C))
    (GE : FnOk P w K mg base CX0 1 fE dE ["self", "other"] (spEqT K C)) (hE : Has K C "__eq__" fE dE ["self", "other"])
    (GH : FnOk P w K mg base CX0 4 fH dH ["self", "row"] (spHas K C)) (hH : Has K C "__contains__" fH dH ["self", "row"]) :
    FnG P w K mg base CX0 9 f fd ["script"] (spLaw K) := by
  refine F.okG scLaw (fun vs H Q E h => ?_) (fun cdv A outer s H vs Q E hg hr h => ?_)
  · obtain ⟨a, ns, rfl, _⟩ := h
    rfl
  · obtain ⟨sc, ns, rfl, hS, h63, q⟩ := h
    have hu := hr.un
    have rp : CallR (cxOf CX0 P w K mg base NW "law" (defScope sLaw) f cdv A outer s H E).nox (.builtin "repr") (rRepr K) := call_reprD hg (by show (A.deeper _).units + 64 < cLine; omega)
    have r1 : Room 1 (A.deeper (envOfC "law" (defScope sLaw) s.heap.objs.size f cdv)) := hr.mono (by decide)
    have r2 : Room 2 (A.deeper (envOfC "law" (defScope sLaw) s.heap.objs.size f cdv)) := hr.mono (by decide)
    have r3 : Room 3 (A.deeper (envOfC "law" (defScope sLaw) s.heap.objs.size f cdv)) := hr.mono (by decide)
    have r4 : Room 4 (A.deeper (envOfC "law" (defScope sLaw) s.heap.objs.size f cdv)) := hr.mono (by decide)
    have r5 : Room 5 (A.deeper (envOfC "law" (defScope sLaw) s.heap.objs.size f cdv)) := hr.mono (by decide)
    have r6 : Room 6 (A.deeper (envOfC "law" (defScope sLaw) s.heap.objs.size f cdv)) := hr.mono (by decide)
    have r7 : Room 7 (A.deeper (envOfC "law" (defScope sLaw) s.heap.objs.size f cdv)) := hr.mono (by decide)
    have oI : OpR (cxOf CX0 P w K mg base NW "law" (defScope sLaw) f cdv A outer s H E).nox (compareOp .In) (rInO C (spHas K C) E0 id) := op_inO GH r4 hH pass0 fun vs H Q Q' hq ⟨t, w, a, ns, v, d, e, hT, hd, q⟩ => ⟨t, w, a, ns, v, d, e, hT, hd, fun H' s => hq _ _ (q H' s)⟩
    have oE : OpR (cxOf CX0 P w K mg base NW "law" (defScope sLaw) f cdv A outer s H E).nox (compareOp .Eq) (rEqO K C (spEqT K C) E0 id) := op_eqO GE r1 hE pass0
    have oN : OpR (cxOf CX0 P w K mg base NW "law" (defScope sLaw) f cdv A outer s H E).nox (compareOp .NotEq) (rEqO K C (spEqT K C) E0 (!·)) := op_neO GE r2 hE EK.ne EK.ob pass0
    have oD : OpR (cxOf CX0 P w K mg base NW "law" (defScope sLaw) f cdv A outer s H E).nox (compareOp .Eq) (rEqD K) := op_eqD (by show (A.deeper _).units + 64 < cLine; omega)
    have hSet : CallR (cxOf CX0 P w K mg base NW "law" (defScope sLaw) f cdv A outer s H E).nox (.type "set") (rSetOfT K P w) := cr_setOfT rfl (by show (A.deeper _).units + 64 < cLine; omega)
    have hSort : CallR (cxOf CX0 P w K mg base NW "law" (defScope sLaw) f cdv A outer s H E).nox (.builtin "sorted") (rSortedT K P w) := cr_sortedT rfl
    have rest : ∃ tr, PSs (cxOf CX0 P w K mg base NW "law" (defScope sLaw) f cdv A outer s H E).nox (lawBody.drop 4) tr ∧ ∀ (D : Ends) (H6 : Hp) (p l : Addr) (wi : Int) (n : Nat) (rows : List (List Int)) (n1 n6 n7 n8 n9 : Option V), FeedAt H6 p → Told K H6 l rows → 1 ≤ wi → wi ≤ 3 → (1 : Int) ≤ n → (n : Int) ≤ 3 → RowsOk wi n rows → rows.length ≤ 39 →
        (∀ σ' H', (∃ m1 m2 m3 m4 m5 m6 m7 m8 m9, σ' = [some (.ref sc), m1, m2, m3, m4, m5, m6, m7, m8, m9]) → But H6 H' p → D.nx σ' H') → tr D [some (.ref sc), n1, some (.ref p), some (.int wi), some (.int n), some (.ref l), n6, n7, n8, n9] H6 := by
      refine ⟨_, ((pss_cons (ps_set (i := 6) scLaw.nd rfl (Or.inl rfl) (pe_callTy call_list_of (by rfl) T.list Law.boot_list (pa_cons (pv 5) pa_nil)))
        (pss_cons (ps_set (i := 7) scLaw.nd rfl (Or.inl rfl) (pe_makeS (E := fun _ _ _ _ => False) M GI r5 rfl gT bI passNo (pa_cons (pv 3) (pa_cons (pv 4) (pa_cons (pv 6) pa_nil)))))
        (pss_cons (ps_if (pt_cmpR op_ne (pe_callB rp (by rfl) T.repr PyProof.Rows.boot_repr (pa_cons (pv 6) pa_nil)) (pe_callB rp (by rfl) T.repr PyProof.Rows.boot_repr (pa_cons (pv 5) pa_nil)) (nomark _)) (pss_one (ps_ret pe_bl)) pss_nil)
        (pss_cons (ps_expr (pe_bm0 PySem.F.plainAttrs_list PySem.F.slot_list_clear PySem.F.type_list_clear mt_clear (pv 6)))
        (pss_cons (ps_if (PW.pt (pw_or (pt_not (pt_val (pe_callG GR hg r6 rfl cR.g cR.k cR.b .nil pass0 (pa_cons (pv 7) (pa_cons (pv 3) (pa_cons (pv 4) (pa_cons (pv 5) pa_nil)))))))
          (pw_or1 (pt_not (pt_val (pe_callG GV hg r7 rfl cV.g cV.k cV.b .nil pass0 (pa_cons (pv 2) (pa_cons (pv 3) (pa_cons (pv 4) (pa_cons (pv 5) pa_nil)))))))))) (pss_one (ps_ret pe_bl)) pss_nil)
        (pss_cons (ps_for PassesOwn.never rfl (pi_list (pe_call GO r1 rfl cO.g cO.k cO.b .nil pass0 (pa_cons (pe_call GD r2 rfl cD.g cD.k cD.b .nil pass0 (pa_cons (pv 2) (pa_cons (pv 3) (pa_cons (pv 4) pa_nil)))) (pa_cons (pv 3) pa_nil)))) (pg_name (i := 8) scLaw.nd rfl (Or.inl rfl))
          (pss_one (ps_if (pt_cmpR oI (pv 8) (pv 7) rfl) (pss_one (ps_ret pe_bl)) pss_nil)))
        (pss_cons (ps_set (i := 9) scLaw.nd rfl (Or.inl rfl) (pe_call GS r3 rfl cS.g cS.k cS.b .nil pass0 (pa_cons (pv 2) (pa_cons (pv 3) (pa_cons (pv 4) (pa_cons pe_int pa_nil))))))
        (pss_cons (ps_if (pt_cmpR op_ne (pe_cmpR oE (pv 7) (pe_makeS (E := fun _ _ _ _ => False) M GI r5 rfl gT bI passNo (pa_cons (pv 3) (pa_cons (pv 4) (pa_cons (pv 9) pa_nil)))) (nomark _))
          (pe_cmpR oD (pe_callB hSort (by rfl) T.sorted PyProof.Rows.boot_sorted (pa_cons (pe_callTy hSet (by rfl) T.set PyProof.Rows.boot_set (pa_cons (pv 5) pa_nil)) pa_nil)) (pe_callB hSort (by rfl) T.sorted PyProof.Rows.boot_sorted (pa_cons (pe_callTy hSet (by rfl) T.set PyProof.Rows.boot_set (pa_cons (pv 9) pa_nil)) pa_nil)) (nomark _)) (nomark _)) (pss_one (ps_ret pe_bl)) pss_nil)
        (pss_cons (ps_if (PW.pt (pw_or (pt_cmpR oN (pv 7) (pe_makeS (E := fun _ _ _ _ => False) M GI r5 rfl gT bI passNo (pa_cons (pv 3) (pa_cons (pv 4) (pa_cons (pe_revL (pv 5)) pa_nil)))) (nomark _))
          (pw_or (pt_cmpR oE (pv 7) (pv 5) (nomark _)) (pw_or1 (pt_cmpR oE (pv 7) pe_non (nomark _)))))) (pss_one (ps_ret pe_bl)) pss_nil)
        (pss_one (ps_if (PW.pt (pw_or (PW.pt (pw_and (pt_cmpR op_lt (pv 3) pe_int (nomark _)) (pw_and1 (pt_cmpR oE (pv 7) (pe_makeS (E := fun _ _ _ _ => False) M GI r5 rfl gT bI passNo (pa_cons (pe_op op_add (pv 3) pe_int) (pa_cons (pv 4) (pa_cons (pv 5) pa_nil)))) (nomark _)))))
          (pw_or1 (pt_cmpR oE (pv 7) (pe_makeS (E := fun _ _ _ _ => False) M GI r5 rfl gT bI passNo (pa_cons (pv 3) (pa_cons (pe_op op_add (pe_op op_mod (pe_callTy call_int1 (by rfl) T.int (by decide +kernel) (pa_cons (pv 4) pa_nil)) pe_int) pe_int) (pa_cons (pe_lst pa_nil) pa_nil)))) (nomark _))))) (pss_one (ps_ret pe_bl)) pss_nil)))))))))))), ?_⟩
      intro D H6 p l wi n rows n1 n6 n7 n8 n9 fp tl w1 w3 a1 a3 ok h39 hD
      obtain ⟨xs, el, cp⟩ := tl.copy
      refine tSeq_mk (tAsg_mk ?_)
      refine ⟨_, rfl, l, _, rfl, .inl (SqL.of el), fun h nh => ?_⟩
      try dsimp only [gName]
      refine tSeq_mk (tAsg_mk ?_)
      have tH := cp h nh
      have s7 := same_new (o := .lst xs) nh
      refine ⟨_, rfl, _, rfl, _, rfl, mk_table w1 w3 a1 a3 ok (by omega) tH.dp fun H8 t ns s8 cn hT per => ?_⟩
      have hns : ns.length < 64 := Nat.lt_of_le_of_lt cn.len (by omega)
      obtain ⟨f1, f2, f3, f4, _⟩ := fine_list (ds := rows.map rowD) (fun d hd => by
        obtain ⟨x, hx, rfl⟩ := List.mem_map.mp hd
        exact (row_facts w1 w3 a1 a3 (ok x hx)).1) (by rw [List.length_map]; omega)
      have tl8 := tl.on (s7.trans s8)
      refine ⟨_, rfl, .ref h, _, rfl, (tH.on s8).dp, f1, f2, f3, f4, _, rfl, .ref l, _, rfl, tl8.dp, f1, f2, f3, f4, rfl, _, rfl, ifNot (decide_eq_true rfl) ?_⟩
      have eh : H8 h = some (.lst xs) := s8 _ _ upd_same
      refine ⟨_, rfl, .inl ⟨rfl, _, SqL.of eh⟩, h, _, rfl, rfl, eh, ?_⟩
      have hT9 := per h xs (.lst []) upd_same
      have s9 : Same H6 (upd H8 h (.lst [])) := fun b o e => by
        rw [upd_ne (ne_of_none e nh)]
        exact s8 _ _ (s7 b o e)
      refine ⟨_, rfl, _, rfl, _, rfl, _, rfl, t, l, wi, n, rows, ns, rfl, hT9, tl.on s9, ok, by omega, cn, fun H10 s10 => ⟨_, rfl, iteF ?_⟩⟩
      have tl10 := tl.on (s9.trans s10)
      have fp10 := fp.on (s9.trans s10)
      refine ⟨_, rfl, _, rfl, _, rfl, _, rfl, p, l, wi, n, rows, rfl, fp10, w1, w3, a1, a3, tl10, ok, by omega, fun H11 b11 fp11 => ⟨_, rfl, iteF ?_⟩⟩
      have hT11 := (hT9.on s10).but fp10 b11
      have tl11 := tl10.but fp10 b11
      have bb11 : But H6 H11 p := (But.of (s9.trans s10)).trans b11
      -- no odd row is in the table
      try dsimp only [gName]
      refine tSeq_mk ?_
      refine ⟨_, rfl, _, rfl, _, rfl, p, wi, n, rfl, fp11, w1, w3, a1, a3, fun H12 tr r b12 fp12 ro ht => ?_⟩
      obtain ⟨Gm, gm, gb, gp⟩ := minus (H := H12) (p := p)
      have ne12 : H12 p ≠ none := by obtain ⟨_, _, e, _⟩ := fp12; rw [e]; exact fun z => nomatch z
      have hrowG : Dp K Gm (.ref tr) (rowD r) := dpRow (by obtain ⟨_, _, e, _⟩ := fp12; exact SqT.but2 ht e gb)
      refine ⟨_, rfl, .ref tr, wi, n, r, p, Gm, rfl, gm, gp, ne12, hrowG, w1, w3, a1, a3, ro, fun H13 G13 l13 x13 s13 g13 u13 p13 e13 d13 => ?_⟩
      have hT13 := (hT11.but fp11 b12).on s13
      have tl13 := (tl11.but fp11 b12).on s13
      have fp13 := fp12.on s13
      have bb13 : But H6 H13 p := (bb11.trans b12).same s13
      refine ⟨l13, rfl, ⟨x13, SqL.of (u13 _ _ e13)⟩, for_list (K := K) (a := l13) (xs := x13) (fun j σ H' => ∃ m8, σ = [some (.ref sc), n1, some (.ref p), some (.int wi), some (.int n), some (.ref l), some (.ref h), some (.ref t), m8, n9] ∧ Same H13 H') ⟨n8, rfl, Same.refl _⟩ (fun j σ H' _ ⟨_, _, s14⟩ => SqL.of (s14 _ _ (u13 _ _ e13))) ?_ ?_⟩
      · rintro j x σ H14 hx ⟨m8, rfl, s14⟩
        obtain ⟨d, ed, hd⟩ := dpAll_get d13 hx
        obtain ⟨_, nd⟩ := odd_fact w1 w3 a1 a3 ro d (List.mem_of_getElem? ed)
        have hT14 := hT13.on s14
        obtain ⟨⟨dx, lr, eT, _⟩, _⟩ := id hT14
        refine ⟨_, rfl, _, rfl, t, dx, _, rfl, eT, t, wi, n, ns, x, d, rfl, hT14, (hd.on u13).on s14, fun H15 s15 => ⟨_, rfl, _, rfl, ?_⟩⟩
        rw [nd, Bool.false_and]
        exact iteF ⟨_, rfl, s14.trans s15⟩
      · rintro σ H14 ⟨m8, rfl, s14⟩
        have hT14 := hT13.on s14
        have tl14 := tl13.on s14
        have fp14 := fp13.on s14
        try dsimp only [gName]
        refine tSeq_mk (tAsg_mk ?_)
        refine ⟨_, rfl, _, rfl, _, rfl, p, wi, n, 4, rfl, fp14, w1, w3, a1, a3, by decide, fun H16 lo oth b16 fp16 oko leno tlo => ?_⟩
        have hT16 := hT14.but fp14 b16
        have tl16 := tl14.but fp14 b16
        have bb16 : But H6 H16 p := (bb13.same s14).trans b16
        try dsimp only [gName]
        refine tSeq_mk ?_
        -- table == Table(.., other)
        refine eq_made (K := K) TK TI rfl hT16 (DAs.cons (DE.var rfl (.int wi)) (DAs.cons (DE.var rfl (.int n)) (DAs.cons (DE.ref rfl tlo) DAs.nil))) w1 w3 a1 a3 oko (by omega) fun H17 ns2 s17 cn2 => ?_
        dsimp only [tOp, tCB, tCons, tNil, tVar]
        refine ⟨_, rfl, ?_⟩
        refine ssort (P := P) (w := w) w1 a1 (tl16.on s17) ok (by omega) fun H18 u1 m1 s18 tu1 c1 => ?_
        refine ⟨_, rfl, ?_⟩
        refine ssort (P := P) (w := w) w1 a1 ((tlo.on s17).on s18) oko (by omega) fun H19 u2 m2 s19 tu2 c2 => ?_
        have e1 : m1 = ns := (Canon.uniq w1 cn c1 (fun _ => Iff.rfl) ok).symm
        have e2 : m2 = ns2 := (Canon.uniq w1 cn2 c2 (fun _ => Iff.rfl) oko).symm
        subst e1 e2
        refine ⟨rowsD m1, rowsD m2, (tu1.on s19).dp, tu2.dp, rowsD_shaped _, rowsD_shaped _, rfl, _, rfl, ?_⟩
        rw [rowsD_eqv]
        refine ifNot (decide_eq_true ?_) ?_
        · show V.bl (id (decide (wi = wi) && (decide ((n : Int) = n) && decide (m1 = m2)))) = V.bl (decide (m1 = m2))
          rw [decide_eq_true (rfl : wi = wi), decide_eq_true (rfl : (n : Int) = n), Bool.true_and, Bool.true_and]
          rfl
        have s1619 := (s17.trans s18).trans s19
        have hT19 := hT16.on s1619
        have tl19 := tl16.on s1619
        try dsimp only [gName]
        refine tSeq_mk ?_
        refine eq_made (K := K) (g := (!·)) (rows' := rows.reverse) TK TI rfl hT19 (DAs.cons (DE.var rfl (.int wi)) (DAs.cons (DE.var rfl (.int n)) (DAs.cons (by
            have := DE.rev (K := K) (DE.ref (K := K) (i := 5) (σ := [some (.ref sc), n1, some (.ref p), some (.int wi), some (.int n), some (.ref l), some (.ref h), some (.ref t), m8, some (.ref lo)]) rfl tl19)
            rw [show rowsD rows.reverse = PyData.list (rows.map rowD).reverse from by rw [rowsD, List.map_reverse]]
            exact this) DAs.nil))) w1 w3 a1 a3 (fun x hx => ok x (List.mem_reverse.mp hx)) (by rw [List.length_reverse]; omega) fun H20 ns3 s20 cn3 => ?_
        have e3 : m1 = ns3 := Canon.uniq w1 cn cn3 (fun x => List.mem_reverse.symm) ok
        refine ⟨_, rfl, ?_⟩
        rw [decide_eq_true (rfl : wi = wi), decide_eq_true (rfl : (n : Int) = n), decide_eq_true e3]
        refine iteF ?_
        refine eq_data (K := K) (d := rowsD rows) rfl (hT19.on s20) (DE.ref rfl (tl19.on s20)) EK.fl fun H21 s21 => ⟨_, rfl, iteF ?_⟩
        refine eq_data (K := K) (d := .none) rfl ((hT19.on s20).on s21) DE.non EK.fn fun H22 s22 => ⟨_, rfl, iteF ?_⟩
        have s1922 := (s20.trans s21).trans s22
        have hT22 := hT19.on s1922
        have tl22 := tl19.on s1922
        have bb22 : But H6 H22 p := (bb16.same s1619).same s1922
        have okw : RowsOk (wi + 1) n rows := fun x hx => ⟨(ok x hx).1, fun m hm => by
          have := (ok x hx).2 m hm
          exact ⟨this.1, by omega⟩⟩
        refine ⟨_, rfl, _, _, rfl, rfl, _, rfl, ?_⟩
        refine ite2 (fun c => ?_) (fun c => ?_)
        · have c' : wi < 3 := of_decide_eq_true c
          refine eq_made (K := K) (w' := wi + 1) TK TI rfl hT22 (DAs.cons (DE.op0 (k := wi + 1) (DE.var rfl (.int wi)) DE.int rfl) (DAs.cons (DE.var rfl (.int n)) (DAs.cons (DE.ref rfl tl22) DAs.nil))) (by omega) (by omega) a1 a3 okw (by omega) fun H23 ns4 s23 c4 => ?_
          refine ⟨_, rfl, ?_⟩
          rw [decide_eq_false (show ¬ wi = wi + 1 by omega), Bool.false_and]
          refine iteF ?_
          refine eq_made (K := K) (a' := (n : Int) % 3 + 1) (rows' := []) TK TI rfl (hT22.on s23) (DAs.cons (DE.var rfl (.int wi)) (DAs.cons (fun H0 Q s q => ⟨_, rfl, .inl ⟨_, rfl, _, _, rfl, rfl, (by show (0 : Int) < 3; decide), _, _, rfl, rfl, q H0 _ (Same.refl _) (.int _)⟩⟩) (DAs.cons (DL.lst DAs.nil (Nat.le_of_ble_eq_true rfl)).toE DAs.nil))) w1 w3 (by omega) (by omega) (by intro x hx; cases hx) (by decide) fun H24 ns5 s24 c5 => ?_
          refine ⟨_, rfl, ?_⟩
          rw [decide_eq_false (show ¬ (n : Int) = (n : Int) % 3 + 1 by omega), Bool.false_and, Bool.and_false]
          exact iteF (hD _ _ ⟨_, _, _, _, _, _, _, _, _, rfl⟩ (bb22.same (s23.trans s24)))
        · refine eq_made (K := K) (a' := (n : Int) % 3 + 1) (rows' := []) TK TI rfl hT22 (DAs.cons (DE.var rfl (.int wi)) (DAs.cons (fun H0 Q s q => ⟨_, rfl, .inl ⟨_, rfl, _, _, rfl, rfl, (by show (0 : Int) < 3; decide), _, _, rfl, rfl, q H0 _ (Same.refl _) (.int _)⟩⟩) (DAs.cons (DL.lst DAs.nil (Nat.le_of_ble_eq_true rfl)).toE DAs.nil))) w1 w3 (by omega) (by omega) (by intro x hx; cases hx) (by decide) fun H24 ns5 s24 c5 => ?_
          refine ⟨_, rfl, ?_⟩
          rw [decide_eq_false (show ¬ (n : Int) = (n : Int) % 3 + 1 by omega), Bool.false_and, Bool.and_false]
          exact iteF (hD _ _ ⟨_, _, _, _, _, _, _, _, _, rfl⟩ (bb22.same s24))
    obtain ⟨tr, hrest, hgo⟩ := rest
    refine ⟨_, pss_cons (ps_for PassesOwn.never rfl (pi_range1 rfl T.range (pa_cons (pe_callB (call_max2 rfl) (by rfl) T.max (by decide +kernel) (pa_cons pe_int (pa_cons (pe_callB (call_min2 rfl) (by rfl) T.min (by decide +kernel) (pa_cons pe_int (pa_cons (pe_callB call_len_seq (by rfl) T.len PySem.boot_len (pa_cons (pv 0) pa_nil)) pa_nil))) pa_nil))) pa_nil)) (pg_name (i := 1) scLaw.nd rfl (Or.inl rfl))
        (pss_cons (ps_set (i := 2) scLaw.nd rfl (Or.inl rfl) (pe_call GF r1 rfl cF.g cF.k cF.b .nil pass0 (pa_cons (pv 0) (pa_cons (pv 1) pa_nil))))
        (pss_cons (ps_par (i := 3) (j := 4) rfl scLaw.nd rfl rfl (by decide) rfl rfl (pa_cons (pe_op op_add pe_int (pe_call GT r1 rfl cT.g cT.k cT.b .nil pass0 (pa_cons (pv 2) (pa_cons pe_int pa_nil)))) (pa_cons (pe_op op_add pe_int (pe_call GT r1 rfl cT.g cT.k cT.b .nil pass0 (pa_cons (pv 2) (pa_cons pe_int pa_nil)))) pa_nil)) rfl)
        (pss_cons (ps_set (i := 5) scLaw.nd rfl (Or.inl rfl) (pe_call GS r3 rfl cS.g cS.k cS.b .nil pass0 (pa_cons (pv 2) (pa_cons (pv 3) (pa_cons (pv 4) (pa_cons pe_int pa_nil))))))
        (pss_cons (ps_if (pt_cmpR op_eq (pe_call GT r1 rfl cT.g cT.k cT.b .nil pass0 (pa_cons (pv 2) (pa_cons pe_int pa_nil))) pe_int (nomark _)) (pss_one (ps_set (i := 5) scLaw.nd rfl (Or.inl rfl) (pe_op op_cat (pv 5) (pe_call GA r1 rfl cA.g cA.k cA.b .nil pass0 (pa_cons (pv 3) (pa_cons (pv 4) pa_nil)))))) pss_nil) hrest)))))
      (pss_one (ps_ret pe_bl)), ?_⟩
    have hb : ∀ z : Int, 0 ≤ z → -(2 ^ 62) ≤ (if (if z < 3 then z else 3) > 1 then (if z < 3 then z else 3) else 1) ∧ (if (if z < 3 then z else 3) > 1 then (if z < 3 then z else 3) else 1) < 2 ^ 62 ∧ (if (if z < 3 then z else 3) > 1 then (if z < 3 then z else 3) else 1).toNat ≤ 3 := by
      intro z hz
      by_cases h1 : z < 3 <;> by_cases h2 : z > 1 <;> simp [h1, h2] <;> omega
    have hbb := hb ((ns.map V.int).length : Nat) (Int.natCast_nonneg _)
    refine ⟨_, rfl, sc, _, rfl, .inl hS, _, _, rfl, _, _, rfl, _, rfl, hbb.1, hbb.2.1, for_range (lo := 0) (fun i σ H' => ∃ m1 m2 m3 m4 m5 m6 m7 m8 m9, σ = [some (.ref sc), m1, m2, m3, m4, m5, m6, m7, m8, m9] ∧ Same H H') ⟨_, _, _, _, _, _, _, _, _, rfl, Same.refl _⟩ ?_ ?_⟩
    · rintro i σ H1 hi ⟨m1, m2, m3, m4, m5, m6, m7, m8, m9, rfl, s1⟩
      have hi3 : i < 3 := Nat.lt_of_lt_of_le hi hbb.2.2
      refine tSeq_mk (tAsg_mk ?_)
      refine ⟨_, rfl, _, rfl, sc, ns, i, (by show [V.ref sc, V.int (0 + (i : Int))] = [V.ref sc, V.int (i : Int)]; rw [Int.zero_add]), hS.on s1, h63, by omega, fun H2 p s2 np fp => ?_⟩
      try dsimp only [gName]
      refine tSeq_mk ?_
      refine ⟨_, rfl, p, 3, rfl, fp, by decide, by decide, fun H3 d1 b3 fp3 x0 x1 => ⟨_, _, rfl, rfl, ?_⟩⟩
      refine ⟨_, rfl, p, 3, rfl, fp3, by decide, by decide, fun H4 d2 b4 fp4 y0 y1 => ⟨_, _, rfl, rfl, .int (1 + d1), .int (1 + d2), rfl, ?_⟩⟩
      obtain ⟨n, hn⟩ : ∃ n : Nat, 1 + d2 = (n : Int) := ⟨(1 + d2).toNat, by omega⟩
      obtain ⟨wi, hw⟩ : ∃ wi : Int, 1 + d1 = wi := ⟨_, rfl⟩
      rw [hn, hw]
      try dsimp only
      refine tSeq_mk (tAsg_mk ?_)
      have w1 : 1 ≤ wi := by omega
      have w3 : wi ≤ 3 := by omega
      have a1 : (1 : Int) ≤ n := by omega
      have a3 : (n : Int) ≤ 3 := by omega
      refine ⟨_, rfl, _, rfl, _, rfl, p, wi, n, 12, rfl, fp4, w1, w3, a1, a3, by decide, fun H5 l r0 b5 fp5 ok0 len0 tl0 => ?_⟩
      try dsimp only [gName]
      refine tSeq_mk ?_
      refine ⟨_, rfl, p, 4, rfl, fp5, by decide, by decide, fun H6 g b6 fp6 g0 g1 => ⟨rfl, _, rfl, ?_⟩⟩
      have tl6 := tl0.but fp5 b6
      have bb6 : But H2 H6 p := ((b3.trans b4).trans b5).trans b6
      have back : ∀ H', But H2 H' p → Same H H' := fun H' bb => s1.trans fun b o e => bb b o (ne_of_none e np) (s2 b o e)
      refine ite2 (fun c => ?_) (fun c => ?_)
      · refine ⟨_, rfl, _, rfl, _, rfl, wi, n, rfl, w1, w3, by omega, fun H7 la s7 ta => ?_⟩
        obtain ⟨xs, ys, e1, e2, l1, l2, fin⟩ := told_cat (p := p) (tl6.on s7) ta
        have hal := all_small w1 w3 (n := n) (by omega)
        refine ⟨l, la, xs, ys, rfl, rfl, e1, e2, small3 (by rw [l1, l2]; omega), fun q7 n7 => ?_⟩
        refine hgo _ _ p q7 wi n (r0 ++ allRows wi n) _ _ _ _ _ ((fp6.on s7).on (same_new n7)) (fin q7 n7) w1 w3 a1 a3 (fun x hx => ?_) (by rw [List.length_append]; omega) (fun σ' H' ⟨k1, k2, k3, k4, k5, k6, k7, k8, k9, e⟩ bb => ⟨k1, k2, k3, k4, k5, k6, k7, k8, k9, e, back H' (((bb6.same s7).same (same_new n7)).trans bb)⟩)
        rcases List.mem_append.mp hx with hx | hx
        · exact ok0 x hx
        · exact ⟨by rw [all_mem wi n _ hx], all_ok n _ hx⟩
      · exact hgo _ H6 p l wi n r0 _ _ _ _ _ fp6 tl6 w1 w3 a1 a3 ok0 (by omega) (fun σ' H' ⟨k1, k2, k3, k4, k5, k6, k7, k8, k9, e⟩ bb => ⟨k1, k2, k3, k4, k5, k6, k7, k8, k9, e, back H' (bb6.trans bb)⟩)
    · rintro σ H1 ⟨m1, m2, m3, m4, m5, m6, m7, m8, m9, rfl, s1⟩
      exact q H1
end
end Law
set_option Elab.async false
set_option linter.all false
set_option maxRecDepth 100000
set_option maxHeartbeats 8000000
namespace Law
open PySem PySem.Spec PyProof.Rows L2 PySem.NearX
theorem exm_own {K : PySem.W.Frag} {S : Addr} (h1 : PySem.W.subIn K (.ref S) (.type "BaseException") = some true) (h2 : PySem.W.isClsIn K S = true) (h3 : PySem.W.typeIn K (.ref S) = some (.type "type")) (h4 : PySem.W.subIn K (.ref S) (.ref S) = some true) : PySem.W.exmOne K (.ref S) (.ref S) = some true := by
  have e1 : (PySem.W.subIn K (.ref S) (.type "BaseException") == some true) = true := by rw [h1] <;> rfl
  have e2 : ((PySem.W.clsIn K S).isSome && PySem.W.typeIn K (.ref S) == some (.type "type")) = true := by
    have h2' : (PySem.W.clsIn K S).isSome = true := h2
    rw [h2', h3] <;> rfl
  show (if (PySem.W.subIn K (.ref S) (.type "BaseException") == some true) = true then (if ((PySem.W.clsIn K S).isSome && PySem.W.typeIn K (.ref S) == some (.type "type")) = true then PySem.W.subIn K (.ref S) (.ref S) else none) else none) = some true
  rw [if_pos e1, if_pos e2]
  exact h4
def exmAll (K : PySem.W.Frag) (cs : List Addr) : Bool := (List.range cs.length).all fun i => (List.range cs.length).all fun j => PySem.W.exmOne K (.ref (cs.getD j 0)) (.ref (cs.getD i 0)) == some (decide (i = j))
theorem exm_all {K : PySem.W.Frag} {cs : List Addr} (h : exmAll K cs = true) {i j : Nat} (hi : i < cs.length) (hj : j < cs.length) : PySem.W.exmOne K (.ref (cs.getD j 0)) (.ref (cs.getD i 0)) = some (decide (i = j)) := by
  unfold exmAll at h
  rw [List.all_eq_true] at h
  have h1 := h i (List.mem_range.mpr hi)
  rw [List.all_eq_true] at h1
  exact eq_of_beq (h1 j (List.mem_range.mpr hj))
def kitNo (K : PySem.W.Frag) (C : Addr) : Bool := (["NoneType", "bool", "int", "str", "list", "tuple"] : List String).all fun n => PySem.W.kitOne K (.type n) (.ref C) == some false
theorem kit_no {K : PySem.W.Frag} {C : Addr} (h : kitNo K C = true) : ∀ n ∈ (["NoneType", "bool", "int", "str", "list", "tuple"] : List String), PySem.W.kitOne K (.type n) (.ref C) = some false := fun n hn => eq_of_beq (List.all_eq_true.mp h n hn)
theorem all_mk {l : PySem.W.OpenLaw} {w : World} {K : PySem.W.Frag} {h : Heap} {mg : Str → Option Value} {fa : Addr} (X : K.In h) (G : h.Ns mainGlobals mg) (hfa : mg "law" = some (.ref fa)) (hl : l.prog = PySem.Challenge.pw_nearsettled_k01_what_is_a_table)
    {CW CA CL CR C pR IR cdaR ccR NR_ : Addr} {tW tA tfR : Tok} {restR : List Value}
    {fB fBe fRo fW fA fF fT fP fAl fD fS fM fO fRi fV fL fI fRw fLe fH fE : Addr}
    {odB anB odBe anBe odRo anRo odW anW odA anA odF anF odT anT odP anP odAl anAl odD anD odS anS odM anM odO anO odRi anRi odV anV odL anL odI anI odRw anRw odLe anLe odH anH odE anE : Option Addr} {slB slBe slRo slW slA slF slT slP slAl slD slS slM slO slRi slV slL slI slRw slLe slH slE : Array (Option Value)} {ocB kVB dcB pmB cdB ctB ocBe kVBe dcBe pmBe cdBe ctBe ocRo kVRo dcRo pmRo cdRo ctRo ocW kVW dcW pmW cdW ctW ocA kVA dcA pmA cdA ctA ocF kVF dcF pmF cdF ctF ocT kVT dcT pmT cdT ctT ocP kVP dcP pmP cdP ctP ocAl kVAl dcAl pmAl cdAl ctAl ocD kVD dcD pmD cdD ctD ocS kVS dcS pmS cdS ctS ocM kVM dcM pmM cdM ctM ocO kVO dcO pmO cdO ctO ocRi kVRi dcRi pmRi cdRi ctRi ocV kVV dcV pmV cdV ctV ocL kVL dcL pmL cdL ctL ocI kVI dcI pmI cdI ctI ocRw kVRw dcRw pmRw cdRw ctRw ocLe kVLe dcLe pmLe cdLe ctLe ocH kVH dcH pmH cdH ctH ocE kVE dcE pmE cdE ctE : Value}
    {nmR qR fileR : Str} {bsR bmR subR : List Value} {snR : List Str} {abR : Bool} {colR : Option Bool} {ddR idR ianR cddR cedR : Option Addr} {m0R m1R m2R m3R m5R : Option Value} {ioR ic_dcR ipmR ictR cdcR cecR : Value} {islR cdlR celR : Array (Option Value)} {cvsR : Array Value}
    (aCW : PySem.W.nsIn K mainGlobals "BadWidth" = some (some (.ref CW)))
    (aCA : PySem.W.nsIn K mainGlobals "BadArity" = some (some (.ref CA)))
    (aCL : PySem.W.nsIn K mainGlobals "NoList" = some (some (.ref CL)))
    (aCR : PySem.W.nsIn K mainGlobals "BadRow" = some (some (.ref CR)))
    (aC : PySem.W.nsIn K mainGlobals "Table" = some (some (.ref C)))
    (aGW : PySem.W.nsIn K mainGlobals "GREATEST_WIDTH" = some (some (.int 3 tW)))
    (aGA : PySem.W.nsIn K mainGlobals "GREATEST_ARITY" = some (some (.int 3 tA)))
    (m_len : PySem.W.nsIn K mainGlobals "len" = some none)
    (m_max : PySem.W.nsIn K mainGlobals "max" = some none)
    (m_min : PySem.W.nsIn K mainGlobals "min" = some none)
    (m_abs : PySem.W.nsIn K mainGlobals "abs" = some none)
    (m_int : PySem.W.nsIn K mainGlobals "int" = some none)
    (m_bool : PySem.W.nsIn K mainGlobals "bool" = some none)
    (m_tuple : PySem.W.nsIn K mainGlobals "tuple" = some none)
    (m_list : PySem.W.nsIn K mainGlobals "list" = some none)
    (m_set : PySem.W.nsIn K mainGlobals "set" = some none)
    (m_sorted : PySem.W.nsIn K mainGlobals "sorted" = some none)
    (m_range : PySem.W.nsIn K mainGlobals "range" = some none)
    (m_enumerate : PySem.W.nsIn K mainGlobals "enumerate" = some none)
    (m_isinstance : PySem.W.nsIn K mainGlobals "isinstance" = some none)
    (m_all : PySem.W.nsIn K mainGlobals "all" = some none)
    (m_repr : PySem.W.nsIn K mainGlobals "repr" = some none)
    (m_super : PySem.W.nsIn K mainGlobals "super" = some none)
    (aB : PySem.W.nsIn K mainGlobals "is_between" = some (some (.ref fB)))
    (lB : K.lookup fB = some ⟨ocB, odB, .func (PySem.W.fnOf "is_between" "is_between" (defArgs sBetween) (defBody sBetween) (defScope sBetween) .none kVB dcB pmB anB cdB ctB), slB⟩)
    (cB : PySem.W.codeIn K cdB "is_between" = true)
    (kB : PySem.W.keepIn K (.ref fB) = true)
    (aBe : PySem.W.nsIn K mainGlobals "is_below" = some (some (.ref fBe)))
    (lBe : K.lookup fBe = some ⟨ocBe, odBe, .func (PySem.W.fnOf "is_below" "is_below" (defArgs sBelow) (defBody sBelow) (defScope sBelow) .none kVBe dcBe pmBe anBe cdBe ctBe), slBe⟩)
    (cBe : PySem.W.codeIn K cdBe "is_below" = true)
    (kBe : PySem.W.keepIn K (.ref fBe) = true)
    (aRo : PySem.W.nsIn K mainGlobals "is_row" = some (some (.ref fRo)))
    (lRo : K.lookup fRo = some ⟨ocRo, odRo, .func (PySem.W.fnOf "is_row" "is_row" (defArgs sRow) (defBody sRow) (defScope sRow) .none kVRo dcRo pmRo anRo cdRo ctRo), slRo⟩)
    (cRo : PySem.W.codeIn K cdRo "is_row" = true)
    (kRo : PySem.W.keepIn K (.ref fRo) = true)
    (aW : PySem.W.nsIn K mainGlobals "check_width" = some (some (.ref fW)))
    (lW : K.lookup fW = some ⟨ocW, odW, .func (PySem.W.fnOf "check_width" "check_width" (defArgs sCkW) (defBody sCkW) (defScope sCkW) .none kVW dcW pmW anW cdW ctW), slW⟩)
    (cW : PySem.W.codeIn K cdW "check_width" = true)
    (kW : PySem.W.keepIn K (.ref fW) = true)
    (aA : PySem.W.nsIn K mainGlobals "check_arity" = some (some (.ref fA)))
    (lA : K.lookup fA = some ⟨ocA, odA, .func (PySem.W.fnOf "check_arity" "check_arity" (defArgs sCkA) (defBody sCkA) (defScope sCkA) .none kVA dcA pmA anA cdA ctA), slA⟩)
    (cA : PySem.W.codeIn K cdA "check_arity" = true)
    (kA : PySem.W.keepIn K (.ref fA) = true)
    (aF : PySem.W.nsIn K mainGlobals "_law_feed" = some (some (.ref fF)))
    (lF : K.lookup fF = some ⟨ocF, odF, .func (PySem.W.fnOf "_law_feed" "_law_feed" (defArgs sFeed) (defBody sFeed) (defScope sFeed) .none kVF dcF pmF anF cdF ctF), slF⟩)
    (cF : PySem.W.codeIn K cdF "_law_feed" = true)
    (kF : PySem.W.keepIn K (.ref fF) = true)
    (aT : PySem.W.nsIn K mainGlobals "_law_take" = some (some (.ref fT)))
    (lT : K.lookup fT = some ⟨ocT, odT, .func (PySem.W.fnOf "_law_take" "_law_take" (defArgs sTake) (defBody sTake) (defScope sTake) .none kVT dcT pmT anT cdT ctT), slT⟩)
    (cT : PySem.W.codeIn K cdT "_law_take" = true)
    (kT : PySem.W.keepIn K (.ref fT) = true)
    (aP : PySem.W.nsIn K mainGlobals "_law_pick" = some (some (.ref fP)))
    (lP : K.lookup fP = some ⟨ocP, odP, .func (PySem.W.fnOf "_law_pick" "_law_pick" (defArgs sPick) (defBody sPick) (defScope sPick) .none kVP dcP pmP anP cdP ctP), slP⟩)
    (cP : PySem.W.codeIn K cdP "_law_pick" = true)
    (kP : PySem.W.keepIn K (.ref fP) = true)
    (aAl : PySem.W.nsIn K mainGlobals "_law_all" = some (some (.ref fAl)))
    (lAl : K.lookup fAl = some ⟨ocAl, odAl, .func (PySem.W.fnOf "_law_all" "_law_all" (defArgs sAll) (defBody sAll) (defScope sAll) .none kVAl dcAl pmAl anAl cdAl ctAl), slAl⟩)
    (cAl : PySem.W.codeIn K cdAl "_law_all" = true)
    (kAl : PySem.W.keepIn K (.ref fAl) = true)
    (aD : PySem.W.nsIn K mainGlobals "_law_drawn_row" = some (some (.ref fD)))
    (lD : K.lookup fD = some ⟨ocD, odD, .func (PySem.W.fnOf "_law_drawn_row" "_law_drawn_row" (defArgs sDRow) (defBody sDRow) (defScope sDRow) .none kVD dcD pmD anD cdD ctD), slD⟩)
    (cD : PySem.W.codeIn K cdD "_law_drawn_row" = true)
    (kD : PySem.W.keepIn K (.ref fD) = true)
    (aS : PySem.W.nsIn K mainGlobals "_law_drawn_rows" = some (some (.ref fS)))
    (lS : K.lookup fS = some ⟨ocS, odS, .func (PySem.W.fnOf "_law_drawn_rows" "_law_drawn_rows" (defArgs sDRows) (defBody sDRows) (defScope sDRows) .none kVS dcS pmS anS cdS ctS), slS⟩)
    (cS : PySem.W.codeIn K cdS "_law_drawn_rows" = true)
    (kS : PySem.W.keepIn K (.ref fS) = true)
    (aM : PySem.W.nsIn K mainGlobals "_law_made" = some (some (.ref fM)))
    (lM : K.lookup fM = some ⟨ocM, odM, .func (PySem.W.fnOf "_law_made" "_law_made" (defArgs sMade) (defBody sMade) (defScope sMade) .none kVM dcM pmM anM cdM ctM), slM⟩)
    (cM : PySem.W.codeIn K cdM "_law_made" = true)
    (kM : PySem.W.keepIn K (.ref fM) = true)
    (aO : PySem.W.nsIn K mainGlobals "_law_odd_rows" = some (some (.ref fO)))
    (lO : K.lookup fO = some ⟨ocO, odO, .func (PySem.W.fnOf "_law_odd_rows" "_law_odd_rows" (defArgs sOdd) (defBody sOdd) (defScope sOdd) .none kVO dcO pmO anO cdO ctO), slO⟩)
    (cO : PySem.W.codeIn K cdO "_law_odd_rows" = true)
    (kO : PySem.W.keepIn K (.ref fO) = true)
    (aRi : PySem.W.nsIn K mainGlobals "_law_table_right" = some (some (.ref fRi)))
    (lRi : K.lookup fRi = some ⟨ocRi, odRi, .func (PySem.W.fnOf "_law_table_right" "_law_table_right" (defArgs sRight) (defBody sRight) (defScope sRight) .none kVRi dcRi pmRi anRi cdRi ctRi), slRi⟩)
    (cRi : PySem.W.codeIn K cdRi "_law_table_right" = true)
    (kRi : PySem.W.keepIn K (.ref fRi) = true)
    (aV : PySem.W.nsIn K mainGlobals "_law_refused_right" = some (some (.ref fV)))
    (lV : K.lookup fV = some ⟨ocV, odV, .func (PySem.W.fnOf "_law_refused_right" "_law_refused_right" (defArgs sRef) (defBody sRef) (defScope sRef) .none kVV dcV pmV anV cdV ctV), slV⟩)
    (cV : PySem.W.codeIn K cdV "_law_refused_right" = true)
    (kV : PySem.W.keepIn K (.ref fV) = true)
    (aL : PySem.W.nsIn K mainGlobals "law" = some (some (.ref fL)))
    (lL : K.lookup fL = some ⟨ocL, odL, .func (PySem.W.fnOf "law" "law" (defArgs sLaw) (defBody sLaw) (defScope sLaw) .none kVL dcL pmL anL cdL ctL), slL⟩)
    (cL : PySem.W.codeIn K cdL "law" = true)
    (kL : PySem.W.keepIn K (.ref fL) = true)
    (aI : PySem.W.findIn K (.ref C) "__init__" = some (some (.ref fI)))
    (lI : K.lookup fI = some ⟨ocI, odI, .func (PySem.W.fnOf "__init__" "Table.__init__" (defArgs sInit) (defBody sInit) (defScope sInit) .none kVI dcI pmI anI cdI ctI), slI⟩)
    (cI : PySem.W.codeIn K cdI "Table.__init__" = true)
    (kI : PySem.W.keepIn K (.ref fI) = true)
    (iI : PySem.W.isFn K (.ref fI) = true)
    (pat : PySem.W.findIn K (.ref C) "rows" = some (some (.ref pR)))
    (pgt : PySem.W.specialIn K (.ref pR) "__get__" = some (some (.builtin "property.__get__")))
    (ptk : PySem.W.takesIn K (.ref pR) = some true)
    (prc : PySem.W.recIn K pR "property" = some (.ref fRw :: restR))
    (lRw : K.lookup fRw = some ⟨ocRw, odRw, .func (PySem.W.fnOf "rows" "Table.rows" (defArgs sRows) (defBody sRows) (defScope sRows) .none kVRw dcRw pmRw anRw cdRw ctRw), slRw⟩)
    (cRw : PySem.W.codeIn K cdRw "Table.rows" = true)
    (kRw : PySem.W.keepIn K (.ref fRw) = true)
    (iRw : PySem.W.isFn K (.ref fRw) = true)
    (aLe : PySem.W.findIn K (.ref C) "__len__" = some (some (.ref fLe)))
    (lLe : K.lookup fLe = some ⟨ocLe, odLe, .func (PySem.W.fnOf "__len__" "Table.__len__" (defArgs sLen) (defBody sLen) (defScope sLen) .none kVLe dcLe pmLe anLe cdLe ctLe), slLe⟩)
    (cLe : PySem.W.codeIn K cdLe "Table.__len__" = true)
    (kLe : PySem.W.keepIn K (.ref fLe) = true)
    (iLe : PySem.W.isFn K (.ref fLe) = true)
    (aH : PySem.W.findIn K (.ref C) "__contains__" = some (some (.ref fH)))
    (lH : K.lookup fH = some ⟨ocH, odH, .func (PySem.W.fnOf "__contains__" "Table.__contains__" (defArgs sHas) (defBody sHas) (defScope sHas) .none kVH dcH pmH anH cdH ctH), slH⟩)
    (cH : PySem.W.codeIn K cdH "Table.__contains__" = true)
    (kH : PySem.W.keepIn K (.ref fH) = true)
    (iH : PySem.W.isFn K (.ref fH) = true)
    (aE : PySem.W.findIn K (.ref C) "__eq__" = some (some (.ref fE)))
    (lE : K.lookup fE = some ⟨ocE, odE, .func (PySem.W.fnOf "__eq__" "Table.__eq__" (defArgs sEq) (defBody sEq) (defScope sEq) .none kVE dcE pmE anE cdE ctE), slE⟩)
    (cE : PySem.W.codeIn K cdE "Table.__eq__" = true)
    (kE : PySem.W.keepIn K (.ref fE) = true)
    (iE : PySem.W.isFn K (.ref fE) = true)
    (hn : PySem.W.specialIn K (.builtin "object.__class__") "__get__" = some (some (.builtin "getset_descriptor.__get__")))
    (ht : PySem.W.takesIn K (.builtin "object.__class__") = some true)
    (tp : PySem.W.nsIn K cStatics "thirdparty.any" = some none)
    (tpg : PySem.W.plainGet K C Str.empty = true)
    (thd : PySem.W.hasDictIn K C = true)
    (tpo : PySem.W.plainOver K C = true)
    (tsa : PySem.W.findIn K (.ref C) "__setattr__" = some (some (.builtin "object.__setattr__")))
    (tnw : PySem.W.findIn K (.ref C) "width" = some none)
    (tna : PySem.W.findIn K (.ref C) "arity" = some none)
    (tnr : PySem.W.findIn K (.ref C) "_rows" = some none)
    (tcl : PySem.W.findIn K (.ref C) "__class__" = some (some (.builtin "object.__class__")))
    (tob : PySem.W.mroIn K C (.type "object") = some true)
    (tme : PySem.W.kitOne K (.ref C) (.ref C) = some true)
    (tno : kitNo K C = true)
    (tne : PySem.W.findIn K (.ref C) "__ne__" = some (some (.builtin "object.__ne__")))
    (tso : PySem.W.subIn K (.ref C) (.type "object") = some true)
    (tfl : PySem.W.notFirst K C (.type "list") = true)
    (tfn : PySem.W.notFirst K C (.type "NoneType") = true)
    (tmk : PySem.W.makesIn K C = true)
    (tkp : PySem.W.keepIn K (.ref C) = true)
    (xCW : PySem.W.excIn K CW [.type "ValueError", .type "Exception", .type "BaseException", .type "object"] "ValueError.__new__" = true)
    (xCA : PySem.W.excIn K CA [.type "ValueError", .type "Exception", .type "BaseException", .type "object"] "ValueError.__new__" = true)
    (xCL : PySem.W.excIn K CL [.type "ValueError", .type "Exception", .type "BaseException", .type "object"] "ValueError.__new__" = true)
    (kCW : PySem.W.keepIn K (.ref CW) = true)
    (eCW : PySem.W.subIn K (.ref CW) (.type "BaseException") = some true)
    (yCW : PySem.W.typeIn K (.ref CW) = some (.type "type"))
    (kCA : PySem.W.keepIn K (.ref CA) = true)
    (eCA : PySem.W.subIn K (.ref CA) (.type "BaseException") = some true)
    (yCA : PySem.W.typeIn K (.ref CA) = some (.type "type"))
    (kCL : PySem.W.keepIn K (.ref CL) = true)
    (eCL : PySem.W.subIn K (.ref CL) (.type "BaseException") = some true)
    (yCL : PySem.W.typeIn K (.ref CL) = some (.type "type"))
    (kCR : PySem.W.keepIn K (.ref CR) = true)
    (eCR : PySem.W.subIn K (.ref CR) (.type "BaseException") = some true)
    (yCR : PySem.W.typeIn K (.ref CR) = some (.type "type"))
    (exA : exmAll K [CW, CA, CL, CR] = true)
    (xlR : K.lookup CR = some (excClassObj nmR qR CR NR_ bsR bmR true snR subR abR colR ddR m0R m1R m2R m3R m5R "ValueError.__new__"))
    (rvR : PySem.HandSPX.refsVE bmR = true)
    (saR : PySem.W.findIn K (.ref CR) "__setattr__" = some (some (.builtin "object.__setattr__")))
    (gaR : PySem.W.findIn K (.ref CR) "__getattribute__" = some (some (.builtin "BaseException.__getattribute__")))
    (ggR : PySem.W.findIn K (.ref CR) "__getattr__" = some none)
    (noR : PySem.W.findIn K (.ref CR) "number" = some none)
    (icR : PySem.W.findIn K (.ref CR) "__init__" = some (some (.ref IR)))
    (tiR : PySem.W.typeIn K (.ref IR) = some (.type "function"))
    (hdR : PySem.W.hasDictIn K CR = true)
    (isR : PySem.W.isClsIn K CR = true)
    (ssR : PySem.W.subIn K (.ref CR) (.ref CR) = some true)
    (svR : PySem.W.subIn K (.ref CR) (.type "ValueError") = some true)
    (smR : PySem.W.mroIn K CR (.ref CR) = some true)
    (suR : PySem.W.ks_superIn K CR CR "__init__" = some (some (.builtin "ValueError.__init__")))
    (liR : K.lookup IR = some ⟨ioR, idR, .func (PySem.W.ksFn "__init__" "BadRow.__init__" (defArgs sBadRow) (defBody sBadRow) (defScope sBadRow) .none .none ic_dcR ipmR ianR (.ref cdaR) ictR ccR), islR⟩)
    (ciR : PySem.W.codeIn K (.ref cdaR) "BadRow.__init__" = true)
    (cdR : K.lookup cdaR = some ⟨cdcR, cddR, .fields cvsR, cdlR⟩)
    (vsR : cvsR[2]? = some (.str fileR tfR))
    (fiR : ((PySem.Challenge.pw_nearsettled_k01_what_is_a_table.main.file : Str) == fileR) = true)
    (ceR : K.lookup ccR = some ⟨cecR, cedR, .cell (some (.ref CR)), celR⟩) :
    ∃ fd : FuncData, (∀ (s : Shared) (u : Value), BindsTo s fd ⟨[u], []⟩ [("script", u)]) ∧ ∀ base : Heap, K.In base → base.Ns mainGlobals mg → FnG l.prog w K mg base CX0 9 fa fd ["script"] (spLaw K) := by
  have e := hfa.symm.trans (PySem.W.mg_of X G aL)
  cases e
  rw [hl]
  have T : Blt mg := ⟨PySem.W.mg_none_of X G m_len, PySem.W.mg_none_of X G m_max, PySem.W.mg_none_of X G m_min, PySem.W.mg_none_of X G m_abs, PySem.W.mg_none_of X G m_int, PySem.W.mg_none_of X G m_bool, PySem.W.mg_none_of X G m_tuple, PySem.W.mg_none_of X G m_list, PySem.W.mg_none_of X G m_set, PySem.W.mg_none_of X G m_sorted, PySem.W.mg_none_of X G m_range, PySem.W.mg_none_of X G m_enumerate, PySem.W.mg_none_of X G m_isinstance, PySem.W.mg_none_of X G m_all, PySem.W.mg_none_of X G m_repr⟩
  have NR : NearTxt PySem.Challenge.pw_nearsettled_k01_what_is_a_table K mg "BadRow" "number" CR IR (jsOf sBadRow).1 (jsOf sBadRow).2 :=
    { fs := .inl rfl, gC := PySem.W.mg_of X G aCR, cls := ⟨nmR, qR, NR_, bsR, bmR, snR, subR, abR, colR, ddR, m0R, m1R, m2R, m3R, m5R, xlR, rvR⟩, sa := saR, ga := gaR, gg := ggR, noN := noR, iC := icR, tC := tiR, kC := kCR, exC := eCR, tyC := yCR, hdC := hdR, te := exm_own eCR isR yCR ssR,
      subV := svR, subC := smR, tp := tp, sup := suR, nosup := PySem.W.mg_none_of X G m_super, htop := (by decide +kernel),
      fn := ⟨ioR, idR, ic_dcR, ipmR, ianR, cdaR, ictR, islR, ccR, "BadRow.__init__", _, _, _, _, _, _, _, _, _, _, _, liR, ciR, ⟨cdcR, cddR, cvsR, cdlR, fileR, tfR, cdR, vsR, fiR⟩, ⟨cecR, cedR, celR, ceR⟩, ⟨_, fun env => rfl⟩⟩ }
  have ZW : Err K mg "BadWidth" CW := ⟨xCW, PySem.W.mg_of X G aCW, kCW, eCW, yCW⟩
  have ZA : Err K mg "BadArity" CA := ⟨xCA, PySem.W.mg_of X G aCA, kCA, eCA, yCA⟩
  have ZL : Err K mg "NoList" CL := ⟨xCL, PySem.W.mg_of X G aCL, kCL, eCL, yCL⟩
  have ex4 : ∀ i j : Nat, i < 4 → j < 4 → PySem.W.exmOne K (.ref (([CW, CA, CL, CR] : List Addr).getD j 0)) (.ref (([CW, CA, CL, CR] : List Addr).getD i 0)) = some (decide (i = j)) := fun i j hi hj => exm_all exA hi hj
  have XM : Exm K CW CA CL CR := ⟨ex4 0 0 (by decide) (by decide), ex4 0 1 (by decide) (by decide), ex4 1 1 (by decide) (by decide), ex4 0 2 (by decide) (by decide), ex4 1 2 (by decide) (by decide), ex4 2 2 (by decide) (by decide), ex4 0 3 (by decide) (by decide), ex4 1 3 (by decide) (by decide), ex4 2 3 (by decide) (by decide), ex4 3 3 (by decide) (by decide)⟩
  have TK : TabK K C := ⟨⟨tpg, thd, tpo, tsa⟩, tnw, tna, tnr⟩
  have TI : TabI K C := ⟨tcl, hn, ht, tob, tme, kit_no tno⟩
  have EK : EqK K C := ⟨tne, tso, tfl, tfn⟩
  have gT := PySem.W.mg_of X G aC
  have gW : ∃ t, mg "GREATEST_WIDTH" = some (.int 3 t) := ⟨tW, PySem.W.mg_of X G aGW⟩
  have gA : ∃ t, mg "GREATEST_ARITY" = some (.int 3 t) := ⟨tA, PySem.W.mg_of X G aGA⟩
  have FB := fun_mk (st := sBetween) lB cB kB
  have c_B : Cal K mg "is_between" ["value", "least", "greatest"] fB _ := ⟨PySem.W.mg_of X G aB, kB, FB.binds (ps := ["value", "least", "greatest"]) fun _ _ _ _ _ _ us hl => match us, hl with | [_, _, _], _ => rfl⟩
  have FBe := fun_mk (st := sBelow) lBe cBe kBe
  have c_Be : Cal K mg "is_below" ["value", "limit"] fBe _ := ⟨PySem.W.mg_of X G aBe, kBe, FBe.binds (ps := ["value", "limit"]) fun _ _ _ _ _ _ us hl => match us, hl with | [_, _], _ => rfl⟩
  have FRo := fun_mk (st := sRow) lRo cRo kRo
  have c_Ro : Cal K mg "is_row" ["value", "width", "length"] fRo _ := ⟨PySem.W.mg_of X G aRo, kRo, FRo.binds (ps := ["value", "width", "length"]) fun _ _ _ _ _ _ us hl => match us, hl with | [_, _, _], _ => rfl⟩
  have FW := fun_mk (st := sCkW) lW cW kW
  have c_W : Cal K mg "check_width" ["width"] fW _ := ⟨PySem.W.mg_of X G aW, kW, FW.binds (ps := ["width"]) fun _ _ _ _ _ _ us hl => match us, hl with | [_], _ => rfl⟩
  have FA := fun_mk (st := sCkA) lA cA kA
  have c_A : Cal K mg "check_arity" ["arity", "greatest"] fA _ := ⟨PySem.W.mg_of X G aA, kA, FA.binds (ps := ["arity", "greatest"]) fun _ _ _ _ _ _ us hl => match us, hl with | [_, _], _ => rfl⟩
  have FF := fun_mk (st := sFeed) lF cF kF
  have c_F : Cal K mg "_law_feed" ["script", "k"] fF _ := ⟨PySem.W.mg_of X G aF, kF, FF.binds (ps := ["script", "k"]) fun _ _ _ _ _ _ us hl => match us, hl with | [_, _], _ => rfl⟩
  have FT := fun_mk (st := sTake) lT cT kT
  have c_T : Cal K mg "_law_take" ["feed", "many"] fT _ := ⟨PySem.W.mg_of X G aT, kT, FT.binds (ps := ["feed", "many"]) fun _ _ _ _ _ _ us hl => match us, hl with | [_, _], _ => rfl⟩
  have FP := fun_mk (st := sPick) lP cP kP
  have c_P : Cal K mg "_law_pick" ["feed", "some"] fP _ := ⟨PySem.W.mg_of X G aP, kP, FP.binds (ps := ["feed", "some"]) fun _ _ _ _ _ _ us hl => match us, hl with | [_, _], _ => rfl⟩
  have FAl := fun_mk (st := sAll) lAl cAl kAl
  have c_Al : Cal K mg "_law_all" ["width", "length"] fAl _ := ⟨PySem.W.mg_of X G aAl, kAl, FAl.binds (ps := ["width", "length"]) fun _ _ _ _ _ _ us hl => match us, hl with | [_, _], _ => rfl⟩
  have FD := fun_mk (st := sDRow) lD cD kD
  have c_D : Cal K mg "_law_drawn_row" ["feed", "width", "arity"] fD _ := ⟨PySem.W.mg_of X G aD, kD, FD.binds (ps := ["feed", "width", "arity"]) fun _ _ _ _ _ _ us hl => match us, hl with | [_, _, _], _ => rfl⟩
  have FS := fun_mk (st := sDRows) lS cS kS
  have c_S : Cal K mg "_law_drawn_rows" ["feed", "width", "arity", "most"] fS _ := ⟨PySem.W.mg_of X G aS, kS, FS.binds (ps := ["feed", "width", "arity", "most"]) fun _ _ _ _ _ _ us hl => match us, hl with | [_, _, _, _], _ => rfl⟩
  have FM := fun_mk (st := sMade) lM cM kM
  have c_M : Cal K mg "_law_made" ["width", "arity", "rows"] fM _ := ⟨PySem.W.mg_of X G aM, kM, FM.binds (ps := ["width", "arity", "rows"]) fun _ _ _ _ _ _ us hl => match us, hl with | [_, _, _], _ => rfl⟩
  have FO := fun_mk (st := sOdd) lO cO kO
  have c_O : Cal K mg "_law_odd_rows" ["row", "width"] fO _ := ⟨PySem.W.mg_of X G aO, kO, FO.binds (ps := ["row", "width"]) fun _ _ _ _ _ _ us hl => match us, hl with | [_, _], _ => rfl⟩
  have FRi := fun_mk (st := sRight) lRi cRi kRi
  have c_Ri : Cal K mg "_law_table_right" ["table", "width", "arity", "rows"] fRi _ := ⟨PySem.W.mg_of X G aRi, kRi, FRi.binds (ps := ["table", "width", "arity", "rows"]) fun _ _ _ _ _ _ us hl => match us, hl with | [_, _, _, _], _ => rfl⟩
  have FV := fun_mk (st := sRef) lV cV kV
  have c_V : Cal K mg "_law_refused_right" ["feed", "width", "arity", "rows"] fV _ := ⟨PySem.W.mg_of X G aV, kV, FV.binds (ps := ["feed", "width", "arity", "rows"]) fun _ _ _ _ _ _ us hl => match us, hl with | [_, _, _, _], _ => rfl⟩
  have FL := fun_mk (st := sLaw) lL cL kL
  have FI := fun_mk (st := sInit) lI cI kI
  have bI : Binds K _ ["self", "width", "arity", "rows"] [] := Binds.all (fd := PySem.W.fnOf "__init__" "Table.__init__" (defArgs sInit) (defBody sInit) (defScope sInit) .none kVI dcI pmI anI cdI ctI) fun us hl => match us, hl with | [_, _, _, _], _ => rfl
  have FRw := fun_mk (st := sRows) lRw cRw kRw
  have bRw : Binds K _ ["self"] [] := Binds.all (fd := PySem.W.fnOf "rows" "Table.rows" (defArgs sRows) (defBody sRows) (defScope sRows) .none kVRw dcRw pmRw anRw cdRw ctRw) fun us hl => match us, hl with | [_], _ => rfl
  have FLe := fun_mk (st := sLen) lLe cLe kLe
  have bLe : Binds K _ ["self"] [] := Binds.all (fd := PySem.W.fnOf "__len__" "Table.__len__" (defArgs sLen) (defBody sLen) (defScope sLen) .none kVLe dcLe pmLe anLe cdLe ctLe) fun us hl => match us, hl with | [_], _ => rfl
  have FH := fun_mk (st := sHas) lH cH kH
  have bH : Binds K _ ["self", "row"] [] := Binds.all (fd := PySem.W.fnOf "__contains__" "Table.__contains__" (defArgs sHas) (defBody sHas) (defScope sHas) .none kVH dcH pmH anH cdH ctH) fun us hl => match us, hl with | [_, _], _ => rfl
  have FE := fun_mk (st := sEq) lE cE kE
  have bE : Binds K _ ["self", "other"] [] := Binds.all (fd := PySem.W.fnOf "__eq__" "Table.__eq__" (defArgs sEq) (defBody sEq) (defScope sEq) .none kVE dcE pmE anE cdE ctE) fun us hl => match us, hl with | [_, _], _ => rfl
  have M : Mk K C fI := ⟨tmk, aI, iI, tkp⟩
  have hL : Has K C "__len__" fLe _ ["self"] := ⟨aLe, iLe, bLe⟩
  have hH : Has K C "__contains__" fH _ ["self", "row"] := ⟨aH, iH, bH⟩
  have hE : Has K C "__eq__" fE _ ["self", "other"] := ⟨aE, iE, bE⟩
  have PR : PropOf K C "rows" pR fRw := ⟨pat, pgt, ptk, restR, prc⟩
  refine ⟨PySem.W.fnOf "law" "law" (defArgs sLaw) (defBody sLaw) (defScope sLaw) .none kVL dcL pmL anL cdL ctL, fun s v => .of_eq rfl, fun base _ _ => ?_⟩
  have GB := ok_between (P := PySem.Challenge.pw_nearsettled_k01_what_is_a_table) (w := w) (base := base) FB T
  have GBe := ok_below FBe GB c_B
  have GRo := ok_row FRo T GBe c_Be
  have GW := ok_ckW FW ZW gW GB c_B
  have GA := ok_ckA FA ZA GB c_B
  have GI := ok_init FI T TK gA ZL NR GW c_W GA c_A GRo c_Ro
  have GRw := ok_rows (P := PySem.Challenge.pw_nearsettled_k01_what_is_a_table) (w := w) (mg := mg) (base := base) FRw T TK
  have GLe := ok_len (P := PySem.Challenge.pw_nearsettled_k01_what_is_a_table) (w := w) (mg := mg) (base := base) FLe T TK
  have GH := ok_has FH T TK GRo c_Ro
  have GE := ok_eq (P := PySem.Challenge.pw_nearsettled_k01_what_is_a_table) (w := w) (base := base) FE T TK TI gT
  have GT := ok_take (P := PySem.Challenge.pw_nearsettled_k01_what_is_a_table) (w := w) (base := base) FT T
  have GP := ok_pick FP T GT c_T.g c_T.k c_T.b
  have GAl := ok_all (P := PySem.Challenge.pw_nearsettled_k01_what_is_a_table) (w := w) (base := base) FAl T
  have GD := ok_drow FD T GT c_T
  have GS := ok_drows FS T GT c_T GD c_D
  have GM := ok_made FM M gT XM (PySem.W.mg_of X G aCW) (PySem.W.mg_of X G aCA) (PySem.W.mg_of X G aCL) (PySem.W.mg_of X G aCR) (fldC_of NR) GI bI
  have GO := ok_odd (P := PySem.Challenge.pw_nearsettled_k01_what_is_a_table) (w := w) (base := base) FO T
  have GRi := ok_right FRi T TK GAl c_Al GRw PR bRw GLe hL GH hH
  have GV := ok_ref FV T GM c_M GD c_D GO c_O GT c_T GP c_P
  exact ok_law FL T TK TI EK (ok_feed FF T) c_F GT c_T GAl c_Al GD c_D GS c_S GRi c_Ri GV c_V GO c_O GI bI M gT GE hE GH hH
end Law
open PySem PySem.W PyProof.Rows
set_option maxRecDepth 100000 in
set_option maxHeartbeats 0 in
theorem PySem.Challenge.cw_nearsettled_k01_what_is_a_table_holds : PySem.Challenge.rw_nearsettled_k01_what_is_a_table.Holds := by
  w_on; o_law; k_head; (case hw => w_witness2)
  k_fill
  refine L2.walk_ofG (l := PySem.Challenge.rw_nearsettled_k01_what_is_a_table) (n := 63) (k := 9) (x := "script") (sp := Law.spLaw) rfl (by decide) rfl ⟨rfl, by decide, by decide⟩ (fun w h Y => PySem.W.kIn_of Y) ?F (fun K H a ns hl hS => ⟨a, ns, rfl, hS, hl, fun _ => rfl⟩)
  case F =>
    intro w mg fa h KX G hmg
    refine' Law.all_mk KX G hmg rfl ?aCW ?aCA ?aCL ?aCR ?aC ?aGW ?aGA ?m_len ?m_max ?m_min ?m_abs ?m_int ?m_bool ?m_tuple ?m_list ?m_set ?m_sorted ?m_range ?m_enumerate ?m_isinstance ?m_all ?m_repr ?m_super ?aB ?lB ?cB ?kB ?aBe ?lBe ?cBe ?kBe ?aRo ?lRo ?cRo ?kRo ?aW ?lW ?cW ?kW ?aA ?lA ?cA ?kA ?aF ?lF ?cF ?kF ?aT ?lT ?cT ?kT ?aP ?lP ?cP ?kP ?aAl ?lAl ?cAl ?kAl ?aD ?lD ?cD ?kD ?aS ?lS ?cS ?kS ?aM ?lM ?cM ?kM ?aO ?lO ?cO ?kO ?aRi ?lRi ?cRi ?kRi ?aV ?lV ?cV ?kV ?aL ?lL ?cL ?kL ?aI ?lI ?cI ?kI ?iI ?pat ?pgt ?ptk ?prc ?lRw ?cRw ?kRw ?iRw ?aLe ?lLe ?cLe ?kLe ?iLe ?aH ?lH ?cH ?kH ?iH ?aE ?lE ?cE ?kE ?iE ?hn ?ht ?tp ?tpg ?thd ?tpo ?tsa ?tnw ?tna ?tnr ?tcl ?tob ?tme ?tno ?tne ?tso ?tfl ?tfn ?tmk ?tkp ?xCW ?xCA ?xCL ?kCW ?eCW ?yCW ?kCA ?eCA ?yCA ?kCL ?eCL ?yCL ?kCR ?eCR ?yCR ?exA ?xlR ?rvR ?saR ?gaR ?ggR ?noR ?icR ?tiR ?hdR ?isR ?ssR ?svR ?smR ?suR ?liR ?ciR ?cdR ?vsR ?fiR ?ceR
    (case aCW => k_is)
    (case aCA => k_is)
    (case aCL => k_is)
    (case aCR => k_is)
    (case aC => k_is)
    (case aGW => k_is)
    (case aGA => k_is)
    (case m_len => k_is)
    (case m_max => k_is)
    (case m_min => k_is)
    (case m_abs => k_is)
    (case m_int => k_is)
    (case m_bool => k_is)
    (case m_tuple => k_is)
    (case m_list => k_is)
    (case m_set => k_is)
    (case m_sorted => k_is)
    (case m_range => k_is)
    (case m_enumerate => k_is)
    (case m_isinstance => k_is)
    (case m_all => k_is)
    (case m_repr => k_is)
    (case m_super => k_is)
    (case aB => k_is)
    (case lB => k_is)
    (case cB => k_is)
    (case kB => k_is)
    (case aBe => k_is)
    (case lBe => k_is)
    (case cBe => k_is)
    (case kBe => k_is)
    (case aRo => k_is)
    (case lRo => k_is)
    (case cRo => k_is)
    (case kRo => k_is)
    (case aW => k_is)
    (case lW => k_is)
    (case cW => k_is)
    (case kW => k_is)
    (case aA => k_is)
    (case lA => k_is)
    (case cA => k_is)
    (case kA => k_is)
    (case aF => k_is)
    (case lF => k_is)
    (case cF => k_is)
    (case kF => k_is)
    (case aT => k_is)
    (case lT => k_is)
    (case cT => k_is)
    (case kT => k_is)
    (case aP => k_is)
    (case lP => k_is)
    (case cP => k_is)
    (case kP => k_is)
    (case aAl => k_is)
    (case lAl => k_is)
    (case cAl => k_is)
    (case kAl => k_is)
    (case aD => k_is)
    (case lD => k_is)
    (case cD => k_is)
    (case kD => k_is)
    (case aS => k_is)
    (case lS => k_is)
    (case cS => k_is)
    (case kS => k_is)
    (case aM => k_is)
    (case lM => k_is)
    (case cM => k_is)
    (case kM => k_is)
    (case aO => k_is)
    (case lO => k_is)
    (case cO => k_is)
    (case kO => k_is)
    (case aRi => k_is)
    (case lRi => k_is)
    (case cRi => k_is)
    (case kRi => k_is)
    (case aV => k_is)
    (case lV => k_is)
    (case cV => k_is)
    (case kV => k_is)
    (case aL => k_is)
    (case lL => k_is)
    (case cL => k_is)
    (case kL => k_is)
    (case aI => k_is)
    (case lI => k_is)
    (case cI => k_is)
    (case kI => k_is)
    (case iI => k_is)
    (case pat => k_is)
    (case pgt => k_is)
    (case ptk => k_is)
    (case prc => first | k_is | rfl | kernel_rfl)
    (case lRw => k_is)
    (case cRw => k_is)
    (case kRw => k_is)
    (case iRw => k_is)
    (case aLe => k_is)
    (case lLe => k_is)
    (case cLe => k_is)
    (case kLe => k_is)
    (case iLe => k_is)
    (case aH => k_is)
    (case lH => k_is)
    (case cH => k_is)
    (case kH => k_is)
    (case iH => k_is)
    (case aE => k_is)
    (case lE => k_is)
    (case cE => k_is)
    (case kE => k_is)
    (case iE => k_is)
    (case hn => k_is)
    (case ht => k_is)
    (case tp => k_is)
    (case tpg => k_is)
    (case thd => k_is)
    (case tpo => k_is)
    (case tsa => k_is)
    (case tnw => k_is)
    (case tna => k_is)
    (case tnr => k_is)
    (case tcl => k_is)
    (case tob => k_is)
    (case tme => first | rfl | k_is | kernel_rfl)
    (case tno => kernel_rfl)
    (case tne => k_is)
    (case tso => k_is)
    (case tfl => k_is)
    (case tfn => k_is)
    (case tmk => k_is)
    (case tkp => k_is)
    (case xCW => first | k_exc | k_is)
    (case xCA => first | k_exc | k_is)
    (case xCL => first | k_exc | k_is)
    (case kCW => k_is)
    (case eCW => k_is)
    (case yCW => k_is)
    (case kCA => k_is)
    (case eCA => k_is)
    (case yCA => k_is)
    (case kCL => k_is)
    (case eCL => k_is)
    (case yCL => k_is)
    (case kCR => k_is)
    (case eCR => k_is)
    (case yCR => k_is)
    (case exA => kernel_rfl)
    (case xlR => k_is)
    (case rvR => decide +kernel)
    (case saR => k_is)
    (case gaR => k_is)
    (case ggR => k_is)
    (case noR => k_is)
    (case icR => k_is)
    (case tiR => k_is)
    (case hdR => k_is)
    (case isR => k_is)
    (case ssR => first | rfl | k_is)
    (case svR => k_is)
    (case smR => k_is)
    (case suR => first | k_is | ks_is | kernel_rfl)
    (case liR => k_is)
    (case ciR => k_is)
    (case cdR => k_is)
    (case vsR => rfl)
    (case fiR => decide +kernel)
    (case ceR => k_is)
