import PyProof.Rows.All
import Wide.All
import OpenK.AllK
import Wide.FinOn
import PyProof.EqAt
import PyProof.EqKinds
import PyProof.TupleCall
import KE.KExcSuper
import KE.KSuper
import HandS.ForExc
import HandS.ExcInit
import PyProof.FString
import PyProof.FString2
import PyProof.FString4
import PyProof.ReprRoads
import HandS.ForMost
import PyProof.ReprReads
import PyProof.Rows.RowBridgeK
import HandS.ExcIs
import HandS.ExcValue
import HandS.ExcBuiltin
import KE.KExcIs
import OpenK.KMore
import PyProof.ReprLen
import HandS.Defaults
import HandS.Walk
import HandS.Iter
import KE.RegKSuper
import PySem.Challenge.RW_nearsettled_k62_errors_and_fields
set_option Elab.async false
set_option linter.all false
set_option maxRecDepth 100000
set_option maxHeartbeats 4000000
/-! An own error class over an own base over ValueError, whose __init__ says super().__init__(text) and stores one field. -/
namespace PySem
namespace NearX
open PySem.W PySem.Calls PyProof.Rows PySem.HandSPX

def iA (f : Str) (p1 p2 : Pos) : Arguments := { posonlyargs := [], args := [{ arg := "self", annotation := none, pos := p1 }, { arg := f, annotation := none, pos := p2 }], vararg := none, kwonlyargs := [], kw_defaults := [], kwarg := none, defaults := [] }
def iB (f : Str) (parts : List Expr) (jp a b c d e q1 q2 q3 q4 : Pos) : List Stmt :=
  [.Expr (.Call (.Attribute (.Call (.Name "super" a) [] [] b) "__init__" c) [.JoinedStr parts jp] [] d) e, .Assign [.Attribute (.Name "self" q1) f q2] (.Name f q3) q4]
def iS (f : Str) : Scope := { kind := .function, names := [(PySem.Str.ofString "self", .local), (f, .local), (PySem.Str.ofString "__class__", .free), (PySem.Str.ofString "super", .globalImplicit)], isGenerator := false, isCoroutine := false, more := [] }

/-- what the written part says of the class named x at C, of its __init__ at fI, which stores the field f -/
structure NearTxt (P : Program) (K : Frag) (mg : Str → Option Value) (x f : Str) (C fI : Addr) (parts : List Expr) (jp : Pos) : Prop where
  fs : f = "number" ∨ f = "answer" ∨ f = "line"
  gC : mg x = some (.ref C)
  cls : ∃ nm q N bs bm sn sub ab col dd k0 k1 k2 k3 k5, K.lookup C = some (excClassObj nm q C N bs bm true sn sub ab col dd k0 k1 k2 k3 k5 "ValueError.__new__") ∧ refsVE bm = true
  sa : findIn K (.ref C) "__setattr__" = some (some (.builtin "object.__setattr__"))
  ga : findIn K (.ref C) "__getattribute__" = some (some (.builtin "BaseException.__getattribute__"))
  gg : findIn K (.ref C) "__getattr__" = some none
  noN : findIn K (.ref C) f = some none
  iC : findIn K (.ref C) "__init__" = some (some (.ref fI))
  tC : typeIn K (.ref fI) = some (.type "function")
  kC : keepIn K (.ref C) = true
  exC : subIn K (.ref C) (.type "BaseException") = some true
  tyC : typeIn K (.ref C) = some (.type "type")
  hdC : hasDictIn K C = true
  te : exmOne K (.ref C) (.ref C) = some true
  subV : subIn K (.ref C) (.type "ValueError") = some true
  subC : mroIn K C (.ref C) = some true
  tp : nsIn K cStatics "thirdparty.any" = some none
  sup : ks_superIn K C C "__init__" = some (some (.builtin "ValueError.__init__"))
  nosup : mg "super" = none
  htop : (P.main.scope.names.lookup ("super" : Str)).isSome = false
  fn : ∃ (oc : Value) (od : Option Addr) (doc pm : Value) (an : Option Addr) (cda : Addr) (ct : Value) (osl : Array (Option Value)) (cc : Addr) (qual : Str) (p1 p2 a b c d e q1 q2 q3 q4 : Pos),
    K.lookup fI = some ⟨oc, od, .func (ksFn "__init__" qual (iA f p1 p2) (iB f parts jp a b c d e q1 q2 q3 q4) (iS f) .none .none doc pm an (.ref cda) ct cc), osl⟩ ∧ codeIn K (.ref cda) qual = true ∧
    (∃ (ccl : Value) (cdd : Option Addr) (vs : Array Value) (ccs : Array (Option Value)) (file : Str) (tf : Tok), K.lookup cda = some ⟨ccl, cdd, .fields vs, ccs⟩ ∧ vs[2]? = some (.str file tf) ∧ ((P.main.file : Str) == file) = true) ∧
    (∃ (cl : Value) (cld : Option Addr) (csl : Array (Option Value)), K.lookup cc = some ⟨cl, cld, .cell (some (.ref C)), csl⟩) ∧
    (∃ pl : Sem Bool, ∀ env : Env, eval (.Call (.Attribute (.Call (.Name "super" a) [] [] b) "__init__" c) [.JoinedStr parts jp] [] d) env = (do
      let ov ← attributeBase (.Call (.Name "super" a) [] [] b) "__init__" env (eval (.Call (.Name "super" a) [] [] b) env)
      standAt c.atName
      let (g, first) ← holding [ov] (getMethod ov "__init__" pl)
      callWith d g first (backTo d (starEach [.JoinedStr parts jp] env)) []))

/-- what __init__ leaves of a fresh exception at x -/
structure InitEnd (h h' : Heap) (x C dx : Addr) (f : Str) (v : Value) : Prop where
  keep : ∀ b o, b ≠ x → h.get? b = some o → h'.get? b = some o
  obj : ∃ t1, h'.get? x = some { cls := .ref C, dict := some dx, data := .fields #[.ref t1, .none, .none, .none, .bool false, .none] }
  dbig : h.objs.size ≤ dx
  dne : dx ≠ x
  ns : h'.Ns1 dx (fun y => if y = f then some v else none)
/-- a made one -/
structure OwnMade (h h' : Heap) (e C d : Addr) (f : Str) (v : Value) : Prop where
  keep : ∀ b o, h.get? b = some o → h'.get? b = some o
  new : h.objs.size ≤ e
  obj : ∃ t1, h'.get? e = some { cls := .ref C, dict := some d, data := .fields #[.ref t1, .none, .none, .none, .bool false, .none] }
  dbig : h.objs.size ≤ d
  dne : d ≠ e
  ns : h'.Ns1 d (fun y => if y = f then some v else none)
theorem boot_super : bootBuiltins "super" = some (.type "super") := by decide +kernel
theorem one_size (v : Value) : [v].length ≤ sizeLine := by
  rw [sizeLine_eq]
  exact (by decide : 1 ≤ 16777216)

section
variable {prog : Program} {w : World}
/-- the text that goes to super().__init__: it is made, whatever it is, and nothing that stood is changed -/
def ArgOk (prog : Program) (w : World) (A : Around) (f : Str) (arg : Expr) (h0 : Heap) (x : Addr) (v : Value) : Prop :=
  ∀ (qual : Str) (fI cc L : Addr) (cdv : Value) (s : Shared) (Q : Value → Shared → Prop) (E : Value → Shared → Prop), (∀ b o, h0.get? b = some o → s.heap.get? b = some o) → s.heap.Ns L (fun y => List.lookup y [(f, v), (PySem.Str.ofString "self", Value.ref x)]) →
    (∀ u h' tk, (∀ b o, s.heap.get? b = some o → h'.get? b = some o) → Q u { s with heap := h', toks := tk }) →
    wpAny (model prog w) (A.deeper (ksEnv qual (iS f) L fI cdv cc)) (eval arg (ksEnv qual (iS f) L fI cdv cc)) Q E s
end

section
variable {prog : Program} {w : World} {A : Around} {E : Value → Shared → Prop} {R : Result → Shared → Prop} {h : Heap} {g : Array GenState} {d : Drawn} {t : Nat} {os : OsState}
variable {nm q : Str} {C N : Addr} {bs bm : List Value} {sn : List Str} {sub : List Value} {ab : Bool} {col : Option Bool} {dd : Option Addr} {k0 k1 k2 k3 k5 : Option Value} {kw : List (Str × Value)}
theorem kw_checkT {M : Model} {Q : Unit → Shared → Prop} (hC : h.get? C = some (excClassObj nm q C N bs bm true sn sub ab col dd k0 k1 k2 k3 k5 "ValueError.__new__")) (hq : Q () ⟨h, g, d, t, os⟩) :
    wpAny M A (checkBuiltinCall "type.__call__" ⟨[.ref C], kw⟩) Q E ⟨h, g, d, t, os⟩ := by
  have f3 := tc_sub
  have hT : (⟨h, g, d, t, os⟩ : Shared).TypeIs (.ref C) "type" := ⟨_, hC, rfl⟩
  simp only [checkBuiltinCall, tc_kind, tc_split]
  repeat (any_goals (first | assumption | with_reducible refine wpAny_loadPart_at hC ?_ | wp_step))
theorem kw_checkN {M : Model} {Q : Unit → Shared → Prop} (hm : refsVE bm = true) (hC : h.get? C = some (excClassObj nm q C N bs bm true sn sub ab col dd k0 k1 k2 k3 k5 "ValueError.__new__")) (hq : Q () ⟨h, g, d, t, os⟩) :
    wpAny M A (checkBuiltinCall "ValueError.__new__" ⟨[.ref C], kw⟩) Q E ⟨h, g, d, t, os⟩ := by
  have FB := PySem.F.excBase_ValueError
  have has : (Value.ref C :: bm).contains (.type "ValueError") = true := by rw [List.contains_cons, refsVE_contains _ bm hm, FB.hasB, Bool.or_true]
  have star := FB.noStar
  simp only [checkBuiltinCall, FB.newKind, FB.newSplit, FB.newRow]
  repeat (first | refine wpAny_loadPart_at hC ?_ | (refine wpAny_isSubtype_exc hC ?_; rw [has]) | refine wpAny_staticBase_exc hC ?_ | refine wpAny_madeBy_exc hC ?_ | simp only [bne_self_eq_false, Bool.false_eq_true, if_false] | wp_step)
  exact hq
theorem kw_new (hm : refsVE bm = true) (hC : h.get? C = some (excClassObj nm q C N bs bm true sn sub ab col dd k0 k1 k2 k3 k5 "ValueError.__new__"))
    (hq : R (.ok (.ret (.ref (h.objs.size + 1)))) ⟨(h.push (kdv_tup [])).push (excO C h.objs.size), g, d, t, os⟩) : codeAny (model prog w) A (.builtin "ValueError.__new__" ⟨[.ref C], kw⟩) R ⟨h, g, d, t, os⟩ := by
  have FB := PySem.F.excBase_ValueError
  have ends := FB.ends
  have cB : (Value.ref C :: bm).contains (.type "ValueError") = true := by rw [List.contains_cons, refsVE_contains _ bm hm, FB.hasB, Bool.or_true]
  have cA : (Value.ref C :: bm).contains (.type "AttributeError") = false := by rw [List.contains_cons, refsVE_contains _ bm hm, FB.noAttr]; rfl
  have cN : (Value.ref C :: bm).contains (.type "NameError") = false := by rw [List.contains_cons, refsVE_contains _ bm hm, FB.noName]; rfl
  refine codeAny_builtinAt FB.entry ?_
  unfold Builtin.«BaseException.__new__»
  refine wpAt_bind ?_
  show wpAt _ _ _ (stack >>= _) _ _ _
  refine wpAt_bind (wpAt_stack fun p below => wpAt_of_wpAny ?_)
  wp_walk
  refine wpAt_of_wpAny ?_
  rw [FB.owner]
  repeat (first | with_reducible refine wpAny_madeHere_exc FB.canon hC ?_ | with_reducible refine wpAny_loadPart_at hC ?_ | (with_reducible refine wpAny_isSubtype_exc hC ?_; first | rw [cB] | rw [cA] | rw [cN]) | wp_step)
  show R _ _
  rw [Heap.size_push]
  exact hq
theorem kw_typeCall {fI : Addr} {Q : Fin → Shared → Prop} (hm : refsVE bm = true) (hC : h.get? C = some (excClassObj nm q C N bs bm true sn sub ab col dd k0 k1 k2 k3 k5 "ValueError.__new__"))
    (hi : Looks (model prog w) h (typeLookup (.ref C) "__init__") (some (.ref fI))) (hb : ∀ self, Looks (model prog w) h (bindSpecial (.ref fI) self) (.ref fI, [self]))
    (hq : codeAny (model prog w) A (.call (.ref fI) ⟨[.ref (h.objs.size + 1)], kw⟩)
      (fun r s' => match r with | .ok (.ret v) => v = .none ∧ Q (.done (.ret (.ref (h.objs.size + 1)))) s' | .ok _ => False | .error e => E e s')
      ⟨(h.push (kdv_tup [])).push (excO C h.objs.size), g, d, t, os⟩) :
    wpAny (model prog w) A (Builtin.«type.__call__» ⟨[.ref C], kw⟩) Q E ⟨h, g, d, t, os⟩ := by
  repeat (first | with_reducible refine wpAny_loadPart_at hC ?_ | with_reducible refine wpAny_madeBy_exc hC ?_ | wp_step)
  refine codeAny_call_builtin_code (Code.quiet_builtin _ PySem.F.excBase_ValueError.quiet) (kw_checkN hm hC (kw_new hm hC ?_))
  show wpAny _ _ _ _ _ _
  have k : ∀ b o, h.get? b = some o → ((h.push (kdv_tup [])).push (excO C h.objs.size)).get? b = some o := fun b o e => Heap.get?_push_of_some _ (Heap.get?_push_of_some _ e)
  have hC₁ := k _ _ hC
  have made : ((h.push (kdv_tup [])).push (excO C h.objs.size)).get? (h.objs.size + 1) = some (excO C h.objs.size) := by heap_get
  have self : (Value.ref C :: bm).contains (.ref C) = true := by simp
  unfold isInstance
  repeat (first | with_reducible refine wpAny_loadPart_at made ?_ | (with_reducible refine wpAny_isSubtype_exc hC₁ ?_; rw [self]) | wp_step)
  show wpAny _ _ (typeLookup (.ref C) _) _ _ _
  refine (hi.keeps k).at ?_
  refine wpAny_holding (wpAny_bind (((hb (.ref (h.objs.size + 1))).keeps k).at ?_))
  refine wpAny_bind (wpAny_call (codeAny_mono hq fun r s' z => ?_))
  rcases r with e | (v | _ | _ | _) <;> first | exact z | exact z.elim | skip
  obtain ⟨rfl, z⟩ := z
  first
    | exact wpAny_pure (wpAny_pure z)
    | (wp_walk; exact z)
theorem kw_call {fI : Addr} (hm : refsVE bm = true) (hC : h.get? C = some (excClassObj nm q C N bs bm true sn sub ab col dd k0 k1 k2 k3 k5 "ValueError.__new__"))
    (hi : Looks (model prog w) h (typeLookup (.ref C) "__init__") (some (.ref fI))) (hb : ∀ self, Looks (model prog w) h (bindSpecial (.ref fI) self) (.ref fI, [self]))
    (hq : codeAny (model prog w) (A.under (.builtin "type.__call__" ⟨[.ref C], kw⟩)) (.call (.ref fI) ⟨[.ref (h.objs.size + 1)], kw⟩) (InitBack (h.objs.size + 1) R)
      ⟨(h.push (kdv_tup [])).push (excO C h.objs.size), g, d, t, os⟩) :
    codeAny (model prog w) A (.call (.ref C) ⟨[], kw⟩) R ⟨h, g, d, t, os⟩ := by
  have f1 := tc_lookup
  have f2 := tc_bind (.ref C)
  have ty : (⟨h, g, d, t, os⟩ : Shared).TypeIs (.ref C) "type" := ⟨_, hC, rfl⟩
  refine codeAny_of_tree ?_
  show wpAny _ _ (callAny (.ref C) _) _ _ _
  repeat (any_goals (first | assumption | with_reducible refine wpAny_loadPart_at hC ?_ | wp_step))
  refine ⟨rfl, codeAny_call_builtin_at (Code.quiet_builtin _ (by decide +kernel)) entry_typeCall (kw_checkT hC (kw_typeCall hm hC hi hb (codeAny_mono hq fun r s' z => ?_)))⟩
  rcases r with e | (v | _ | _ | _) <;> exact z
end
section
variable {prog : Program} {w : World} {A : Around} {E : Value → Shared → Prop} {h : Heap} {g : Array GenState} {d : Drawn} {t : Nat} {os : OsState}
/-- super().__init__(..) called -/
theorem call_mw {C x u t0 : Addr} {rest : List Value} {Q : Value → Shared → Prop} {nm q : Str} {N : Addr} {bs bm : List Value} {sn : List Str} {sub : List Value} {ab : Bool} {col : Option Bool} {dd : Option Addr} {k0 k1 k2 k3 k5 : Option Value}
    (hC : h.get? C = some (excClassObj nm q C N bs bm true sn sub ab col dd k0 k1 k2 k3 k5 "ValueError.__new__")) (he : h.get? x = some (excO C t0)) (hu : h.get? u = some (kxs_mw "ValueError.__init__" x)) (hz : rest.length ≤ sizeLine)
    (hq : ∀ h' t1, (∀ b o, b ≠ x → h.get? b = some o → h'.get? b = some o) → h'.get? x = some (excO C t1) → Q .none ⟨h', g, d, t, os⟩) :
    wpAny (model prog w) A (call (.ref u) rest) Q E ⟨h, g, d, t, os⟩ := by
  have FB := PySem.F.excBase_ValueError
  refine wpAny_call (codeAny_of_tree ?_)
  show wpAny _ A.in1 (callAny (.ref u) ⟨rest, []⟩) _ _ _
  simp only [callAny]
  refine wpAny_bind (wpAny_load hu ?_)
  simp only [kxs_mw, show (Value.type "method-wrapper" == Value.type "method" || Value.type "method-wrapper" == Value.type "builtin_function_or_method" || Value.type "method-wrapper" == Value.type "method-wrapper") = true by decide, if_true]
  refine KFB.if_so (by decide) ?_
  refine wpAny_bind (check_bound_init FB.toExcCallFacts hC he rfl ?_)
  refine wpAny_bind (wpAny_pure (wpAny_pure ?_))
  refine ⟨plainId_quiet FB.init.plain _, codeAny_builtin FB.initEntry ?_⟩
  exact exc_init_tree (cls := .ref C) (t0 := t0) (dv := none) (c2 := .none) (c3 := .none) (b4 := .bool false) he hz fun h' k e' _ => hq h' _ k e'

theorem near_init {s : Shared} {R : Result → Shared → Prop} {K : Frag} {mg : Str → Option Value} {base : Heap} {cn f : Str} {C fI : Addr} {parts : List Expr} {jp : Pos} (T : NearTxt prog K mg cn f C fI parts jp) (M : L2.Mod K mg base) (kb : ∀ b o, base.get? b = some o → s.heap.get? b = some o)
    {x t0 : Addr} {v : Value} (hx : s.heap.get? x = some (excO C t0)) (hnx : K.lookup x = none) (hroom : A.depth < recursionLimit) (hA : ArgOk prog w A f (.JoinedStr parts jp) s.heap x v) {args : Args} (hargs : args = ⟨[.ref x, v], []⟩ ∨ args = ⟨[.ref x], [(f, v)]⟩)
    (hq : ∀ h' tk dx, InitEnd s.heap h' x C dx f v → R (.ok (.ret .none)) { s with heap := h', toks := tk }) :
    codeAny (model prog w) A (.call (.ref fI) args) R s := by
  have fs := T.fs
  obtain ⟨hp, g, d, t, os⟩ := s
  obtain ⟨oc, od, doc, pm, an, cda, ct, osl, cc, qual, p1, p2, a, b, c, dp, e, q1, q2, q3, q4, ho, hcd, ⟨ccl, cdd, vs, ccs, file, tf, hcode, hvs, hfile⟩, ⟨cl, cld, csl, hcell⟩, pl, he⟩ := T.fn
  obtain ⟨nm, q, N, bs, bm, sn, sub, ab, col, dd, k0, k1, k2, k3, k5, hC, hbm⟩ := T.cls
  have hcl : clsIn K C = some { name := nm, bases := bs, mro := .ref C :: bm, ns := N, qualname := q, hasDict := true, slotNames := sn, subclasses := sub, abstract := ab, collection := col, hasDel := false } := by unfold clsIn; rw [hC] <;> rfl
  have X : K.In hp := M.kin.keeps kb
  have hbind : BindsTo (⟨hp, g, d, t, os⟩ : Shared) (ksFn "__init__" qual (iA f p1 p2) (iB f parts jp a b c dp e q1 q2 q3 q4) (iS f) .none .none doc pm an (.ref cda) ct cc) args [(PySem.Str.ofString "self", .ref x), (f, v)] := by
    rcases hargs with rfl | rfl <;> rcases fs with rfl | rfl | rfl <;> exact BindsTo.of_eq rfl
  have hloc : ∀ y ∈ [((PySem.Str.ofString "self" : Str), Value.ref x), (f, v)], (iS f).names.lookup y.1 = some .local := by
    rcases fs with rfl | rfl | rfl <;> exact locs rfl
  have hcells : ∀ y ∈ (iS f).names, y.2 ≠ .cell := by
    intro y hy
    simp only [iS, List.mem_cons, List.not_mem_nil, or_false] at hy
    rcases hy with rfl | rfl | rfl | rfl <;> (intro z; cases z)
  refine ks_codeAny_call_defAt (fd := ksFn "__init__" qual (iA f p1 p2) (iB f parts jp a b c dp e q1 q2 q3 q4) (iS f) .none .none doc pm an (.ref cda) ct cc) (body := iB f parts jp a b c dp e q1 q2 q3 q4) (binds := [(PySem.Str.ofString "self", .ref x), (f, v)]) hroom (X _ _ ho) rfl (M.nolimit.keeps kb) (codeRec_of X hcd) rfl hbind hcells hloc (fun h₁ hns k₁ => ?_)
  have X₁ : K.In h₁ := X.keeps k₁
  have kb₁ : ∀ b o, base.get? b = some o → h₁.get? b = some o := fun b o z => k₁ b o (kb b o z)
  have hL : hp.objs.size ≠ x := Nat.ne_of_gt (Heap.lt_size hx)
  show PySem.wpAt (model prog w) _ (.func _ (ksEnv qual (iS f) hp.objs.size fI (.ref cda) cc)) (execs _ (ksEnv qual (iS f) hp.objs.size fI (.ref cda) cc)) _ _ _
  have hks : (ksEnv qual (iS f) hp.objs.size fI (.ref cda) cc).kindOf "super" = some .globalImplicit := by rcases fs with rfl | rfl | rfl <;> rfl
  have hkc : (ksEnv qual (iS f) hp.objs.size fI (.ref cda) cc).kindOf "__class__" = some .free := by rcases fs with rfl | rfl | rfl <;> rfl
  have hka : (ksEnv qual (iS f) hp.objs.size fI (.ref cda) cc).kindOf "self" = some .local := by rcases fs with rfl | rfl | rfl <;> rfl
  have hkf : (ksEnv qual (iS f) hp.objs.size fI (.ref cda) cc).kindOf f = some .local := by rcases fs with rfl | rfl | rfl <;> rfl
  have hfd : (f == ("__debug__" : Str)) = false := by rcases fs with rfl | rfl | rfl <;> decide +kernel
  have hself : List.lookup ("self" : Str) ([(PySem.Str.ofString "self", Value.ref x), (f, v)] : List (Str × Value)).reverse = some (.ref x) := by rcases fs with rfl | rfl | rfl <;> rfl
  have hfv : List.lookup f ([(PySem.Str.ofString "self", Value.ref x), (f, v)] : List (Str × Value)).reverse = some v := by rcases fs with rfl | rfl | rfl <;> rfl
  obtain ⟨mb, hb1, hb2⟩ := M.blt
  have hx₁ := k₁ _ _ hx
  refine ks_wpAt_execs_cons (ks_wpAt_Expr_any (ks_wpAt_MethodCall (pl := pl) ?_ (he _)))
  refine ks_wpAt_super_base (env := ksEnv qual (iS f) hp.objs.size fI (.ref cda) cc) hks hkc (by decide) rfl (X₁ _ _ ho) rfl rfl rfl (X₁ _ _ hcode) rfl hvs hfile T.htop ?_
  refine ks_loadName_global rfl hks (loadGlobal_builtin (env := ksEnv qual (iS f) hp.objs.size fI (.ref cda) cc) (M.glob.keeps kb₁) T.nosup (hb1.keeps kb₁) ((hb2 "super" (by decide +kernel)).trans boot_super) ⟨rfl, ?_⟩)
  refine wpAny_loadName_free rfl hkc rfl ⟨_, X₁ _ _ hcell, rfl⟩ ?_
  refine wpAny_loadName_local rfl hka hns hself ?_
  refine ks_wpAny_isType_cls (X₁ _ _ hC) rfl ⟨rfl, ?_⟩
  refine ks_wpAny_call_super (X₁ _ _ hC) rfl hx₁ rfl (fun c e => by cases e) (looks_mroIn X₁ T.subC) (fun h2 e2 k2 => ?_)
  have X₂ : K.In h2 := X₁.keeps k2
  have hx₂ := k2 _ _ hx₁
  have hxC : x ≠ C := fun z => by rw [z] at hnx; rw [hnx] at hC; cases hC
  have hal : alongIn K "__init__" (((Value.ref C :: bm).dropWhile (· != .ref C)).drop 1) = some (some (.builtin "ValueError.__init__")) := by
    have z := T.sup
    unfold ks_superIn at z
    rw [hcl] at z
    exact z
  have I₂ : InstAt h2 x (excO C t0) C none := ⟨hx₂, rfl, rfl, trivial⟩
  refine kxs_getMethod kxs_ValueError e2 (looks_opaque X₂ T.tp) (l₀ := .ref C :: bm) (fun A Q E s k q => wpAny_bind ((looks_clsIn X₂ hcl) A _ E s k (wpAny_pure q))) rfl X₂ hal (I₂.type.andThen (looks_subIn X₂ T.subV)) hxC (by decide) ?_
  -- the arguments, the call
  have k3 : ∀ b o, h2.get? b = some o → (h2.push (kxs_mw "ValueError.__init__" x)).get? b = some o := fun b o e => Heap.get?_push_of_some _ e
  have hmw : (h2.push (kxs_mw "ValueError.__init__" x)).get? h2.objs.size = some (kxs_mw "ValueError.__init__" x) := Heap.get?_push_at rfl rfl
  have k13 : ∀ b o, h₁.get? b = some o → (h2.push (kxs_mw "ValueError.__init__" x)).get? b = some o := fun b o e => k3 b o (k2 b o e)
  show wpAny _ _ (callWith dp (.ref h2.objs.size) [] (backTo dp (starEach [.JoinedStr parts jp] (ksEnv qual (iS f) hp.objs.size fI (.ref cda) cc))) []) _ _ _
  have hst : starEach [.JoinedStr parts jp] (ksEnv qual (iS f) hp.objs.size fI (.ref cda) cc) = (false, eval (.JoinedStr parts jp) (ksEnv qual (iS f) hp.objs.size fI (.ref cda) cc)) :: starEach [] (ksEnv qual (iS f) hp.objs.size fI (.ref cda) cc) := rfl
  rw [hst]
  refine kxs_callWith (i := "ValueError.__init__") (x := x) rfl (evalArgs_plain ?_)
  refine Calls.spliced_cons ?_
  refine hA qual fI cc hp.objs.size (.ref cda) _ _ _ (fun b o e => k13 b o (k₁ b o e)) (hns.keeps k13) (fun u h4 tk4 k4 => ?_)
  refine Calls.spliced_nil ⟨k4 _ _ hmw, ?_⟩
  have X₄ : K.In h4 := (X₂.keeps k3).keeps k4
  refine call_mw (C := C) (X₄ _ _ hC) (k4 _ _ (k3 _ _ hx₂)) (k4 _ _ hmw) (one_size u) (fun h5 t1 k5' hx5 => ?_)
  have k14 : ∀ b o, h₁.get? b = some o → h4.get? b = some o := fun b o e => k4 b o (k13 b o e)
  have k15 : ∀ b o, b ≠ x → h₁.get? b = some o → h5.get? b = some o := fun b o hb e => k5' b o hb (k14 b o e)
  have X₅ : K.In h5 := fun b o e => k15 b o (fun z => by rw [z, hnx] at e; cases e) (X₁ b o e)
  have hn5 : h5.Ns hp.objs.size (fun y => List.lookup y [((PySem.Str.ofString "self" : Str), Value.ref x), (f, v)].reverse) := by
    obtain ⟨o, es, ep, e, r⟩ := hns
    exact ⟨o, es, ep, k15 _ _ hL e, r⟩
  have hlt : hp.objs.size < h5.objs.size := hn5.lt
  -- self.f = f
  refine wpAt_of_wpAny ?_
  show wpAny _ _ (execs [Stmt.Assign [(Expr.Name (Str.ofString "self") q1).Attribute f q2] (Expr.Name f q3) q4] (ksEnv qual (iS f) hp.objs.size fI (.ref cda) cc)) _ _ _
  refine wpAny_execs_cons (plainObj_wpAny_Assign_Attribute ?_)
  refine wpAny_Name (wpAny_loadName_local rfl hkf hn5 hfv ?_) hfd
  refine wpAny_Name (wpAny_loadName_local rfl hka hn5 hself ?_) (by decide)
  refine set_plain X₅ (ox := excO C t1) (od := none) ⟨hx5, rfl, rfl, trivial⟩ T.sa ?_
  refine exc_osa X₅ hx5 hcl (show refsVE (.ref C :: bm) = true from hbm) rfl T.noN (fun h6 tk6 dx k6 dn dne hx6 hn6 => ?_)
  show wpAny _ _ (execs [] _) _ _ _
  exact wpAny_execs_nil (hq h6 tk6 dx ⟨fun b o hb e => k6 b o hb (k15 b o hb (k₁ b o e)), ⟨t1, hx6⟩, Nat.le_of_lt (Nat.lt_of_lt_of_le hlt dn), dne, hn6⟩)

theorem near_made {s : Shared} {R : Result → Shared → Prop} {K : Frag} {mg : Str → Option Value} {base : Heap} {cn f : Str} {C fI : Addr} {parts : List Expr} {jp : Pos} (T : NearTxt prog K mg cn f C fI parts jp) (M : L2.Mod K mg base) (kb : ∀ b o, base.get? b = some o → s.heap.get? b = some o)
    {args : Args} {v : Value} (hargs : args = ⟨[v], []⟩ ∨ args = ⟨[], [(f, v)]⟩) (hroom : A.depth + 1 < recursionLimit) (hA : ∀ (h0 : Heap) (A' : Around) (x : Addr), (∀ b o, s.heap.get? b = some o → h0.get? b = some o) → A'.units = A.units + 1 → A'.guards = A.guards → ArgOk prog w A' f (.JoinedStr parts jp) h0 x v)
    (hq : ∀ h' tk e d, OwnMade s.heap h' e C d f v → R (.ok (.ret (.ref e))) { s with heap := h', toks := tk }) :
    codeAny (model prog w) A (.call (.ref C) args) R s := by
  obtain ⟨nm, q, N, bs, bm, sn, sub, ab, col, dd, k0, k1, k2, k3, k5, hC, hbm⟩ := T.cls
  have X : K.In s.heap := M.kin.keeps kb
  obtain ⟨hp, g, dr, tk, os⟩ := s
  have rest : ∀ (us : List Value) (kw : List (Str × Value)), ((⟨.ref (hp.objs.size + 1) :: us, kw⟩ : Args) = ⟨[.ref (hp.objs.size + 1), v], []⟩ ∨ (⟨.ref (hp.objs.size + 1) :: us, kw⟩ : Args) = ⟨[.ref (hp.objs.size + 1)], [(f, v)]⟩) →
      codeAny (model prog w) (A.under (.builtin "type.__call__" ⟨.ref C :: us, kw⟩)) (.call (.ref fI) ⟨.ref (hp.objs.size + 1) :: us, kw⟩) (InitBack (hp.objs.size + 1) R)
        ⟨(hp.push (kdv_tup us)).push (excO C hp.objs.size), g, dr, tk, os⟩ := by
    intro us kw ha
    have k : ∀ b o, hp.get? b = some o → ((hp.push (kdv_tup us)).push (excO C hp.objs.size)).get? b = some o := fun b o e => Heap.get?_push_of_some _ (Heap.get?_push_of_some _ e)
    have hget : ((hp.push (kdv_tup us)).push (excO C hp.objs.size)).get? (hp.objs.size + 1) = some (excO C hp.objs.size) := by heap_get
    have hnx : K.lookup (hp.objs.size + 1) = none := by
      cases e : K.lookup (hp.objs.size + 1) with
      | none => rfl
      | some o =>
        have z : hp.get? (hp.objs.size + 1) = some o := X _ _ e
        exact absurd (Nat.lt_of_succ_lt (Heap.lt_size z)) (Nat.lt_irrefl _)
    refine near_init (s := ⟨(hp.push (kdv_tup us)).push (excO C hp.objs.size), g, dr, tk, os⟩) T M (fun b o e => k b o (kb b o e)) hget hnx ?_ ?_ ha fun h' tk' dx ⟨k', hx, dn, dne, hns⟩ => ?_
    · show A.depth + 1 < recursionLimit
      exact hroom
    · exact hA _ _ _ k L2.make_units (by first | rfl | simp [Around.under, Code.guards, Code.isGuard, guardIds, pushGuards])
    · have old : ∀ b o, hp.get? b = some o → h'.get? b = some o := fun b o e => k' b o (Nat.ne_of_lt (Nat.lt_succ_of_lt (Heap.lt_size e))) (k b o e)
      have z : hp.objs.size + 1 + 1 ≤ dx := by
        first
          | (simpa only [Heap.size_push] using dn)
          | exact dn
          | (have q := dn; rw [Heap.size_push, Heap.size_push] at q; exact q)
      exact ⟨rfl, hq h' tk' (hp.objs.size + 1) dx ⟨old, Nat.le_succ _, hx, Nat.le_trans (Nat.le_trans (Nat.le_succ _) (Nat.le_succ _)) z, dne, hns⟩⟩
  rcases hargs with rfl | rfl
  · exact call_own PySem.F.excBase_ValueError (fun X => refsVE_contains X bm hbm) (X _ _ hC) (looks_findIn X T.iC) (fun self => bind_fn X self T.tC) (one_size v) (rest [v] [] (Or.inl rfl))
  · exact kw_call hbm (X _ _ hC) (looks_findIn X T.iC) (fun self => bind_fn X self T.tC) (rest [] [(f, v)] (Or.inr rfl))
end
/-! ### the text: f'before {field}' or f'before {field} behind' -/
/-- a value's own text is made, at most n signs of it, wherever G holds; nothing that stood is changed -/
def FmtOk (prog : Program) (w : World) (G : Around → Prop) (h0 : Heap) (v : Value) (n : Nat) : Prop :=
  ∀ (A : Around) (E : Value → Shared → Prop) (s : Shared) (Q : Value → Shared → Prop), G A → (∀ b o, h0.get? b = some o → s.heap.get? b = some o) →
    (∀ (y : Str) (u : Tok) (h' : Heap) (tk : Nat), y.length ≤ n → (∀ b o, s.heap.get? b = some o → h'.get? b = some o) → Q (.str y u) { s with heap := h', toks := tk }) →
    wpAny (model prog w) A (formatField v Str.empty) Q E s
def parts2 (pre f : Str) (p1 p2 p3 : Pos) : List Expr := [.Constant (.str pre) 0 p1, .FormattedValue (.Name f p2) (-1) none p3]
def parts3 (pre f suf : Str) (p1 p2 p3 p4 : Pos) : List Expr := [.Constant (.str pre) 0 p1, .FormattedValue (.Name f p2) (-1) none p3, .Constant (.str suf) 0 p4]
structure PartsOk (f : Str) (parts : List Expr) : Prop where
  is : (∃ pre p1 p2 p3, pre.length ≤ 200 ∧ parts = parts2 pre f p1 p2 p3) ∨ ∃ pre suf p1 p2 p3 p4, pre.length ≤ 200 ∧ suf.length ≤ 200 ∧ parts = parts3 pre f suf p1 p2 p3 p4
theorem line_big {n : Nat} (h : n ≤ 10000) : n ≤ sizeLine := by
  rw [sizeLine_eq]
  omega
section
variable {prog : Program} {w : World} {A : Around} {f : Str} {parts : List Expr} {jp : Pos} {h0 : Heap} {x : Addr} {v : Value} {n : Nat} {G : Around → Prop}
theorem argOk (fs : f = "number" ∨ f = "answer" ∨ f = "line") (hp : PartsOk f parts) (hF : FmtOk prog w G h0 v n) (hn : n ≤ 5000) (hG : ∀ env, G (A.deeper env)) : ArgOk prog w A f (.JoinedStr parts jp) h0 x v := by
  intro qual fI cc L cdv s Q E hk hns hq
  have hkf : (ksEnv qual (iS f) L fI cdv cc).kindOf f = some .local := by rcases fs with rfl | rfl | rfl <;> rfl
  have hfd : (f == ("__debug__" : Str)) = false := by rcases fs with rfl | rfl | rfl <;> decide +kernel
  have hfv : List.lookup f [(f, v), (PySem.Str.ofString "self", Value.ref x)] = some v := by simp [List.lookup]
  -- the field's own text, behind any text
  have field : ∀ (p2 p3 : Pos) (acc : Str) (rest : List (Sem Value)) (R : Str → Shared → Prop) (tk0 : Nat), acc.length ≤ 200 →
      (∀ (out : Str) (h' : Heap) (tk : Nat), out.length ≤ 200 + n → (∀ b o, s.heap.get? b = some o → h'.get? b = some o) → Joins (model prog w) (A.deeper (ksEnv qual (iS f) L fI cdv cc)) E rest out R { s with heap := h', toks := tk }) →
      Joins (model prog w) (A.deeper (ksEnv qual (iS f) L fI cdv cc)) E (eval (.FormattedValue (.Name f p2) (-1) none p3) (ksEnv qual (iS f) L fI cdv cc) :: rest) acc R { s with toks := tk0 } := by
    intro p2 p3 acc rest R tk0 ha hr
    refine wpAny_FormattedValue_plain (wpAny_Name (wpAny_loadName_local rfl hkf hns hfv ?_) hfd)
    refine hF _ _ _ _ (hG _) hk fun y u h' tk hy hk' => ⟨y, u, rfl, ?_, hr _ h' tk ?_ hk'⟩
    · rw [strLen_append]
      exact line_big (by omega)
    · rw [strLen_append]
      omega
  rcases hp.is with ⟨pre, p1, p2, p3, h1, rfl⟩ | ⟨pre, suf, p1, p2, p3, p4, h1, h2, rfl⟩
  · refine wpAny_JoinedStr (wpAny_Constant_str ⟨pre, _, rfl, ?_, field p2 p3 _ _ _ _ ?_ fun out h' tk ho hk' => ⟨line_big (by omega), hq _ h' _ hk'⟩⟩)
    · rw [strLen_append]
      exact line_big (by have : (Str.empty).length = 0 := rfl; omega)
    · rw [strLen_append]
      have : (Str.empty).length = 0 := rfl
      omega
  · refine wpAny_JoinedStr (wpAny_Constant_str ⟨pre, _, rfl, ?_, field p2 p3 _ _ _ _ ?_ fun out h' tk ho hk' => wpAny_Constant_str ⟨suf, _, rfl, ?_, ?_, hq _ h' _ hk'⟩⟩)
    · rw [strLen_append]
      exact line_big (by have : (Str.empty).length = 0 := rfl; omega)
    · rw [strLen_append]
      have : (Str.empty).length = 0 := rfl
      omega
    · rw [strLen_append]
      exact line_big (by omega)
    · rw [strLen_append]
      exact line_big (by omega)
end
end NearX
end PySem

namespace L2
open PySem PySem.Spec PyProof.Rows PySem.NearX
section
variable {X : Cx} {cn f : Str} {C fI : Addr} {parts : List Expr} {jp : Pos}
/-- a made error at e with its dict at d, both told -/
theorem Inv.made2 {pins : List (Addr × Obj)} {σ : St} {H : Hp} {s : Shared} {h' : Heap} {tk : Nat} {e d : Addr} {v : V} {u : Value} (I : Inv X pins σ H s) (M : OwnMade s.heap h' e C d f u) (rv : RelV v u) :
    H e = none ∧ H d = none ∧ Inv X pins σ (upd (upd H d (.xd [(f, v)])) e (exo e C (some d))) { s with heap := h', toks := tk } := by
  have he : H e = none := I.hok.fresh M.new
  have hd : H d = none := I.hok.fresh M.dbig
  obtain ⟨t1, ho⟩ := M.obj
  have nb : ∀ {b : Addr} {o : Obj}, s.heap.get? b = some o → b ≠ e ∧ b ≠ d := fun {b o} z =>
    ⟨Nat.ne_of_lt (Nat.lt_of_lt_of_le (Heap.lt_size z) M.new), Nat.ne_of_lt (Nat.lt_of_lt_of_le (Heap.lt_size z) M.dbig)⟩
  have old : ∀ {b : Addr} {o : HO}, H b = some o → upd (upd H d (.xd [(f, v)])) e (exo e C (some d)) b = some o := fun {b o} z => by
    rw [upd_ne (ne_of_none z he), upd_ne (ne_of_none z hd)]
    exact z
  refine ⟨he, hd, I.un (t' := tk) (⟨fun b o z _ _ _ => M.keep b o z, fun b o z _ _ _ => ⟨o.slots, M.keep b o z⟩, fun b o z n _ => ?_, fun b o z _ => ⟨o, M.keep b o z⟩,
    fun b xs z => old z, fun b o xs z => old z, fun b ps z => ⟨#[], by rw [old z]; simp⟩⟩) fun b o z => ?_⟩
  · rw [upd_ne (nb z).1, upd_ne (nb z).2]
    exact n
  · by_cases hbe : b = e
    · subst hbe
      rw [upd_same] at z
      cases z
      exact exo_ok ho
    · rw [upd_ne hbe] at z
      by_cases hbd : b = d
      · subst hbd
        rw [upd_same] at z
        cases z
        refine ⟨_, M.ns, fun g => ?_⟩
        rw [lookup_put]
        by_cases hg : g = f
        · rw [if_pos hg, if_pos hg]
          exact rv
        · rw [if_neg hg, if_neg hg]
          trivial
      · rw [upd_ne hbd] at z
        exact (I.hok b o z).stay (fun c w _ q => M.keep c w q) (fun c q => old q) fun c xs q => old q

/-- Cn(e), e a value whose text FV lets make: a new error, its field f holds the value -/
def tNear (C : Addr) (f : Str) (FV : V → Hp → Prop) (ta : TA) : TE := fun σ H Q => ta σ H fun vs H1 => ∃ v, vs = [v] ∧ FV v H1 ∧
  ∀ e d, H1 e = none → H1 d = none → d ≠ e → Q (.ref e) (upd (upd H1 d (.xd [(f, v)])) e (exo e C (some d)))
/-- where FV holds of a value, its own text is made -/
def Texts (X : Cx) (FV : V → Hp → Prop) : Prop := ∃ (G : Around → Prop) (n : Nat), n ≤ 5000 ∧ (∀ A' : Around, A'.units ≤ X.A.units + 10 → A'.guards = X.A.guards → G A') ∧
  ∀ (pins : List (Addr × Obj)) (σ : St) (H : Hp) (s : Shared) (v : V) (u : Value) (h0 : Heap), Inv X pins σ H s → RelV v u → FV v H → (∀ b o, s.heap.get? b = some o → h0.get? b = some o) → FmtOk X.prog X.w G h0 u n
theorem near_call {pins : List (Addr × Obj)} {σ : St} {H : Hp} {s : Shared} {FV : V → Hp → Prop} {v : V} {u : Value} {k : Nat} {Q : Value → Shared → Prop} {E : Value → Shared → Prop} {A : Around} (T : NearTxt X.prog X.K X.mg cn f C fI parts jp) (hp : PartsOk f parts) (hF : Texts X FV)
    (hd : A.depth = X.A.depth) (hu : A.units ≤ X.A.units + 1) (hgs : A.guards = X.A.guards) (hr : Room (k + 1) X.A) (I : Inv X pins σ H s) (rv : RelV v u) (fv : FV v H)
    {args : Args} (hargs : args = ⟨[u], []⟩ ∨ args = ⟨[], [(f, u)]⟩) (hq : ∀ h' tk e d, OwnMade s.heap h' e C d f u → Q (.ref e) { s with heap := h', toks := tk }) : codeAny (model X.prog X.w) A (.call (.ref C) args) (fun r s' => match r with | .ok (.ret x) => Q x s' | .ok _ => False | .error x => E x s') s := by
  obtain ⟨G, n, hn, hG, hV⟩ := hF
  refine near_made T I.ok.mod I.bk hargs (by have := hr.dp; omega) (fun h0 A' x hk hu' hg' => argOk T.fs hp (hV pins σ H s v u h0 I rv fv hk) hn fun env => hG _ ?_ ?_) fun h' tk e d M => hq h' tk e d M
  · show A'.units + 3 ≤ X.A.units + 10
    omega
  · show A'.guards = X.A.guards
    rw [hg', hgs]
theorem pe_near {FV : V → Hp → Prop} {a : Expr} {ta : TA} {p pos : Pos} {k : Nat} (T : NearTxt X.prog X.K X.mg cn f C fI parts jp) (hp : PartsOk f parts) (hF : Texts X FV) (hr : Room (k + 1) X.A) (ha : PA X [a] ta) (hg : Gl X cn := by rfl)
    (hdb : (cn == ("__debug__" : Str)) = false := by decide)
    (he : starEach (a :: []) X.env = (false, eval a X.env) :: starEach [] X.env := by rfl) (hpl : (backTo pos (starEach [] X.env)).any (·.1) = false := by rfl) :
    PE X (.Call (.Name cn p) [a] [] pos) (tNear C f FV ta) := by
  refine ⟨fun pins s σ H Q I h => ?_⟩
  refine wpAny_Call_Name_kw (ld_glob I hg T.gC ?_ hdb)
  refine PySem.W.callWith_K (h₀ := X.base) I.ok.mod.kin T.kC (thn (ha.run pos pins s σ H _ I h) fun us s1 ⟨vs, H1, I1, r1, v, ev, fv, q1⟩ => ⟨I1.kIn, ?_⟩) he hpl
  subst ev
  cases r1 with
  | @cons _ u _ us' rv rn =>
    cases rn
    show wpAny _ _ (call (.ref C) [u]) _ _ _
    refine wpAny_call (codeAny_mono (near_call (Q := EP X pins σ Q) (E := X.xe) T hp hF rfl (Nat.le_succ _) rfl hr I1 rv fv (Or.inl rfl) fun h' tk e d M => ?_) fun r s' hq => ?_)
    · obtain ⟨n1, n2, J⟩ := I1.made2 (tk := tk) M rv
      exact ⟨.ref e, _, J, rfl, q1 e d n1 n2 M.dne⟩
    · cases r with
      | error er => exact hq
      | ok fl => cases fl <;> first | exact hq | exact hq.elim
end
end L2
set_option Elab.async false
set_option linter.all false
set_option maxRecDepth 100000
set_option maxHeartbeats 4000000
/-! Promises of defs that are called while no __repr__ is under way: they may ask for repr of data. -/
namespace L2
open PySem PySem.Spec PyProof.Rows

/-- as FnOk, of calls under which no repr is going on -/
structure FnG (P : Program) (w : World) (K : PySem.W.Frag) (mg : Str → Option Value) (base : Heap) (CX : CXT) (k : Nat) (f : Addr) (fd : FuncData) (ps : List Str) (sp : Sp) : Prop where
  len : ∀ vs H Q E, sp vs H Q E → vs.length = ps.length
  go : ∀ (A : Around), A.guards = some [] → ∀ (outer : List Env) (s : Shared) (H : Hp) (args : Args) (us : List Value) (vs : List V) (Q : VK) (E : XK), Room k A → Env0 P w K mg base A outer s H →
    BindsTo s fd args (ps.zip us) → Vals vs us → sp vs H Q E → codeAny (model P w) A (.call (.ref f) args) (CR CX outer P w H s Q E) s

section
variable {P : Program} {w : World} {K : PySem.W.Frag} {mg : Str → Option Value} {base : Heap} {CX : CXT} {k : Nat} {f : Addr} {fd : FuncData} {ps : List Str} {sp : Sp}
theorem FnOk.toG (F : FnOk P w K mg base CX k f fd ps sp) : FnG P w K mg base CX k f fd ps sp :=
  ⟨F.len, fun A _ outer s H args us vs Q E hr h0 hb hv hs => F.run A outer s H args us vs Q E hr h0 hb hv hs⟩
theorem FnG.up {j : Nat} (F : FnG P w K mg base CX j f fd ps sp) (h : j ≤ k) : FnG P w K mg base CX k f fd ps sp :=
  ⟨F.len, fun A hg outer s H args us vs Q E hr => F.go A hg outer s H args us vs Q E (hr.mono h)⟩

/-- a def of the text by its body, the body standing where no repr is going on -/
theorem Fun.okGX {CX : CXT} {x qual : Str} {st : Stmt} {N : List Str} (F : Fun K x qual st f fd) (S : FnScope N ps (defScope st)) (len : ∀ vs H Q E, sp vs H Q E → vs.length = ps.length)
    (hbody : ∀ (cdv : Value) (A : Around) (outer : List Env) (s : Shared) (H : Hp) (vs : List V) (Q : VK) (E : XK), A.guards = some [] → Room k (A.deeper (envOfC qual (defScope st) s.heap.objs.size f cdv)) → sp vs H Q E →
      ∃ t, PSs (cxOf CX P w K mg base N qual (defScope st) f cdv A outer s H E) (defBody st) t ∧ t { nx := fun _ H' => Q .non H', rt := Q } (start N vs) H) :
    FnG P w K mg base CX (k + 1) f fd ps sp := by
  obtain ⟨oc, od, kV, doc, pm, an, cdv, ct, osl, rfl, lk, hcd⟩ := F.ex
  refine ⟨len, fun A hg outer s H args us vs Q E hr e0 hb r hsp => ?_⟩
  have hin : ∀ b o, base.get? b = some o → s.heap.get? b = some o := fun b o z => (e0.bs b o z).1
  have KX : K.In s.heap := e0.mod.kin.keeps hin
  have names : ∀ y ∈ ps.zip us, (defScope st).names.lookup y.1 = some .local ∨ ((defScope st).names.lookup y.1 = some .cell ∧ ((cellsFrom (s.heap.objs.size + 1) (defScope st).names []).lookup y.1).isSome = true) := by
    rintro ⟨n, v⟩ hy
    cases S.par n (List.of_mem_zip hy).1 with
    | inl q => exact Or.inl q
    | inr q => exact Or.inr ⟨q, PySem.W.cellsFrom_some _ _ _ (Or.inl q)⟩
  refine codeAny_call_function hr.depth (KX _ _ lk) rfl S.co S.gen rfl (PySem.W.codeRec_of KX hcd) (hb _ _ _ _ (wpAny_newFunctionEnv_cells S.kind names fun env he s1 x => ?_))
  subst he
  refine ⟨(e0.mod.nolimit.keeps hin).keeps x.toInCall.keep, codeAny_func ?_⟩
  obtain ⟨t, ht, hq⟩ := hbody cdv A outer s H vs Q E hg (hr.deeper _) hsp
  refine wpAny_mono (ht.run [] s1 (start N vs) H _ (inv_start S hr.hd e0 (len _ _ _ _ hsp) r x) hq) (fun fl s' hs => ?_) fun _ _ hs => hs
  cases fl with
  | ret u =>
    obtain ⟨v, _, H', J, rv, q⟩ := hs
    exact ⟨v, H', J.os, J.bare, J.base, J.hok, rv, q⟩
  | next =>
    obtain ⟨_, H', J, q⟩ := hs
    exact ⟨V.non, H', J.os, J.bare, J.base, J.hok, rfl, q⟩
  | brk => exact False.elim hs.choose_spec.choose_spec.2
  | cont => exact False.elim hs.choose_spec.choose_spec.2
/-- the same of a def that nothing raised leaves -/
theorem Fun.okG {x qual : Str} {st : Stmt} {N : List Str} (F : Fun K x qual st f fd) (S : FnScope N ps (defScope st)) (len : ∀ vs H Q E, sp vs H Q E → vs.length = ps.length)
    (hbody : ∀ (cdv : Value) (A : Around) (outer : List Env) (s : Shared) (H : Hp) (vs : List V) (Q : VK) (E : XK), A.guards = some [] → Room k (A.deeper (envOfC qual (defScope st) s.heap.objs.size f cdv)) → sp vs H Q E →
      ∃ t, PSs (cxOf CX0 P w K mg base N qual (defScope st) f cdv A outer s H E).nox (defBody st) t ∧ t { nx := fun _ H' => Q .non H', rt := Q } (start N vs) H) :
    FnG P w K mg base CX0 (k + 1) f fd ps sp :=
  F.okGX S len fun cdv A outer s H vs Q E hg hr h => let ⟨t, ht, hq⟩ := hbody cdv A outer s H vs Q E hg hr h; ⟨t, ht.nox, hq⟩
end

section
variable {X : Cx} {CX : CXT} {k : Nat} {f : Addr} {fd : FuncData} {ps : List Str} {sp : Sp} {dvs : List V} {ds : List Value} {E : XK} {x : Str} {p pos : Pos} {e : Expr} {es : List Expr} {t : TA}
theorem run_fnG {pins : List (Addr × Obj)} {σ : St} {H : Hp} {s : Shared} {Q : VK} {us : List Value} {vs : List V} (F : FnG X.prog X.w X.K X.mg X.base CX k f fd ps sp) (hA : X.A.guards = some []) (hr : Room k X.A) (hb : Binds X.K fd ps ds) (hd : Vals dvs ds) (hx : Passes CX X E)
    (I : Inv X pins σ H s) (r : Vals vs us) (h : sp (vs ++ dvs) H Q E) : wpAny (model X.prog X.w) X.A (call (.ref f) us) (EP X pins σ Q) X.xe s := by
  have r2 : Vals (vs ++ dvs) (us ++ ds) := r.append hd
  have hl : (us ++ ds).length = ps.length := r2.length.symm.trans (F.len _ _ _ _ h)
  refine wpAny_call (codeAny_mono (F.go X.A hA X.stack s H ⟨us, []⟩ (us ++ ds) (vs ++ dvs) Q E hr I.env0 (hb s us I.kIn hl) r2 h) fun res s' hq => ?_)
  cases res with
  | error err => exact hx pins σ H s err s' I hq
  | ok fl =>
    cases fl with
    | ret u => exact I.after hq
    | next => exact hq.elim
    | brk => exact hq.elim
    | cont => exact hq.elim
theorem pe_callG (F : FnG X.prog X.w X.K X.mg X.base CX k f fd ps sp) (hA : X.A.guards = some []) (hr : Room k X.A) (hg : Gl X x) (hm : X.mg x = some (.ref f)) (hk : PySem.W.keepIn X.K (.ref f) = true) (hb : Binds X.K fd ps ds) (hd : Vals dvs ds) (hx : Passes CX X E)
    (ha : PA X (e :: es) t) (hdb : (x == ("__debug__" : Str)) = false := by decide) (he : starEach (e :: es) X.env = (false, eval e X.env) :: starEach es X.env := by rfl) (hpl : (backTo pos (starEach es X.env)).any (·.1) = false := by rfl) :
    PE X (.Call (.Name x p) (e :: es) [] pos) (tCall sp dvs E t) :=
  ⟨fun pins s σ H Q I h => wpAny_Call_Name_kw (ld_glob I hg hm (PySem.W.callWith_K (h₀ := X.base) I.ok.mod.kin hk
    (thn (ha.run pos pins s σ H _ I h) fun us s1 ⟨vs, H1, I1, r, q⟩ => ⟨I1.kIn, run_fnG F hA hr hb hd hx I1 r q⟩) he hpl) hdb)⟩

/-- repr(x) of data, no repr being under way: the very text that the data have -/
def rRepr (K : PySem.W.Frag) : List V → Hp → VK → Prop := fun xs H Q => ∃ v d, xs = [v] ∧ Dp K H v d ∧ d.showable = true ∧ d.hasDict = false ∧ d.shown.length ≤ sizeLine ∧ d.depth ≤ 60 ∧ Q (.str d.shown) H
theorem call_reprD (hA : X.A.guards = some []) (hu : X.A.units + 64 < cLine) : CallR X (.builtin "repr") (rRepr X.K) := by
  intro pins s σ H xs us Q I r h
  obtain ⟨v, d, rfl, hd, hs, hn, hz, hdp, q⟩ := h
  cases r with
  | cons rv rr =>
    cases rr
    obtain ⟨as, rd⟩ := Dp.reads I d v _ hd rv
    have ref : ∀ (a : Addr), v = .ref a → wpAny (model X.prog X.w) X.A (call (.builtin "repr") [.ref a]) (EP X pins σ Q) X.xe s := by
      rintro a rfl
      cases rv
      exact repr_of_reads' rd hs (PyData.noDict_hsm hn) hA (by omega) (fun _ _ e => e) (fun h' u tk hk => ⟨.str d.shown, H, I.kept (t' := tk) hk, ⟨u, rfl⟩, q⟩) hz
    cases hd with
    | non =>
      cases rv
      exact PySem.P.repr_of_none ⟨.str _, H, I.tok _, ⟨_, rfl⟩, by simpa only [PyData.shown] using q⟩
    | bl b =>
      cases rv
      exact PySem.P.repr_of_bool ⟨.str _, H, I.tok _, ⟨_, rfl⟩, by simpa only [PyData.shown] using q⟩
    | int i =>
      obtain ⟨t, rfl⟩ := rv
      exact PySem.P.repr_of_int (by simpa [PyData.showable] using hs) ⟨.str _, H, I.tok _, ⟨_, rfl⟩, by simpa only [PyData.shown] using q⟩
    | str x =>
      obtain ⟨t, rfl⟩ := rv
      exact PySem.P.repr_of_str ⟨.str _, H, I.tok _, ⟨_, rfl⟩, by simpa only [PyData.shown] using q⟩ (by simpa only [PyData.shown] using hz)
    | lst hs' ha =>
      cases rv
      exact ref _ rfl
    | tup hs' ha =>
      cases rv
      exact ref _ rfl
end
end L2
set_option Elab.async false
set_option linter.all false
set_option maxRecDepth 100000
set_option maxHeartbeats 4000000
namespace L2
open PySem PySem.Spec PyProof.Rows PySem.NearX
section
variable {X : Cx} {cn f : Str} {C fI : Addr} {parts : List Expr} {jp : Pos}
/-- Cn(field=e) -/
theorem pe_nearKw {FV : V → Hp → Prop} {e : Expr} {te : TE} {p pos kp : Pos} {k : Nat} (T : NearTxt X.prog X.K X.mg cn f C fI parts jp) (hp : PartsOk f parts) (hF : Texts X FV) (hr : Room (k + 1) X.A) (ha : PE X e te) (hg : Gl X cn := by rfl)
    (hdb : (cn == ("__debug__" : Str)) = false := by decide)
    (hall : (backToKw pos (keywordEach [⟨some f, e, kp⟩] X.env)).all (·.1.isSome) = true := by rfl) (hks : (backToKw pos (keywordEach [⟨some f, e, kp⟩] X.env)).filterMap (·.1) = [f] := by rfl)
    (hpl : ((backTo pos (starEach [] X.env)).any (·.1) || (backToKw pos (keywordEach [⟨some f, e, kp⟩] X.env)).any (·.1.isNone)) = false := by rfl) :
    PE X (.Call (.Name cn p) [] [⟨some f, e, kp⟩] pos) (tNear C f FV (tCons te tNil)) := by
  refine ⟨fun pins s σ H Q I h => ?_⟩
  refine wpAny_Call_Name_kw (ld_glob I hg T.gC ?_ hdb)
  refine PySem.W.callWith_KW0 (h₀ := X.base) I.ok.mod.kin T.kC hall ?_ hpl
  refine thn ((pk_cons (nm := some f) (kpos := kp) ha pk_nil).run pos pins s σ H _ I h) fun us s1 ⟨vs, H1, I1, r1, v, ev, fv, q1⟩ => ⟨I1.kIn, ?_⟩
  rw [hks]
  subst ev
  cases r1 with
  | @cons _ u _ us' rv rn =>
    cases rn
    show wpAny _ _ (call (.ref C) [] [(f, u)]) _ _ _
    refine wpAny_call (codeAny_mono (near_call (Q := EP X pins σ Q) (E := X.xe) T hp hF rfl (Nat.le_succ _) rfl hr I1 rv fv (Or.inr rfl) fun h' tk e d M => ?_) fun r s' hq => ?_)
    · obtain ⟨n1, n2, J⟩ := I1.made2 (tk := tk) M rv
      exact ⟨.ref e, _, J, rfl, q1 e d n1 n2 M.dne⟩
    · cases r with
      | error er => exact hq
      | ok fl => cases fl <;> first | exact hq | exact hq.elim

/-- what reading the field f of such an error asks of the class at C -/
structure FldC (K : PySem.W.Frag) (C : Addr) (f : Str) : Prop where
  ga : PySem.W.findIn K (.ref C) "__getattribute__" = some (some (.builtin "BaseException.__getattribute__"))
  gg : PySem.W.findIn K (.ref C) "__getattr__" = some none
  noN : PySem.W.findIn K (.ref C) f = some none
  exC : PySem.W.subIn K (.ref C) (.type "BaseException") = some true
  hdC : PySem.W.hasDictIn K C = true
theorem fldC_of {P : Program} {K : PySem.W.Frag} {mg : Str → Option Value} (T : NearTxt P K mg cn f C fI parts jp) : FldC K C f := ⟨T.ga, T.gg, T.noN, T.exC, T.hdC⟩
/-- e.f, e an error at a whose own dict is told -/
def tNearF (C : Addr) (f : Str) (te : TE) : TE := fun σ H Q => te σ H fun x H1 => ∃ a d fs v, x = .ref a ∧ H1 a = some (exo a C (some d)) ∧ H1 d = some (.xd fs) ∧ fs.lookup f = some v ∧ Q v H1
theorem pe_nearF {e : Expr} {te : TE} {pos : Pos} (T : FldC X.K C f) (he : PE X e te) (hb : attributeBase e f X.env (eval e X.env) = eval e X.env := by rfl) : PE X (.Attribute e f pos) (tNearF C f te) := by
  refine ⟨fun pins s σ H Q I h => ?_⟩
  refine attr_of hb (thn (he.run pins s σ H _ I h) fun u s1 hh => ?_)
  obtain ⟨x, H1, I1, rx, a, d, fs, v, ex, ea, ed, l, q⟩ := hh
  subst ex
  obtain rfl : u = Value.ref a := rx
  obtain ⟨t1, ho⟩ := exo_at I1.hok ea
  obtain ⟨mA, hns, hr⟩ := I1.hok d _ ed
  obtain ⟨od, hod, hl⟩ := lookIn_ns hns
  obtain ⟨w, hw, rw'⟩ := RelO.some_of (v := v) (o := mA f) (by rw [← l]; exact hr f)
  have J : PySem.W.InstAt s1.heap a { cls := .ref C, dict := some d, data := .fields #[.ref t1, .none, .none, .none, .bool false, .none] } C (some od) := ⟨ho, rfl, rfl, hod⟩
  exact HandSPX.exc_get I1.kIn J T.ga T.gg T.exC (PySem.W.findObj_own T.hdC T.noN rfl (by rw [hl, hw])) (handed_of rw') ⟨v, H1, I1.tok _, rw', q⟩

/-- Cn(), an own class over own classes over ValueError, none with an __init__ -/
theorem pe_exc0 {C : Addr} {x : Str} {p pos : Pos} (q : PySem.W.excIn X.K C [.type "ValueError", .type "Exception", .type "BaseException", .type "object"] "ValueError.__new__" = true) (gC : X.mg x = some (.ref C)) (kC : PySem.W.keepIn X.K (.ref C) = true) (hg : Gl X x := by rfl)
    (hdb : (x == ("__debug__" : Str)) = false := by decide) :
    PE X (.Call (.Name x p) [] [] pos) (fun _ H Q => ∀ a, H a = none → Q (.ref a) (upd H a (ExO (.ref C) a))) := by
  refine ⟨fun pins s σ H Q I h => ?_⟩
  refine wpAny_Call_Name_kw (ld_glob I hg gC ?_ hdb)
  refine PySem.W.callWith_K0 I.kIn kC ?_
  show wpAny _ _ (call (.ref C) []) _ _ _
  obtain ⟨bm, N, nm, qn, bs, hdct, sn, sub, ab, col, dd, k0, k1, k2, k3, k5, mN, hC, hN, hni, T⟩ := exc_obj I.kIn q
  refine wpAny_call_exc_subT PySem.F.excBase_ValueError T hC hN hni (fun h' a hm => ?_) (Nat.zero_le _)
  have hn : H a = none := I.hok.gone hm.new
  obtain ⟨t, ht, _, _⟩ := hm.there
  exact ⟨.ref a, upd H a (ExO (.ref C) a), I.laidN hm.keeps hm.new hn (exO_ok ht ⟨rfl, rfl⟩ rfl rfl rfl (show 4 < 6 by decide)), rfl, h a hn⟩
/-- ValueError() -/
theorem pe_ve0 {p pos : Pos} (hm : X.mg "ValueError" = none) (hg : Gl X "ValueError" := by rfl) :
    PE X (.Call (.Name "ValueError" p) [] [] pos) (fun _ H Q => ∀ a, H a = none → Q (.ref a) (upd H a (ExO (.type "ValueError") a))) := by
  refine ⟨fun pins s σ H Q J h => ?_⟩
  refine wpAny_Call_Name_kw (ld_blt J hg hm L2.boot_ValueError ?_ (by decide) (by decide))
  obtain ⟨hp1, g1, d1, tk1, os1⟩ := s
  refine PyProof.Rows.callWith_type0 (wpAny_call_exc L2.exb_ValueError.call (fun h' a mk => ?_) (Nat.zero_le _))
  have hn : H a = none := J.hok.gone mk.new
  obtain ⟨t, ht, _, _⟩ := (PySem.Heap.MadeExc.of mk).there
  exact ⟨.ref a, upd H a (ExO (.type "ValueError") a), J.laidN mk.keeps mk.new hn (exO_ok ht ⟨rfl, rfl⟩ rfl rfl rfl (show 4 < 6 by decide)), rfl, h a hn⟩

/-- an error of the class cls stands at a -/
def IsExc (H : Hp) (a : Addr) (cls : Value) : Prop := (∃ D d fs, cls = .ref D ∧ H a = some (exo a D (some d)) ∧ H d = some (.xd fs)) ∨ H a = some (ExO cls a)
def ExcK (K : PySem.W.Frag) (cls : Value) : Prop := (∃ D, cls = .ref D ∧ ExcC K D) ∨ cls = .type "ValueError"
def rIsX (K : PySem.W.Frag) : List V → Hp → VK → Prop := fun xs H Q => ∃ (a : Addr) (cls : Value) (c : V) (cv : Value) (b : Bool), xs = [.ref a, c] ∧ IsExc H a cls ∧ ExcK K cls ∧ (∀ u, RelV c u → u = cv) ∧ PySem.W.kitOne K cls cv = some b ∧ Q (.bl b) H
theorem call_isX : CallR X (.builtin "isinstance") (rIsX X.K) := by
  intro pins s σ H xs us Q I r h
  obtain ⟨a, cls, c, cv, b, rfl, ie, ck, hcv, e, q⟩ := h
  cases r with
  | cons rx rr =>
    cases rr with
    | @cons _ uc _ _ rt rr =>
      cases rr
      cases rx
      have ec := hcv _ rt
      subst ec
      have own : ∀ (D : Addr) (ox : Obj) (od : Option Obj), cls = .ref D → PySem.W.InstAt s.heap a ox D od → wpAny (model X.prog X.w) X.A (call (.builtin "isinstance") [.ref a, uc]) (EP X pins σ Q) X.xe s := by
        intro D ox od ed J
        subst ed
        rcases ck with ⟨D', e1, K1⟩ | e1
        · cases e1
          obtain ⟨cd, hc, _⟩ := PySem.W.any_some K1.hd
          exact PySem.W.kia_one (PySem.W.kitx_exc (by rw [hc]; rfl) K1.hg K1.hk K1.hs K1.ha K1.hn K1.ht K1.hm) I.kIn J e (fun z => nomatch z) fun tk => ⟨.bl b, H, I.kept (t' := tk) fun _ _ z => z, rfl, q⟩
        · cases e1
      rcases ie with ⟨D, d, fs, ed, ea, edd⟩ | ea
      · obtain ⟨t1, ho⟩ := exo_at I.hok ea
        obtain ⟨mA, ⟨od, es, ep, hod, _⟩, _⟩ := I.hok d _ edd
        exact own D _ (some od) ed ⟨ho, rfl, rfl, hod⟩
      · obtain ⟨⟨oe, vs, ho, hz, hd, _, _⟩, _, _⟩ := I.hok a _ ea
        rcases ck with ⟨D, e1, K1⟩ | e1
        · subst e1
          refine own D oe none rfl ?_
          obtain ⟨oc, od, oda, osl⟩ := oe
          obtain ⟨h1, h2⟩ := hz
          dsimp only at h1 h2 hd
          subst h1 h2 hd
          exact ⟨ho, rfl, rfl, trivial⟩
        · subst e1
          exact PySem.W.kia_one (PySem.W.kitx_bexc PySem.F.excAttr_ValueError PySem.F.lkClass_ValueError PySem.F.soClass_ValueError (by decide)) I.kIn ⟨oe, ho, hz.1⟩ e (fun z => nomatch z) fun tk => ⟨.bl b, H, I.kept (t' := tk) fun _ _ z => z, rfl, q⟩
end
end L2
set_option Elab.async false
set_option linter.all false
set_option maxRecDepth 100000
set_option maxHeartbeats 4000000
/-! Data at any depth: they stand while the heap grows; their texts. -/
namespace L2
open PySem PySem.Spec PyProof.Rows PySem.NearX
theorem SqL.on {K : PySem.W.Frag} {H H' : Hp} {a : Addr} {xs : List V} (h : SqL K H a xs) (s : Same H H') : SqL K H' a xs := s.seq h
theorem SqT.on {K : PySem.W.Frag} {H H' : Hp} {a : Addr} {xs : List V} (h : SqT K H a xs) (s : Same H H') : SqT K H' a xs := by
  rcases h with (h | ⟨o, h⟩) | h
  · exact .inl (.inl (s _ _ h))
  · exact .inl (.inr ⟨o, s _ _ h⟩)
  · exact .inr h
mutual
theorem Dp.on {K : PySem.W.Frag} {H H' : Hp} (s : Same H H') : ∀ {v : V} {d : PyData}, Dp K H v d → Dp K H' v d
  | _, _, .non => .non
  | _, _, .bl b => .bl b
  | _, _, .int i => .int i
  | _, _, .str x => .str x
  | _, _, .lst h1 h2 => .lst (h1.on s) (DpAll.on s h2)
  | _, _, .tup h1 h2 => .tup (h1.on s) (DpAll.on s h2)
theorem DpAll.on {K : PySem.W.Frag} {H H' : Hp} (s : Same H H') : ∀ {vs : List V} {ds : List PyData}, DpAll K H vs ds → DpAll K H' vs ds
  | _, _, .nil => .nil
  | _, _, .cons h1 h2 => .cons (Dp.on s h1) (DpAll.on s h2)
end
theorem DpAll.rep {K : PySem.W.Frag} {H : Hp} {v : V} {d : PyData} (h : Dp K H v d) : ∀ n : Nat, DpAll K H (List.replicate n v) (List.replicate n d)
  | 0 => .nil
  | n + 1 => .cons h (DpAll.rep h n)
/-- a value of data whose text is not long -/
def FVd (K : PySem.W.Frag) (v : V) (H : Hp) : Prop := ∃ d : PyData, Dp K H v d ∧ d.showable = true ∧ d.hasDict = false ∧ d.shown.length ≤ 4000 ∧ d.depth ≤ 30 ∧ ∀ x : Str, d = .str x → x.length ≤ 4000
theorem FVd.on {K : PySem.W.Frag} {v : V} {H H' : Hp} (h : FVd K v H) (s : Same H H') : FVd K v H' := by
  obtain ⟨d, h1, h2⟩ := h
  exact ⟨d, h1.on s, h2⟩
theorem texts_d {X : Cx} (hA : X.A.guards = some []) (hu : X.A.units + 100 < cLine) : Texts X (FVd X.K) := by
  refine ⟨fun A => A.guards = some [] ∧ A.units + 64 < cLine, 4000, by decide, fun A' h1 h2 => ⟨h2.trans hA, by omega⟩, fun pins σ H s v u h0 I rv ⟨d, hd, hs, hn, hz, hdp, hx⟩ hk => ?_⟩
  intro A E s1 Q ⟨hg, hun⟩ hk0 hq
  obtain ⟨as, rd⟩ := Dp.reads I d v u hd rv
  have big : d.shown.length ≤ sizeLine := line_big (by omega)
  have ref : ∀ a : Addr, u = .ref a → wpAny (model X.prog X.w) A (formatField u Str.empty) Q E s1 := by
    rintro a rfl
    exact formatField_of_reads rd hs (PyData.noDict_hsm hn) hg (by omega) (fun b o e => hk0 b o (hk b o e)) (fun h' w tk hk' => hq d.shown w h' tk hz hk') big
  cases hd with
  | non =>
    cases rv
    exact wpAny_formatField_none (hq _ _ s1.heap _ (by decide +kernel) fun _ _ e => e)
  | bl b =>
    cases rv
    exact wpAny_formatField_bool (hq _ _ s1.heap _ (by cases b <;> decide +kernel) fun _ _ e => e)
  | int i =>
    obtain ⟨t, rfl⟩ := rv
    exact wpAny_formatField_int (by simpa [PyData.showable] using hs) (hq _ _ s1.heap _ (by simpa only [PyData.shown] using hz) fun _ _ e => e)
  | str x =>
    obtain ⟨t, rfl⟩ := rv
    have := hx x rfl
    exact wpAny_formatField_str (hq _ _ s1.heap _ this fun _ _ e => e) (hq _ _ s1.heap _ this fun _ _ e => e) (line_big (by omega))
  | lst h1 h2 =>
    cases rv
    exact ref _ rfl
  | tup h1 h2 =>
    cases rv
    exact ref _ rfl
theorem shownAll_rep (d : PyData) : ∀ n : Nat, PyData.shownAll (List.replicate n d) = List.replicate n d.shown
  | 0 => by simp only [List.replicate, PyData.shownAll]
  | n + 1 => by rw [List.replicate_succ, PyData.shownAll, shownAll_rep d n, List.replicate_succ]
theorem showable_rep {d : PyData} (h : d.showable = true) : ∀ n : Nat, PyData.showableAll (List.replicate n d) = true
  | 0 => by simp only [List.replicate, PyData.showableAll]
  | n + 1 => by rw [List.replicate_succ, PyData.showableAll, showable_rep h n, h]; rfl
theorem noDict_rep {d : PyData} (h : d.hasDict = false) : ∀ n : Nat, PyData.hasDictAll (List.replicate n d) = false
  | 0 => by simp only [List.replicate, PyData.hasDictAll]
  | n + 1 => by rw [List.replicate_succ, PyData.hasDictAll, noDict_rep h n, h]; rfl
theorem depth_rep {d : PyData} {k : Nat} (h : d.depth ≤ k) : ∀ n : Nat, PyData.depthAll (List.replicate n d) ≤ k
  | 0 => by simp only [List.replicate, PyData.depthAll]; exact Nat.zero_le _
  | n + 1 => by
    rw [List.replicate_succ, PyData.depthAll]
    have := depth_rep h n
    omega
theorem sum_rep (a : Nat) : ∀ n : Nat, (List.replicate n a).sum = n * a
  | 0 => by simp
  | n + 1 => by rw [List.replicate_succ, List.sum_cons, sum_rep a n, Nat.succ_mul]; omega
/-- a list of n equal values of data has the text of its datum -/
theorem list_rep_ok {d : PyData} {n : Nat} (hn : n ≤ 100) (hs : d.showable = true) (hx : d.hasDict = false) (hz : d.shown.length ≤ 4000) (hd : d.depth ≤ 30) :
    (PyData.list (List.replicate n d)).showable = true ∧ (PyData.list (List.replicate n d)).hasDict = false ∧ (PyData.list (List.replicate n d)).shown.length ≤ sizeLine ∧ (PyData.list (List.replicate n d)).depth ≤ 60 := by
  refine ⟨by simpa only [PyData.showable] using showable_rep hs n, by simpa only [PyData.hasDict] using noDict_rep hx n, ?_, ?_⟩
  · simp only [PyData.shown]
    rw [shownAll_rep]
    refine Nat.le_trans (listText_len_le _) ?_
    rw [List.map_replicate, sum_rep, List.length_replicate, sizeLine_eq]
    have : n * d.shown.length ≤ 100 * 4000 := Nat.mul_le_mul hn hz
    omega
  · simp only [PyData.depth]
    have := depth_rep hd n
    omega
theorem lk1 {f : Str} {v : V} : List.lookup f [(f, v)] = some v := by simp [List.lookup]
end L2
set_option Elab.async false
set_option linter.all false
set_option maxRecDepth 100000
set_option maxHeartbeats 4000000
namespace Law
open PySem PySem.Spec PyProof.Rows L2 PySem.NearX
/-! ### the text by places -/
def top (i : Nat) : Stmt := PySem.Challenge.pw_nearsettled_k62_errors_and_fields.main.body.getD i (.Pass ⟨0, 0, 0, 0⟩)
abbrev sFeed : Stmt := top 25
abbrev sTake : Stmt := top 26
abbrev sPick : Stmt := top 27
abbrev sKinds : Stmt := top 28
abbrev sFields : Stmt := top 29
abbrev sLaw : Stmt := top 30

/-! ### what the draws come from: a list of two numbers, neither below nought -/
def FeedAt (H : Hp) (p : Addr) : Prop := ∃ d s : Int, H p = some (.lst [.int d, .int s]) ∧ 0 ≤ d ∧ 0 ≤ s
def But (H H' : Hp) (p : Addr) : Prop := ∀ b o, b ≠ p → H b = some o → H' b = some o
/-- the built-ins that the defs name -/
structure Blt (mg : Str → Option Value) : Prop where
  len : mg "len" = none
  max : mg "max" = none
  min : mg "min" = none
  abs : mg "abs" = none
  int : mg "int" = none
  range : mg "range" = none
  enumerate : mg "enumerate" = none
  isinstance : mg "isinstance" = none
  repr : mg "repr" = none
  VE : mg "ValueError" = none

def spFeed (K : PySem.W.Frag) : Sp := fun vs H Q _ => ∃ (a : Addr) (ns : List Int) (k : Nat), vs = [.ref a, .int k] ∧ SqL K H a (ns.map V.int) ∧ ns.length ≤ 63 ∧ k ≤ 5 ∧
  ∀ H' p, Same H H' → H p = none → FeedAt H' p → Q (.ref p) H'
def spTake : Sp := fun vs H Q _ => ∃ (p : Addr) (n : Int), vs = [.ref p, .int n] ∧ FeedAt H p ∧ 0 < n ∧ n < 1073741824 ∧
  ∀ H' r, But H H' p → FeedAt H' p → 0 ≤ r → r < n → Q (.int r) H'
def spPick (K : PySem.W.Frag) : Sp := fun vs H Q _ => ∃ (p a : Addr) (xs : List V), vs = [.ref p, .ref a] ∧ FeedAt H p ∧ SqL K H a xs ∧ p ≠ a ∧ 0 < xs.length ∧ xs.length < 1000000 ∧
  ∀ H' (i : Nat) x, But H H' p → FeedAt H' p → xs[i]? = some x → Q x H'
section
variable {P : Program} {w : World} {K : PySem.W.Frag} {mg : Str → Option Value} {base : Heap}
theorem scTake : FnScope ["feed", "many", "digit"] ["feed", "many"] (defScope sTake) := ⟨rfl, rfl, rfl, by decide +kernel, rfl, by decide +kernel, by decide +kernel⟩
theorem ok_take {f : Addr} {fd : FuncData} (F : Fun K "_law_take" "_law_take" sTake f fd) (T : Blt mg) : FnOk P w K mg base CX0 1 f fd ["feed", "many"] spTake := by
  refine F.ok scTake (fun vs H Q E h => ?_) (fun cdv A outer s H vs Q E hr h => ?_)
  · obtain ⟨p, n, rfl, _⟩ := h
    rfl
  · obtain ⟨p, n, rfl, ⟨d, st, hp, hd, hs⟩, hn, hn2, k⟩ := h
    refine ⟨_, pss_cons (ps_if (pt_cmpR op_gt (pe_ix ix_list (pv 0) pe_int (fun _ _ => rfl)) pe_int (nomark _))
        (pss_cons (ps_set (i := 2) scTake.nd rfl (Or.inl rfl) (pe_op op_mod (pe_callTy call_int1 (by rfl) T.int (by decide +kernel) (pa_cons (pe_ix ix_list (pv 0) pe_int (fun _ _ => rfl)) pa_nil)) (pv 1)))
        (pss_cons (ps_asg (pe_op op_fdiv (pe_ix ix_list (pv 0) pe_int (fun _ _ => rfl)) (pv 1)) (pg_sub (pv 0) pe_int set_list))
        (pss_one (ps_ret (pv 2)))))
        pss_nil)
      (pss_cons (ps_asg (pe_op op_mod (pe_callTy call_int1 (by rfl) T.int (by decide +kernel) (pa_cons (pe_op op_add (pe_op op_mul (pe_ix ix_list (pv 0) pe_int (fun _ _ => rfl)) pe_int) pe_int) pa_nil)) pe_int) (pg_sub (pv 0) pe_int set_list))
      (pss_one (ps_ret (pe_op op_mod (pe_callTy call_int1 (by rfl) T.int (by decide +kernel) (pa_cons (pe_op op_fdiv (pe_ix ix_list (pv 0) pe_int (fun _ _ => rfl)) pe_int) pa_nil)) (pv 1))))), ?_⟩
    refine ⟨_, rfl, p, _, _, _, rfl, rfl, SqL.of hp, rfl, _, _, rfl, rfl, _, rfl, ?_⟩
    refine ite2 (fun c => ?_) (fun c => ?_)
    · refine ⟨_, rfl, p, _, _, _, rfl, rfl, SqL.of hp, rfl, .inl ⟨_, rfl, _, rfl, _, _, rfl, rfl, hn, ?_⟩⟩
      refine ⟨_, rfl, p, _, _, _, rfl, rfl, SqL.of hp, rfl, _, rfl, _, _, rfl, rfl, ⟨hn, hn2⟩, ?_⟩
      refine ⟨_, rfl, p, _, _, _, rfl, rfl, hp, rfl, ?_⟩
      refine ⟨_, rfl, k _ _ (fun b o hb e => by rw [upd_ne hb]; exact e) ⟨d / n, st, upd_same, Int.ediv_nonneg hd (by omega), hs⟩ (Int.emod_nonneg _ (by omega)) (Int.emod_lt_of_pos _ hn)⟩
    · refine ⟨_, rfl, p, _, _, _, rfl, rfl, SqL.of hp, rfl, _, _, rfl, rfl, .inr ⟨by decide, by decide⟩, _, _, rfl, rfl, .inl ⟨_, rfl, _, _, rfl, rfl, (by show (0 : Int) < 2305843009213693951; decide), ?_⟩⟩
      refine ⟨_, rfl, p, _, _, _, rfl, rfl, hp, rfl, ?_⟩
      refine ⟨_, rfl, p, _, _, _, rfl, rfl, SqL.of upd_same, rfl, _, _, rfl, rfl, ⟨by decide, by decide⟩, .inl ⟨_, rfl, _, rfl, _, _, rfl, rfl, hn, ?_⟩⟩
      exact k _ _ (fun b o hb e => by rw [upd_ne hb]; exact e) ⟨d, _, upd_same, hd, Int.emod_nonneg _ (by decide)⟩ (Int.emod_nonneg _ (by omega)) (Int.emod_lt_of_pos _ hn)
theorem scPick : FnScope ["feed", "some"] ["feed", "some"] (defScope sPick) := ⟨rfl, rfl, rfl, by decide +kernel, rfl, by decide +kernel, by decide +kernel⟩
theorem ok_pick {f fT : Addr} {fd fdT : FuncData} (F : Fun K "_law_pick" "_law_pick" sPick f fd) (T : Blt mg) (GT : FnOk P w K mg base CX0 1 fT fdT ["feed", "many"] spTake) (gT : mg "_law_take" = some (.ref fT)) (kT : PySem.W.keepIn K (.ref fT) = true) (bT : Binds K fdT ["feed", "many"] []) :
    FnOk P w K mg base CX0 2 f fd ["feed", "some"] (spPick K) := by
  refine F.ok scPick (fun vs H Q E h => ?_) (fun cdv A outer s H vs Q E hr h => ?_)
  · obtain ⟨p, a, xs, rfl, _⟩ := h
    rfl
  · obtain ⟨p, a, xs, rfl, hp, ha, hpa, h0, h1, k⟩ := h
    refine ⟨_, pss_one (ps_ret (pe_ix ix_list (pv 1) (pe_call GT hr rfl gT kT bT .nil pass0 (pa_cons (pv 0) (pa_cons (pe_callB call_len_seq (by rfl) T.len PySem.boot_len (pa_cons (pv 1) pa_nil)) pa_nil))) (fun _ _ => rfl))), ?_⟩
    refine ⟨_, rfl, _, rfl, _, rfl, a, xs, rfl, .inl ha, p, _, rfl, hp, by omega, by omega, fun H' r hb hf r0 r1 => ?_⟩
    obtain ⟨i, rfl⟩ : ∃ i : Nat, r = (i : Int) := ⟨r.toNat, by omega⟩
    have hi : i < xs.length := by omega
    have ha' : SqL K H' a xs := by
      rcases ha with (h | ⟨o, h⟩) | h
      · exact .inl (.inl (hb _ _ (Ne.symm hpa) h))
      · exact .inl (.inr ⟨o, hb _ _ (Ne.symm hpa) h⟩)
      · exact .inr h
    exact ⟨a, xs, _, xs[i], rfl, rfl, ha', at_of (j := i) rfl (List.getElem?_eq_getElem hi), k H' i _ hb hf (List.getElem?_eq_getElem hi)⟩
theorem scFeed : FnScope ["script", "k", "cell", "digits", "state"] ["script", "k"] (defScope sFeed) := ⟨rfl, rfl, rfl, by decide +kernel, rfl, by decide +kernel, by decide +kernel⟩
theorem ok_feed {f : Addr} {fd : FuncData} (F : Fun K "_law_feed" "_law_feed" sFeed f fd) (T : Blt mg) : FnOk P w K mg base CX0 1 f fd ["script", "k"] (spFeed K) := by
  refine F.ok scFeed (fun vs H Q E h => ?_) (fun cdv A outer s H vs Q E hr h => ?_)
  · obtain ⟨a, ns, k, rfl, _⟩ := h
    rfl
  · obtain ⟨a, ns, k, rfl, hS, h63, hk, q⟩ := h
    refine ⟨_, pss_cons (ps_set (i := 2) scFeed.nd rfl (Or.inl rfl) (pe_ifExp (pt_cmpR op_lt (pv 1) (pe_callB call_len_seq (by rfl) T.len PySem.boot_len (pa_cons (pv 0) pa_nil)) (nomark _)) (pe_ix ix_list (pv 0) (pv 1) (fun _ _ => rfl)) (pe_op op_add (pe_op op_mul pe_int (pv 1)) pe_int)))
      (pss_cons (ps_set (i := 3) scFeed.nd rfl (Or.inl rfl) (pe_callB (call_max2 rfl) (by rfl) T.max (by decide +kernel) (pa_cons pe_int (pa_cons (pe_op op_sub (pe_callB call_abs (by rfl) T.abs (by decide +kernel) (pa_cons (pv 2) pa_nil)) (pe_op op_pow pe_int pe_int)) pa_nil))))
      (pss_cons (ps_set (i := 4) scFeed.nd rfl (Or.inl rfl) (pe_op op_mod (pe_callTy call_int1 (by rfl) T.int (by decide +kernel) (pa_cons (pe_op op_add (pe_op op_add (pe_op op_mul (pv 2) pe_int) (pe_op op_mul pe_int (pv 1))) pe_int) pa_nil)) pe_int))
      (pss_one (ps_ret (pe_lst (pa_cons (pv 3) (pa_cons (pv 4) pa_nil))))))), ?_⟩
    refine ⟨_, rfl, _, rfl, a, _, rfl, .inl hS, _, _, rfl, rfl, _, rfl, ?_⟩
    refine ite2 (fun c => ?_) (fun c => ?_)
    all_goals first
    | (have hi : k < ns.length := by
        have c' := of_decide_eq_true c
        rw [List.length_map] at c'
        omega
       refine ⟨_, rfl, _, rfl, a, _, _, _, rfl, rfl, hS, at_of (j := k) (v := V.int ns[k]) rfl (by rw [List.getElem?_map, List.getElem?_eq_getElem hi]; rfl), ?_⟩)
    | refine ⟨_, rfl, _, _, rfl, rfl, .inl ⟨by decide, by decide⟩, _, _, rfl, rfl, ?_⟩
    all_goals
      refine ⟨_, rfl, _, rfl, _, _, rfl, rfl, ⟨by decide, by decide, by decide⟩, _, _, rfl, rfl, _, _, rfl, ?_⟩
      refine ⟨_, rfl, _, _, rfl, rfl, .inr ⟨by decide, by decide⟩, _, rfl, _, _, rfl, rfl, .inl ⟨by decide, by decide⟩, _, _, rfl, rfl, _, _, rfl, rfl, .inl ⟨_, rfl, _, _, rfl, rfl, (by show (0 : Int) < 2305843009213693951; decide), ?_⟩⟩
      refine ⟨_, rfl, _, rfl, (by show 2 ≤ sizeLine; decide), fun p hp => q _ p (fun b o e => ?_) hp ⟨_, _, upd_same, ?_, Int.emod_nonneg _ (by decide)⟩⟩
      · rw [upd_ne (ne_of_none e hp)]
        exact e
      · split <;> omega
end
end Law
set_option Elab.async false
set_option linter.all false
set_option maxRecDepth 100000
set_option maxHeartbeats 4000000
namespace Law
open PySem PySem.Spec PyProof.Rows L2 PySem.NearX
/-- the error classes: the i-th at C i, NearError at CN -/
structure Kin (K : PySem.W.Frag) (mg : Str → Option Value) (C : Nat → Addr) (CN : Addr) : Prop where
  g_NoList : mg "NoList" = some (.ref (C 0))
  g_BadWidth : mg "BadWidth" = some (.ref (C 1))
  g_BadArity : mg "BadArity" = some (.ref (C 2))
  g_BadRow : mg "BadRow" = some (.ref (C 3))
  g_BadCell : mg "BadCell" = some (.ref (C 4))
  g_BadLength : mg "BadLength" = some (.ref (C 5))
  g_BadSpots : mg "BadSpots" = some (.ref (C 6))
  g_BadOrder : mg "BadOrder" = some (.ref (C 7))
  g_Unlike : mg "Unlike" = some (.ref (C 8))
  g_BadArguments : mg "BadArguments" = some (.ref (C 9))
  g_BadTable : mg "BadTable" = some (.ref (C 10))
  g_NoNumber : mg "NoNumber" = some (.ref (C 11))
  g_BadPlaces : mg "BadPlaces" = some (.ref (C 12))
  g_BadUse : mg "BadUse" = some (.ref (C 13))
  g_BadAnswer : mg "BadAnswer" = some (.ref (C 14))
  g_BadChoice : mg "BadChoice" = some (.ref (C 15))
  g_HasAnswer : mg "HasAnswer" = some (.ref (C 16))
  g_NoFold : mg "NoFold" = some (.ref (C 17))
  g_NoMeet : mg "NoMeet" = some (.ref (C 18))
  g_BadNear : mg "BadNear" = some (.ref (C 19))
  g_NoMark : mg "NoMark" = some (.ref (C 20))
  g_BadText : mg "BadText" = some (.ref (C 21))
  gN : mg "NearError" = some (.ref CN)
  kit : ∀ i j : Nat, i < 22 → j < 22 → PySem.W.kitOne K (.ref (C j)) (.ref (C i)) = some (decide (i = j))
  kitN : ∀ j : Nat, j < 22 → PySem.W.kitOne K (.ref (C j)) (.ref CN) = some true
  kitV : ∀ j : Nat, j < 22 → PySem.W.kitOne K (.ref (C j)) (.type "ValueError") = some true
  kitVN : PySem.W.kitOne K (.type "ValueError") (.ref CN) = some false
  ek : ∀ j : Nat, j < 22 → ExcC K (C j)
theorem IsExc.on {H H' : Hp} {a : Addr} {cls : Value} (h : IsExc H a cls) (s : Same H H') : IsExc H' a cls := by
  rcases h with ⟨D, d, fs, e, h1, h2⟩ | h1
  · exact Or.inl ⟨D, d, fs, e, s _ _ h1, s _ _ h2⟩
  · exact Or.inr (s _ _ h1)
theorem same_new {H : Hp} {p : Addr} {o : HO} (h : H p = none) : Same H (upd H p o) := fun b u e => by
  rw [upd_ne (ne_of_none e h)]
  exact e
theorem Same.new {H H' : Hp} {p : Addr} {o : HO} (s : Same H H') (h : H' p = none) : Same H (upd H' p o) := s.trans (same_new h)
theorem relC {a : Addr} (u : Value) (h : RelV (.ref a) u) : u = .ref a := h
theorem small {n : Nat} (h : n ≤ 1000) : n ≤ sizeLine := Nat.le_of_lt (small1000 h)
theorem boot_rep : bootBuiltins "repr" = some (.builtin "repr") := by decide +kernel
theorem boot_isi : bootBuiltins "isinstance" = some (.builtin "isinstance") := by decide +kernel
def kindsL (j : Nat) : List V := (List.range 22).map fun i => V.bl (decide (i = j))
def spKinds (C : Nat → Addr) : Sp := fun vs H Q _ => ∃ (a : Addr) (j : Nat), vs = [.ref a] ∧ j < 22 ∧ IsExc H a (.ref (C j)) ∧ ∀ H' p, Same H H' → H p = none → H' p = some (.lst (kindsL j)) → Q (.ref p) H'
section
variable {P : Program} {w : World} {K : PySem.W.Frag} {mg : Str → Option Value} {base : Heap} {C : Nat → Addr} {CN : Addr}
theorem scKinds : FnScope ["thing", "found"] ["thing"] (defScope sKinds) := ⟨rfl, rfl, rfl, by decide +kernel, rfl, by decide +kernel, by decide +kernel⟩
theorem ok_kinds {f : Addr} {fd : FuncData} (F : Fun K "_law_kinds" "_law_kinds" sKinds f fd) (T : Blt mg) (Z : Kin K mg C CN) : FnOk P w K mg base CX0 1 f fd ["thing"] (spKinds C) := by
  refine F.ok scKinds (fun vs H Q E h => ?_) (fun cdv A outer s H vs Q E hr h => ?_)
  · obtain ⟨a, j, rfl, _⟩ := h
    rfl
  · obtain ⟨a, j, rfl, hj, hx, q⟩ := h
    have ek : ExcK K (.ref (C j)) := Or.inl ⟨_, rfl, Z.ek j hj⟩
    refine ⟨_, (pss_cons (ps_set (i := 1) scKinds.nd rfl (Or.inl rfl) (pe_lst (pa_cons (pe_callB call_isX (by rfl) T.isinstance boot_isi (pa_cons (pv 0) (pa_cons (pe_glob (v := .ref (C 0)) rfl Z.g_NoList rfl) pa_nil))) (pa_cons (pe_callB call_isX (by rfl) T.isinstance boot_isi (pa_cons (pv 0) (pa_cons (pe_glob (v := .ref (C 1)) rfl Z.g_BadWidth rfl) pa_nil))) (pa_cons (pe_callB call_isX (by rfl) T.isinstance boot_isi (pa_cons (pv 0) (pa_cons (pe_glob (v := .ref (C 2)) rfl Z.g_BadArity rfl) pa_nil))) pa_nil)))))
      (pss_cons (ps_set (i := 1) scKinds.nd rfl (Or.inl rfl) (pe_op op_cat (pv 1) (pe_lst (pa_cons (pe_callB call_isX (by rfl) T.isinstance boot_isi (pa_cons (pv 0) (pa_cons (pe_glob (v := .ref (C 3)) rfl Z.g_BadRow rfl) pa_nil))) (pa_cons (pe_callB call_isX (by rfl) T.isinstance boot_isi (pa_cons (pv 0) (pa_cons (pe_glob (v := .ref (C 4)) rfl Z.g_BadCell rfl) pa_nil))) (pa_cons (pe_callB call_isX (by rfl) T.isinstance boot_isi (pa_cons (pv 0) (pa_cons (pe_glob (v := .ref (C 5)) rfl Z.g_BadLength rfl) pa_nil))) pa_nil))))))
      (pss_cons (ps_set (i := 1) scKinds.nd rfl (Or.inl rfl) (pe_op op_cat (pv 1) (pe_lst (pa_cons (pe_callB call_isX (by rfl) T.isinstance boot_isi (pa_cons (pv 0) (pa_cons (pe_glob (v := .ref (C 6)) rfl Z.g_BadSpots rfl) pa_nil))) (pa_cons (pe_callB call_isX (by rfl) T.isinstance boot_isi (pa_cons (pv 0) (pa_cons (pe_glob (v := .ref (C 7)) rfl Z.g_BadOrder rfl) pa_nil))) (pa_cons (pe_callB call_isX (by rfl) T.isinstance boot_isi (pa_cons (pv 0) (pa_cons (pe_glob (v := .ref (C 8)) rfl Z.g_Unlike rfl) pa_nil))) pa_nil))))))
      (pss_cons (ps_set (i := 1) scKinds.nd rfl (Or.inl rfl) (pe_op op_cat (pv 1) (pe_lst (pa_cons (pe_callB call_isX (by rfl) T.isinstance boot_isi (pa_cons (pv 0) (pa_cons (pe_glob (v := .ref (C 9)) rfl Z.g_BadArguments rfl) pa_nil))) (pa_cons (pe_callB call_isX (by rfl) T.isinstance boot_isi (pa_cons (pv 0) (pa_cons (pe_glob (v := .ref (C 10)) rfl Z.g_BadTable rfl) pa_nil))) pa_nil)))))
      (pss_cons (ps_set (i := 1) scKinds.nd rfl (Or.inl rfl) (pe_op op_cat (pv 1) (pe_lst (pa_cons (pe_callB call_isX (by rfl) T.isinstance boot_isi (pa_cons (pv 0) (pa_cons (pe_glob (v := .ref (C 11)) rfl Z.g_NoNumber rfl) pa_nil))) pa_nil))))
      (pss_cons (ps_set (i := 1) scKinds.nd rfl (Or.inl rfl) (pe_op op_cat (pv 1) (pe_lst (pa_cons (pe_callB call_isX (by rfl) T.isinstance boot_isi (pa_cons (pv 0) (pa_cons (pe_glob (v := .ref (C 12)) rfl Z.g_BadPlaces rfl) pa_nil))) (pa_cons (pe_callB call_isX (by rfl) T.isinstance boot_isi (pa_cons (pv 0) (pa_cons (pe_glob (v := .ref (C 13)) rfl Z.g_BadUse rfl) pa_nil))) (pa_cons (pe_callB call_isX (by rfl) T.isinstance boot_isi (pa_cons (pv 0) (pa_cons (pe_glob (v := .ref (C 14)) rfl Z.g_BadAnswer rfl) pa_nil))) pa_nil))))))
      (pss_cons (ps_set (i := 1) scKinds.nd rfl (Or.inl rfl) (pe_op op_cat (pv 1) (pe_lst (pa_cons (pe_callB call_isX (by rfl) T.isinstance boot_isi (pa_cons (pv 0) (pa_cons (pe_glob (v := .ref (C 15)) rfl Z.g_BadChoice rfl) pa_nil))) (pa_cons (pe_callB call_isX (by rfl) T.isinstance boot_isi (pa_cons (pv 0) (pa_cons (pe_glob (v := .ref (C 16)) rfl Z.g_HasAnswer rfl) pa_nil))) (pa_cons (pe_callB call_isX (by rfl) T.isinstance boot_isi (pa_cons (pv 0) (pa_cons (pe_glob (v := .ref (C 17)) rfl Z.g_NoFold rfl) pa_nil))) pa_nil))))))
      (pss_cons (ps_set (i := 1) scKinds.nd rfl (Or.inl rfl) (pe_op op_cat (pv 1) (pe_lst (pa_cons (pe_callB call_isX (by rfl) T.isinstance boot_isi (pa_cons (pv 0) (pa_cons (pe_glob (v := .ref (C 18)) rfl Z.g_NoMeet rfl) pa_nil))) (pa_cons (pe_callB call_isX (by rfl) T.isinstance boot_isi (pa_cons (pv 0) (pa_cons (pe_glob (v := .ref (C 19)) rfl Z.g_BadNear rfl) pa_nil))) (pa_cons (pe_callB call_isX (by rfl) T.isinstance boot_isi (pa_cons (pv 0) (pa_cons (pe_glob (v := .ref (C 20)) rfl Z.g_NoMark rfl) pa_nil))) pa_nil))))))
      (pss_one (ps_ret (pe_op op_cat (pv 1) (pe_lst (pa_cons (pe_callB call_isX (by rfl) T.isinstance boot_isi (pa_cons (pv 0) (pa_cons (pe_glob (v := .ref (C 21)) rfl Z.g_BadText rfl) pa_nil))) pa_nil))))))))))))), ?_⟩
    -- chunk 0
    refine ⟨_, rfl, a, _, _, _, _, rfl, IsExc.on hx (Same.refl H), ek, relC, Z.kit 0 j (by decide) hj, _, rfl, a, _, _, _, _, rfl, IsExc.on hx (Same.refl H), ek, relC, Z.kit 1 j (by decide) hj, _, rfl, a, _, _, _, _, rfl, IsExc.on hx (Same.refl H), ek, relC, Z.kit 2 j (by decide) hj, small (Nat.le_of_ble_eq_true rfl), fun l0 n0 => ?_⟩
    have s1 := Same.new (o := .lst [V.bl (decide (0 = j)), V.bl (decide (1 = j)), V.bl (decide (2 = j))]) (Same.refl H) n0
    -- chunk 1
    refine ⟨_, rfl, _, rfl, a, _, _, _, _, rfl, IsExc.on hx s1, ek, relC, Z.kit 3 j (by decide) hj, _, rfl, a, _, _, _, _, rfl, IsExc.on hx s1, ek, relC, Z.kit 4 j (by decide) hj, _, rfl, a, _, _, _, _, rfl, IsExc.on hx s1, ek, relC, Z.kit 5 j (by decide) hj, small (Nat.le_of_ble_eq_true rfl), fun m1 x1 => ?_⟩
    refine ⟨_, _, _, _, rfl, rfl, (by rw [upd_ne (ne_of_none (upd_same) x1)]; exact upd_same), upd_same, small (Nat.le_of_ble_eq_true rfl), fun l1 n1 => ?_⟩
    have s2 := Same.new (o := .lst ([V.bl (decide (0 = j)), V.bl (decide (1 = j)), V.bl (decide (2 = j))] ++ [V.bl (decide (3 = j)), V.bl (decide (4 = j)), V.bl (decide (5 = j))])) (Same.new (o := .lst [V.bl (decide (3 = j)), V.bl (decide (4 = j)), V.bl (decide (5 = j))]) s1 x1) n1
    -- chunk 2
    refine ⟨_, rfl, _, rfl, a, _, _, _, _, rfl, IsExc.on hx s2, ek, relC, Z.kit 6 j (by decide) hj, _, rfl, a, _, _, _, _, rfl, IsExc.on hx s2, ek, relC, Z.kit 7 j (by decide) hj, _, rfl, a, _, _, _, _, rfl, IsExc.on hx s2, ek, relC, Z.kit 8 j (by decide) hj, small (Nat.le_of_ble_eq_true rfl), fun m2 x2 => ?_⟩
    refine ⟨_, _, _, _, rfl, rfl, (by rw [upd_ne (ne_of_none (upd_same) x2)]; exact upd_same), upd_same, small (Nat.le_of_ble_eq_true rfl), fun l2 n2 => ?_⟩
    have s3 := Same.new (o := .lst (([V.bl (decide (0 = j)), V.bl (decide (1 = j)), V.bl (decide (2 = j))] ++ [V.bl (decide (3 = j)), V.bl (decide (4 = j)), V.bl (decide (5 = j))]) ++ [V.bl (decide (6 = j)), V.bl (decide (7 = j)), V.bl (decide (8 = j))])) (Same.new (o := .lst [V.bl (decide (6 = j)), V.bl (decide (7 = j)), V.bl (decide (8 = j))]) s2 x2) n2
    -- chunk 3
    refine ⟨_, rfl, _, rfl, a, _, _, _, _, rfl, IsExc.on hx s3, ek, relC, Z.kit 9 j (by decide) hj, _, rfl, a, _, _, _, _, rfl, IsExc.on hx s3, ek, relC, Z.kit 10 j (by decide) hj, small (Nat.le_of_ble_eq_true rfl), fun m3 x3 => ?_⟩
    refine ⟨_, _, _, _, rfl, rfl, (by rw [upd_ne (ne_of_none (upd_same) x3)]; exact upd_same), upd_same, small (Nat.le_of_ble_eq_true rfl), fun l3 n3 => ?_⟩
    have s4 := Same.new (o := .lst ((([V.bl (decide (0 = j)), V.bl (decide (1 = j)), V.bl (decide (2 = j))] ++ [V.bl (decide (3 = j)), V.bl (decide (4 = j)), V.bl (decide (5 = j))]) ++ [V.bl (decide (6 = j)), V.bl (decide (7 = j)), V.bl (decide (8 = j))]) ++ [V.bl (decide (9 = j)), V.bl (decide (10 = j))])) (Same.new (o := .lst [V.bl (decide (9 = j)), V.bl (decide (10 = j))]) s3 x3) n3
    -- chunk 4
    refine ⟨_, rfl, _, rfl, a, _, _, _, _, rfl, IsExc.on hx s4, ek, relC, Z.kit 11 j (by decide) hj, small (Nat.le_of_ble_eq_true rfl), fun m4 x4 => ?_⟩
    refine ⟨_, _, _, _, rfl, rfl, (by rw [upd_ne (ne_of_none (upd_same) x4)]; exact upd_same), upd_same, small (Nat.le_of_ble_eq_true rfl), fun l4 n4 => ?_⟩
    have s5 := Same.new (o := .lst (((([V.bl (decide (0 = j)), V.bl (decide (1 = j)), V.bl (decide (2 = j))] ++ [V.bl (decide (3 = j)), V.bl (decide (4 = j)), V.bl (decide (5 = j))]) ++ [V.bl (decide (6 = j)), V.bl (decide (7 = j)), V.bl (decide (8 = j))]) ++ [V.bl (decide (9 = j)), V.bl (decide (10 = j))]) ++ [V.bl (decide (11 = j))])) (Same.new (o := .lst [V.bl (decide (11 = j))]) s4 x4) n4
    -- chunk 5
    refine ⟨_, rfl, _, rfl, a, _, _, _, _, rfl, IsExc.on hx s5, ek, relC, Z.kit 12 j (by decide) hj, _, rfl, a, _, _, _, _, rfl, IsExc.on hx s5, ek, relC, Z.kit 13 j (by decide) hj, _, rfl, a, _, _, _, _, rfl, IsExc.on hx s5, ek, relC, Z.kit 14 j (by decide) hj, small (Nat.le_of_ble_eq_true rfl), fun m5 x5 => ?_⟩
    refine ⟨_, _, _, _, rfl, rfl, (by rw [upd_ne (ne_of_none (upd_same) x5)]; exact upd_same), upd_same, small (Nat.le_of_ble_eq_true rfl), fun l5 n5 => ?_⟩
    have s6 := Same.new (o := .lst ((((([V.bl (decide (0 = j)), V.bl (decide (1 = j)), V.bl (decide (2 = j))] ++ [V.bl (decide (3 = j)), V.bl (decide (4 = j)), V.bl (decide (5 = j))]) ++ [V.bl (decide (6 = j)), V.bl (decide (7 = j)), V.bl (decide (8 = j))]) ++ [V.bl (decide (9 = j)), V.bl (decide (10 = j))]) ++ [V.bl (decide (11 = j))]) ++ [V.bl (decide (12 = j)), V.bl (decide (13 = j)), V.bl (decide (14 = j))])) (Same.new (o := .lst [V.bl (decide (12 = j)), V.bl (decide (13 = j)), V.bl (decide (14 = j))]) s5 x5) n5
    -- chunk 6
    refine ⟨_, rfl, _, rfl, a, _, _, _, _, rfl, IsExc.on hx s6, ek, relC, Z.kit 15 j (by decide) hj, _, rfl, a, _, _, _, _, rfl, IsExc.on hx s6, ek, relC, Z.kit 16 j (by decide) hj, _, rfl, a, _, _, _, _, rfl, IsExc.on hx s6, ek, relC, Z.kit 17 j (by decide) hj, small (Nat.le_of_ble_eq_true rfl), fun m6 x6 => ?_⟩
    refine ⟨_, _, _, _, rfl, rfl, (by rw [upd_ne (ne_of_none (upd_same) x6)]; exact upd_same), upd_same, small (Nat.le_of_ble_eq_true rfl), fun l6 n6 => ?_⟩
    have s7 := Same.new (o := .lst (((((([V.bl (decide (0 = j)), V.bl (decide (1 = j)), V.bl (decide (2 = j))] ++ [V.bl (decide (3 = j)), V.bl (decide (4 = j)), V.bl (decide (5 = j))]) ++ [V.bl (decide (6 = j)), V.bl (decide (7 = j)), V.bl (decide (8 = j))]) ++ [V.bl (decide (9 = j)), V.bl (decide (10 = j))]) ++ [V.bl (decide (11 = j))]) ++ [V.bl (decide (12 = j)), V.bl (decide (13 = j)), V.bl (decide (14 = j))]) ++ [V.bl (decide (15 = j)), V.bl (decide (16 = j)), V.bl (decide (17 = j))])) (Same.new (o := .lst [V.bl (decide (15 = j)), V.bl (decide (16 = j)), V.bl (decide (17 = j))]) s6 x6) n6
    -- chunk 7
    refine ⟨_, rfl, _, rfl, a, _, _, _, _, rfl, IsExc.on hx s7, ek, relC, Z.kit 18 j (by decide) hj, _, rfl, a, _, _, _, _, rfl, IsExc.on hx s7, ek, relC, Z.kit 19 j (by decide) hj, _, rfl, a, _, _, _, _, rfl, IsExc.on hx s7, ek, relC, Z.kit 20 j (by decide) hj, small (Nat.le_of_ble_eq_true rfl), fun m7 x7 => ?_⟩
    refine ⟨_, _, _, _, rfl, rfl, (by rw [upd_ne (ne_of_none (upd_same) x7)]; exact upd_same), upd_same, small (Nat.le_of_ble_eq_true rfl), fun l7 n7 => ?_⟩
    have s8 := Same.new (o := .lst ((((((([V.bl (decide (0 = j)), V.bl (decide (1 = j)), V.bl (decide (2 = j))] ++ [V.bl (decide (3 = j)), V.bl (decide (4 = j)), V.bl (decide (5 = j))]) ++ [V.bl (decide (6 = j)), V.bl (decide (7 = j)), V.bl (decide (8 = j))]) ++ [V.bl (decide (9 = j)), V.bl (decide (10 = j))]) ++ [V.bl (decide (11 = j))]) ++ [V.bl (decide (12 = j)), V.bl (decide (13 = j)), V.bl (decide (14 = j))]) ++ [V.bl (decide (15 = j)), V.bl (decide (16 = j)), V.bl (decide (17 = j))]) ++ [V.bl (decide (18 = j)), V.bl (decide (19 = j)), V.bl (decide (20 = j))])) (Same.new (o := .lst [V.bl (decide (18 = j)), V.bl (decide (19 = j)), V.bl (decide (20 = j))]) s7 x7) n7
    -- chunk 8
    refine ⟨_, rfl, _, rfl, a, _, _, _, _, rfl, IsExc.on hx s8, ek, relC, Z.kit 21 j (by decide) hj, small (Nat.le_of_ble_eq_true rfl), fun m8 x8 => ?_⟩
    refine ⟨_, _, _, _, rfl, rfl, (by rw [upd_ne (ne_of_none (upd_same) x8)]; exact upd_same), upd_same, small (Nat.le_of_ble_eq_true rfl), fun l8 n8 => ?_⟩
    exact q _ l8 (Same.new (Same.new s8 x8) n8) ((Same.new (o := .lst [V.bl (decide (21 = j))]) s8 x8).free n8) upd_same
end
end Law
set_option Elab.async false
set_option linter.all false
set_option maxRecDepth 100000
set_option maxHeartbeats 8000000
namespace Law
open PySem PySem.Spec PyProof.Rows L2 PySem.NearX
/-- the pieces of the f-string that __init__'s super() takes, and where it stands -/
def jsOf (s : Stmt) : List Expr × Pos := match defBody s with
  | .Expr (.Call _ [.JoinedStr parts jp] _ _) _ :: _ => (parts, jp)
  | _ => ([], ⟨0, 0, 0, 0⟩)
/-- the errors with a field: their classes at C i, their __init__ at I i -/
structure Nears (P : Program) (K : PySem.W.Frag) (mg : Str → Option Value) (C I : Nat → Addr) : Prop where
  t_BadRow : NearTxt P K mg "BadRow" "number" (C 3) (I 3) (jsOf (inClass (top 5) 0)).1 (jsOf (inClass (top 5) 0)).2
  t_BadCell : NearTxt P K mg "BadCell" "number" (C 4) (I 4) (jsOf (inClass (top 6) 0)).1 (jsOf (inClass (top 6) 0)).2
  t_BadTable : NearTxt P K mg "BadTable" "number" (C 10) (I 10) (jsOf (inClass (top 12) 0)).1 (jsOf (inClass (top 12) 0)).2
  t_NoNumber : NearTxt P K mg "NoNumber" "number" (C 11) (I 11) (jsOf (inClass (top 13) 0)).1 (jsOf (inClass (top 13) 0)).2
  t_BadUse : NearTxt P K mg "BadUse" "number" (C 13) (I 13) (jsOf (inClass (top 15) 0)).1 (jsOf (inClass (top 15) 0)).2
  t_HasAnswer : NearTxt P K mg "HasAnswer" "answer" (C 16) (I 16) (jsOf (inClass (top 18) 0)).1 (jsOf (inClass (top 18) 0)).2
  t_NoFold : NearTxt P K mg "NoFold" "number" (C 17) (I 17) (jsOf (inClass (top 19) 0)).1 (jsOf (inClass (top 19) 0)).2
  t_NoMark : NearTxt P K mg "NoMark" "number" (C 20) (I 20) (jsOf (inClass (top 22) 0)).1 (jsOf (inClass (top 22) 0)).2
  t_BadText : NearTxt P K mg "BadText" "line" (C 21) (I 21) (jsOf (inClass (top 23) 0)).1 (jsOf (inClass (top 23) 0)).2
theorem parts_BadRow : PartsOk "number" (jsOf (inClass (top 5) 0)).1 := ⟨.inr ⟨_, _, _, _, _, _, (by decide +kernel), (by decide +kernel), rfl⟩⟩
theorem parts_BadCell : PartsOk "number" (jsOf (inClass (top 6) 0)).1 := ⟨.inr ⟨_, _, _, _, _, _, (by decide +kernel), (by decide +kernel), rfl⟩⟩
theorem parts_BadTable : PartsOk "number" (jsOf (inClass (top 12) 0)).1 := ⟨.inr ⟨_, _, _, _, _, _, (by decide +kernel), (by decide +kernel), rfl⟩⟩
theorem parts_NoNumber : PartsOk "number" (jsOf (inClass (top 13) 0)).1 := ⟨.inl ⟨_, _, _, _, (by decide +kernel), rfl⟩⟩
theorem parts_BadUse : PartsOk "number" (jsOf (inClass (top 15) 0)).1 := ⟨.inr ⟨_, _, _, _, _, _, (by decide +kernel), (by decide +kernel), rfl⟩⟩
theorem parts_HasAnswer : PartsOk "answer" (jsOf (inClass (top 18) 0)).1 := ⟨.inl ⟨_, _, _, _, (by decide +kernel), rfl⟩⟩
theorem parts_NoFold : PartsOk "number" (jsOf (inClass (top 19) 0)).1 := ⟨.inl ⟨_, _, _, _, (by decide +kernel), rfl⟩⟩
theorem parts_NoMark : PartsOk "number" (jsOf (inClass (top 22) 0)).1 := ⟨.inr ⟨_, _, _, _, _, _, (by decide +kernel), (by decide +kernel), rfl⟩⟩
theorem parts_BadText : PartsOk "line" (jsOf (inClass (top 23) 0)).1 := ⟨.inr ⟨_, _, _, _, _, _, (by decide +kernel), (by decide +kernel), rfl⟩⟩
def spFields (K : PySem.W.Frag) : Sp := fun vs H Q _ => ∃ v : V, vs = [v] ∧ FVd K v H ∧ ∀ H', Same H H' → Q (.bl true) H'
section
variable {P : Program} {w : World} {K : PySem.W.Frag} {mg : Str → Option Value} {base : Heap} {C I : Nat → Addr} {CN : Addr}
theorem Same.dup {H H' : Hp} (_ : Same H H') : Same H' H' := Same.refl H'
theorem scFields : FnScope ["odd", "shown", "found"] ["odd"] (defScope sFields) := ⟨rfl, rfl, rfl, by decide +kernel, rfl, by decide +kernel, by decide +kernel⟩
theorem ok_fields {f : Addr} {fd : FuncData} (F : Fun K "_law_fields_right" "_law_fields_right" sFields f fd) (T : Blt mg) (N : Nears P K mg C I) : FnG P w K mg base CX0 3 f fd ["odd"] (spFields K) := by
  refine F.okG scFields (fun vs H Q E h => ?_) (fun cdv A outer s H vs Q E hg hr h => ?_)
  · obtain ⟨v, rfl, _⟩ := h
    rfl
  · obtain ⟨v, rfl, fv, q⟩ := h
    obtain ⟨d, hd, hs, hn, hz, hdp, hx⟩ := id fv
    have hu := hr.un
    have tx : Texts (cxOf CX0 P w K mg base ["odd", "shown", "found"] "_law_fields_right" (defScope sFields) f cdv A outer s H E).nox (FVd K) := texts_d hg (by show (A.deeper _).units + 100 < cLine; omega)
    have hr1 : Room 1 (A.deeper (envOfC "_law_fields_right" (defScope sFields) s.heap.objs.size f cdv)) := hr.mono (by decide)
    have rp : CallR (cxOf CX0 P w K mg base ["odd", "shown", "found"] "_law_fields_right" (defScope sFields) f cdv A outer s H E).nox (.builtin "repr") (rRepr K) := call_reprD hg (by show (A.deeper _).units + 64 < cLine; omega)
    refine ⟨_, (pss_cons (ps_set (i := 1) scFields.nd rfl (Or.inl rfl) (pe_callB rp (by rfl) T.repr boot_rep (pa_cons (pv 0) pa_nil)))
      (pss_cons (ps_set (i := 2) scFields.nd rfl (Or.inl rfl) (pe_lst (pa_cons (pe_nearF (fldC_of N.t_BadRow) (pe_near N.t_BadRow parts_BadRow tx hr1 (pa_cons (pv 0) pa_nil)))
        (pa_cons (pe_nearF (fldC_of N.t_BadRow) (pe_nearKw N.t_BadRow parts_BadRow tx hr1 (pv 0)))
        (pa_cons (pe_nearF (fldC_of N.t_BadCell) (pe_near N.t_BadCell parts_BadCell tx hr1 (pa_cons (pv 0) pa_nil)))
        (pa_cons (pe_nearF (fldC_of N.t_BadCell) (pe_nearKw N.t_BadCell parts_BadCell tx hr1 (pv 0)))
        pa_nil))))))
      (pss_cons (ps_set (i := 2) scFields.nd rfl (Or.inl rfl) (pe_op op_cat (pv 2) (pe_lst (pa_cons (pe_nearF (fldC_of N.t_BadTable) (pe_near N.t_BadTable parts_BadTable tx hr1 (pa_cons (pv 0) pa_nil)))
        (pa_cons (pe_nearF (fldC_of N.t_BadTable) (pe_nearKw N.t_BadTable parts_BadTable tx hr1 (pv 0)))
        (pa_cons (pe_nearF (fldC_of N.t_NoNumber) (pe_near N.t_NoNumber parts_NoNumber tx hr1 (pa_cons (pv 0) pa_nil)))
        pa_nil))))))
      (pss_cons (ps_set (i := 2) scFields.nd rfl (Or.inl rfl) (pe_op op_cat (pv 2) (pe_lst (pa_cons (pe_nearF (fldC_of N.t_NoNumber) (pe_nearKw N.t_NoNumber parts_NoNumber tx hr1 (pv 0)))
        (pa_cons (pe_nearF (fldC_of N.t_BadUse) (pe_near N.t_BadUse parts_BadUse tx hr1 (pa_cons (pv 0) pa_nil)))
        (pa_cons (pe_nearF (fldC_of N.t_BadUse) (pe_nearKw N.t_BadUse parts_BadUse tx hr1 (pv 0)))
        pa_nil))))))
      (pss_cons (ps_set (i := 2) scFields.nd rfl (Or.inl rfl) (pe_op op_cat (pv 2) (pe_lst (pa_cons (pe_nearF (fldC_of N.t_HasAnswer) (pe_near N.t_HasAnswer parts_HasAnswer tx hr1 (pa_cons (pv 0) pa_nil)))
        (pa_cons (pe_nearF (fldC_of N.t_HasAnswer) (pe_nearKw N.t_HasAnswer parts_HasAnswer tx hr1 (pv 0)))
        (pa_cons (pe_nearF (fldC_of N.t_NoFold) (pe_near N.t_NoFold parts_NoFold tx hr1 (pa_cons (pv 0) pa_nil)))
        pa_nil))))))
      (pss_cons (ps_set (i := 2) scFields.nd rfl (Or.inl rfl) (pe_op op_cat (pv 2) (pe_lst (pa_cons (pe_nearF (fldC_of N.t_NoFold) (pe_nearKw N.t_NoFold parts_NoFold tx hr1 (pv 0)))
        (pa_cons (pe_nearF (fldC_of N.t_NoMark) (pe_near N.t_NoMark parts_NoMark tx hr1 (pa_cons (pv 0) pa_nil)))
        (pa_cons (pe_nearF (fldC_of N.t_NoMark) (pe_nearKw N.t_NoMark parts_NoMark tx hr1 (pv 0)))
        pa_nil))))))
      (pss_cons (ps_if (pt_cmpR op_ne (pe_callB rp (by rfl) T.repr boot_rep (pa_cons (pe_op op_cat (pv 2) (pe_lst (pa_cons (pe_nearF (fldC_of N.t_BadText) (pe_near N.t_BadText parts_BadText tx hr1 (pa_cons (pv 0) pa_nil)))
        (pa_cons (pe_nearF (fldC_of N.t_BadText) (pe_nearKw N.t_BadText parts_BadText tx hr1 (pv 0)))
        pa_nil)))) pa_nil)) (pe_callB rp (by rfl) T.repr boot_rep (pa_cons (pe_op op_rep (pe_lst (pa_cons (pv 0) pa_nil)) pe_int) pa_nil)) (nomark _)) (pss_one (ps_ret pe_bl)) pss_nil)
      (pss_one (ps_ret (pe_cmpR op_eq (pe_callB rp (by rfl) T.repr boot_rep (pa_cons (pv 0) pa_nil)) (pv 1) (nomark _))))))))))), ?_⟩
    have dz : d.shown.length ≤ sizeLine := line_big (by omega)
    -- shown = repr(odd)
    refine ⟨v, rfl, v, d, rfl, hd, hs, hn, dz, by omega, ?_⟩
    have s0 : Same H H := Same.refl H
    -- chunk 0
    refine ⟨v, rfl, v, rfl, fv.on s0, fun e0 d0 a0 b0 c0 => ⟨e0, d0, _, _, rfl, upd_same, (upd_ne c0).trans upd_same, lk1, ?_⟩⟩
    have s1 := Same.new (o := exo e0 (C 3) (some d0)) (Same.new (o := .xd [(("number" : Str), v)]) s0 b0) ((upd_ne c0.symm).trans a0)
    refine ⟨v, rfl, v, rfl, fv.on s1, fun e1 d1 a1 b1 c1 => ⟨e1, d1, _, _, rfl, upd_same, (upd_ne c1).trans upd_same, lk1, ?_⟩⟩
    have s2 := Same.new (o := exo e1 (C 3) (some d1)) (Same.new (o := .xd [(("number" : Str), v)]) s1 b1) ((upd_ne c1.symm).trans a1)
    refine ⟨v, rfl, v, rfl, fv.on s2, fun e2 d2 a2 b2 c2 => ⟨e2, d2, _, _, rfl, upd_same, (upd_ne c2).trans upd_same, lk1, ?_⟩⟩
    have s3 := Same.new (o := exo e2 (C 4) (some d2)) (Same.new (o := .xd [(("number" : Str), v)]) s2 b2) ((upd_ne c2.symm).trans a2)
    refine ⟨v, rfl, v, rfl, fv.on s3, fun e3 d3 a3 b3 c3 => ⟨e3, d3, _, _, rfl, upd_same, (upd_ne c3).trans upd_same, lk1, ?_⟩⟩
    have s4 := Same.new (o := exo e3 (C 4) (some d3)) (Same.new (o := .xd [(("number" : Str), v)]) s3 b3) ((upd_ne c3.symm).trans a3)
    refine ⟨small (Nat.le_of_ble_eq_true rfl), fun l0 n0 => ?_⟩
    have s5 := Same.new (o := .lst [v, v, v, v]) s4 n0
    have r5 := Same.dup s5
    -- chunk 1
    refine ⟨_, rfl, v, rfl, v, rfl, fv.on s5, fun e5 d5 a5 b5 c5 => ⟨e5, d5, _, _, rfl, upd_same, (upd_ne c5).trans upd_same, lk1, ?_⟩⟩
    have s6 := Same.new (o := exo e5 (C 10) (some d5)) (Same.new (o := .xd [(("number" : Str), v)]) s5 b5) ((upd_ne c5.symm).trans a5)
    have r6 := Same.new (o := exo e5 (C 10) (some d5)) (Same.new (o := .xd [(("number" : Str), v)]) r5 b5) ((upd_ne c5.symm).trans a5)
    refine ⟨v, rfl, v, rfl, fv.on s6, fun e6 d6 a6 b6 c6 => ⟨e6, d6, _, _, rfl, upd_same, (upd_ne c6).trans upd_same, lk1, ?_⟩⟩
    have s7 := Same.new (o := exo e6 (C 10) (some d6)) (Same.new (o := .xd [(("number" : Str), v)]) s6 b6) ((upd_ne c6.symm).trans a6)
    have r7 := Same.new (o := exo e6 (C 10) (some d6)) (Same.new (o := .xd [(("number" : Str), v)]) r6 b6) ((upd_ne c6.symm).trans a6)
    refine ⟨v, rfl, v, rfl, fv.on s7, fun e7 d7 a7 b7 c7 => ⟨e7, d7, _, _, rfl, upd_same, (upd_ne c7).trans upd_same, lk1, ?_⟩⟩
    have s8 := Same.new (o := exo e7 (C 11) (some d7)) (Same.new (o := .xd [(("number" : Str), v)]) s7 b7) ((upd_ne c7.symm).trans a7)
    have r8 := Same.new (o := exo e7 (C 11) (some d7)) (Same.new (o := .xd [(("number" : Str), v)]) r7 b7) ((upd_ne c7.symm).trans a7)
    refine ⟨small (Nat.le_of_ble_eq_true rfl), fun m1 x1 => ?_⟩
    have s9 := Same.new (o := .lst [v, v, v]) s8 x1
    have r9 := Same.new (o := .lst [v, v, v]) r8 x1
    refine ⟨l0, m1, [v, v, v, v], [v, v, v], rfl, rfl, r9 _ _ upd_same, upd_same, small (Nat.le_of_ble_eq_true rfl), fun l1 n1 => ?_⟩
    have s10 := Same.new (o := .lst ([v, v, v, v] ++ [v, v, v])) s9 n1
    have r10 := Same.dup s10
    -- chunk 2
    refine ⟨_, rfl, v, rfl, v, rfl, fv.on s10, fun e10 d10 a10 b10 c10 => ⟨e10, d10, _, _, rfl, upd_same, (upd_ne c10).trans upd_same, lk1, ?_⟩⟩
    have s11 := Same.new (o := exo e10 (C 11) (some d10)) (Same.new (o := .xd [(("number" : Str), v)]) s10 b10) ((upd_ne c10.symm).trans a10)
    have r11 := Same.new (o := exo e10 (C 11) (some d10)) (Same.new (o := .xd [(("number" : Str), v)]) r10 b10) ((upd_ne c10.symm).trans a10)
    refine ⟨v, rfl, v, rfl, fv.on s11, fun e11 d11 a11 b11 c11 => ⟨e11, d11, _, _, rfl, upd_same, (upd_ne c11).trans upd_same, lk1, ?_⟩⟩
    have s12 := Same.new (o := exo e11 (C 13) (some d11)) (Same.new (o := .xd [(("number" : Str), v)]) s11 b11) ((upd_ne c11.symm).trans a11)
    have r12 := Same.new (o := exo e11 (C 13) (some d11)) (Same.new (o := .xd [(("number" : Str), v)]) r11 b11) ((upd_ne c11.symm).trans a11)
    refine ⟨v, rfl, v, rfl, fv.on s12, fun e12 d12 a12 b12 c12 => ⟨e12, d12, _, _, rfl, upd_same, (upd_ne c12).trans upd_same, lk1, ?_⟩⟩
    have s13 := Same.new (o := exo e12 (C 13) (some d12)) (Same.new (o := .xd [(("number" : Str), v)]) s12 b12) ((upd_ne c12.symm).trans a12)
    have r13 := Same.new (o := exo e12 (C 13) (some d12)) (Same.new (o := .xd [(("number" : Str), v)]) r12 b12) ((upd_ne c12.symm).trans a12)
    refine ⟨small (Nat.le_of_ble_eq_true rfl), fun m2 x2 => ?_⟩
    have s14 := Same.new (o := .lst [v, v, v]) s13 x2
    have r14 := Same.new (o := .lst [v, v, v]) r13 x2
    refine ⟨l1, m2, ([v, v, v, v] ++ [v, v, v]), [v, v, v], rfl, rfl, r14 _ _ upd_same, upd_same, small (Nat.le_of_ble_eq_true rfl), fun l2 n2 => ?_⟩
    have s15 := Same.new (o := .lst (([v, v, v, v] ++ [v, v, v]) ++ [v, v, v])) s14 n2
    have r15 := Same.dup s15
    -- chunk 3
    refine ⟨_, rfl, v, rfl, v, rfl, fv.on s15, fun e15 d15 a15 b15 c15 => ⟨e15, d15, _, _, rfl, upd_same, (upd_ne c15).trans upd_same, lk1, ?_⟩⟩
    have s16 := Same.new (o := exo e15 (C 16) (some d15)) (Same.new (o := .xd [(("answer" : Str), v)]) s15 b15) ((upd_ne c15.symm).trans a15)
    have r16 := Same.new (o := exo e15 (C 16) (some d15)) (Same.new (o := .xd [(("answer" : Str), v)]) r15 b15) ((upd_ne c15.symm).trans a15)
    refine ⟨v, rfl, v, rfl, fv.on s16, fun e16 d16 a16 b16 c16 => ⟨e16, d16, _, _, rfl, upd_same, (upd_ne c16).trans upd_same, lk1, ?_⟩⟩
    have s17 := Same.new (o := exo e16 (C 16) (some d16)) (Same.new (o := .xd [(("answer" : Str), v)]) s16 b16) ((upd_ne c16.symm).trans a16)
    have r17 := Same.new (o := exo e16 (C 16) (some d16)) (Same.new (o := .xd [(("answer" : Str), v)]) r16 b16) ((upd_ne c16.symm).trans a16)
    refine ⟨v, rfl, v, rfl, fv.on s17, fun e17 d17 a17 b17 c17 => ⟨e17, d17, _, _, rfl, upd_same, (upd_ne c17).trans upd_same, lk1, ?_⟩⟩
    have s18 := Same.new (o := exo e17 (C 17) (some d17)) (Same.new (o := .xd [(("number" : Str), v)]) s17 b17) ((upd_ne c17.symm).trans a17)
    have r18 := Same.new (o := exo e17 (C 17) (some d17)) (Same.new (o := .xd [(("number" : Str), v)]) r17 b17) ((upd_ne c17.symm).trans a17)
    refine ⟨small (Nat.le_of_ble_eq_true rfl), fun m3 x3 => ?_⟩
    have s19 := Same.new (o := .lst [v, v, v]) s18 x3
    have r19 := Same.new (o := .lst [v, v, v]) r18 x3
    refine ⟨l2, m3, (([v, v, v, v] ++ [v, v, v]) ++ [v, v, v]), [v, v, v], rfl, rfl, r19 _ _ upd_same, upd_same, small (Nat.le_of_ble_eq_true rfl), fun l3 n3 => ?_⟩
    have s20 := Same.new (o := .lst ((([v, v, v, v] ++ [v, v, v]) ++ [v, v, v]) ++ [v, v, v])) s19 n3
    have r20 := Same.dup s20
    -- chunk 4
    refine ⟨_, rfl, v, rfl, v, rfl, fv.on s20, fun e20 d20 a20 b20 c20 => ⟨e20, d20, _, _, rfl, upd_same, (upd_ne c20).trans upd_same, lk1, ?_⟩⟩
    have s21 := Same.new (o := exo e20 (C 17) (some d20)) (Same.new (o := .xd [(("number" : Str), v)]) s20 b20) ((upd_ne c20.symm).trans a20)
    have r21 := Same.new (o := exo e20 (C 17) (some d20)) (Same.new (o := .xd [(("number" : Str), v)]) r20 b20) ((upd_ne c20.symm).trans a20)
    refine ⟨v, rfl, v, rfl, fv.on s21, fun e21 d21 a21 b21 c21 => ⟨e21, d21, _, _, rfl, upd_same, (upd_ne c21).trans upd_same, lk1, ?_⟩⟩
    have s22 := Same.new (o := exo e21 (C 20) (some d21)) (Same.new (o := .xd [(("number" : Str), v)]) s21 b21) ((upd_ne c21.symm).trans a21)
    have r22 := Same.new (o := exo e21 (C 20) (some d21)) (Same.new (o := .xd [(("number" : Str), v)]) r21 b21) ((upd_ne c21.symm).trans a21)
    refine ⟨v, rfl, v, rfl, fv.on s22, fun e22 d22 a22 b22 c22 => ⟨e22, d22, _, _, rfl, upd_same, (upd_ne c22).trans upd_same, lk1, ?_⟩⟩
    have s23 := Same.new (o := exo e22 (C 20) (some d22)) (Same.new (o := .xd [(("number" : Str), v)]) s22 b22) ((upd_ne c22.symm).trans a22)
    have r23 := Same.new (o := exo e22 (C 20) (some d22)) (Same.new (o := .xd [(("number" : Str), v)]) r22 b22) ((upd_ne c22.symm).trans a22)
    refine ⟨small (Nat.le_of_ble_eq_true rfl), fun m4 x4 => ?_⟩
    have s24 := Same.new (o := .lst [v, v, v]) s23 x4
    have r24 := Same.new (o := .lst [v, v, v]) r23 x4
    refine ⟨l3, m4, ((([v, v, v, v] ++ [v, v, v]) ++ [v, v, v]) ++ [v, v, v]), [v, v, v], rfl, rfl, r24 _ _ upd_same, upd_same, small (Nat.le_of_ble_eq_true rfl), fun l4 n4 => ?_⟩
    have s25 := Same.new (o := .lst (((([v, v, v, v] ++ [v, v, v]) ++ [v, v, v]) ++ [v, v, v]) ++ [v, v, v])) s24 n4
    have r25 := Same.dup s25
    -- chunk 5
    refine ⟨_, rfl, v, rfl, v, rfl, fv.on s25, fun e25 d25 a25 b25 c25 => ⟨e25, d25, _, _, rfl, upd_same, (upd_ne c25).trans upd_same, lk1, ?_⟩⟩
    have s26 := Same.new (o := exo e25 (C 21) (some d25)) (Same.new (o := .xd [(("line" : Str), v)]) s25 b25) ((upd_ne c25.symm).trans a25)
    have r26 := Same.new (o := exo e25 (C 21) (some d25)) (Same.new (o := .xd [(("line" : Str), v)]) r25 b25) ((upd_ne c25.symm).trans a25)
    refine ⟨v, rfl, v, rfl, fv.on s26, fun e26 d26 a26 b26 c26 => ⟨e26, d26, _, _, rfl, upd_same, (upd_ne c26).trans upd_same, lk1, ?_⟩⟩
    have s27 := Same.new (o := exo e26 (C 21) (some d26)) (Same.new (o := .xd [(("line" : Str), v)]) s26 b26) ((upd_ne c26.symm).trans a26)
    have r27 := Same.new (o := exo e26 (C 21) (some d26)) (Same.new (o := .xd [(("line" : Str), v)]) r26 b26) ((upd_ne c26.symm).trans a26)
    refine ⟨small (Nat.le_of_ble_eq_true rfl), fun m5 x5 => ?_⟩
    have s28 := Same.new (o := .lst [v, v]) s27 x5
    have r28 := Same.new (o := .lst [v, v]) r27 x5
    refine ⟨l4, m5, (((([v, v, v, v] ++ [v, v, v]) ++ [v, v, v]) ++ [v, v, v]) ++ [v, v, v]), [v, v], rfl, rfl, r28 _ _ upd_same, upd_same, small (Nat.le_of_ble_eq_true rfl), fun l5 n5 => ?_⟩
    have s29 := Same.new (o := .lst ((((([v, v, v, v] ++ [v, v, v]) ++ [v, v, v]) ++ [v, v, v]) ++ [v, v, v]) ++ [v, v])) s28 n5
    have r29 := Same.dup s29
    obtain ⟨y1, y2, y3, y4⟩ := list_rep_ok (d := d) (n := 18) (by decide) hs hn hz hdp
    refine ⟨.ref l5, .list (List.replicate 18 d), rfl, .lst (SqL.of upd_same) (DpAll.rep (hd.on s29) 18), y1, y2, y3, y4, ?_⟩
    refine ⟨_, rfl, small (Nat.le_of_ble_eq_true rfl), fun m n => ⟨m, 18, [v], rfl, rfl, upd_same, by decide, by decide, small (Nat.le_of_ble_eq_true rfl), fun p np => ?_⟩⟩
    have sa := Same.new (o := .lst [v]) s29 n
    have sb := Same.new (o := .lst (List.replicate (18 : Int).toNat [v]).flatten) sa np
    refine ⟨.ref p, .list (List.replicate 18 d), rfl, .lst (SqL.of upd_same) (DpAll.rep (hd.on sb) 18), y1, y2, y3, y4, ?_⟩
    refine ⟨rfl, _, rfl, iteNS rfl ?_⟩
    refine ⟨v, rfl, v, d, rfl, hd.on sb, hs, hn, dz, by omega, _, rfl, rfl, ?_⟩
    show Q (V.bl (decide (V.str d.shown = V.str d.shown))) _
    rw [decide_eq_true rfl]
    exact q _ sb
end
end Law
set_option Elab.async false
set_option linter.all false
set_option maxRecDepth 100000
set_option maxHeartbeats 1000000
namespace Law
open PySem PySem.Spec PyProof.Rows L2 PySem.NearX
/-- the classes without a field: made with nothing -/
structure Plains (K : PySem.W.Frag) (C : Nat → Addr) : Prop where
  x_NoList : PySem.W.excIn K (C 0) [.type "ValueError", .type "Exception", .type "BaseException", .type "object"] "ValueError.__new__" = true
  k_NoList : PySem.W.keepIn K (.ref (C 0)) = true
  x_BadWidth : PySem.W.excIn K (C 1) [.type "ValueError", .type "Exception", .type "BaseException", .type "object"] "ValueError.__new__" = true
  k_BadWidth : PySem.W.keepIn K (.ref (C 1)) = true
  x_BadArity : PySem.W.excIn K (C 2) [.type "ValueError", .type "Exception", .type "BaseException", .type "object"] "ValueError.__new__" = true
  k_BadArity : PySem.W.keepIn K (.ref (C 2)) = true
  x_BadLength : PySem.W.excIn K (C 5) [.type "ValueError", .type "Exception", .type "BaseException", .type "object"] "ValueError.__new__" = true
  k_BadLength : PySem.W.keepIn K (.ref (C 5)) = true
  x_BadSpots : PySem.W.excIn K (C 6) [.type "ValueError", .type "Exception", .type "BaseException", .type "object"] "ValueError.__new__" = true
  k_BadSpots : PySem.W.keepIn K (.ref (C 6)) = true
  x_BadOrder : PySem.W.excIn K (C 7) [.type "ValueError", .type "Exception", .type "BaseException", .type "object"] "ValueError.__new__" = true
  k_BadOrder : PySem.W.keepIn K (.ref (C 7)) = true
  x_Unlike : PySem.W.excIn K (C 8) [.type "ValueError", .type "Exception", .type "BaseException", .type "object"] "ValueError.__new__" = true
  k_Unlike : PySem.W.keepIn K (.ref (C 8)) = true
  x_BadArguments : PySem.W.excIn K (C 9) [.type "ValueError", .type "Exception", .type "BaseException", .type "object"] "ValueError.__new__" = true
  k_BadArguments : PySem.W.keepIn K (.ref (C 9)) = true
  x_BadPlaces : PySem.W.excIn K (C 12) [.type "ValueError", .type "Exception", .type "BaseException", .type "object"] "ValueError.__new__" = true
  k_BadPlaces : PySem.W.keepIn K (.ref (C 12)) = true
  x_BadAnswer : PySem.W.excIn K (C 14) [.type "ValueError", .type "Exception", .type "BaseException", .type "object"] "ValueError.__new__" = true
  k_BadAnswer : PySem.W.keepIn K (.ref (C 14)) = true
  x_BadChoice : PySem.W.excIn K (C 15) [.type "ValueError", .type "Exception", .type "BaseException", .type "object"] "ValueError.__new__" = true
  k_BadChoice : PySem.W.keepIn K (.ref (C 15)) = true
  x_NoMeet : PySem.W.excIn K (C 18) [.type "ValueError", .type "Exception", .type "BaseException", .type "object"] "ValueError.__new__" = true
  k_NoMeet : PySem.W.keepIn K (.ref (C 18)) = true
  x_BadNear : PySem.W.excIn K (C 19) [.type "ValueError", .type "Exception", .type "BaseException", .type "object"] "ValueError.__new__" = true
  k_BadNear : PySem.W.keepIn K (.ref (C 19)) = true
/-- the first errors made, in their order -/
def AllE (C : Nat → Addr) (H : Hp) (n : Nat) (vs : List V) : Prop := vs.length = n ∧ ∀ (j : Nat) v, vs[j]? = some v → ∃ a, v = .ref a ∧ IsExc H a (.ref (C j))
theorem AllE.nil {C : Nat → Addr} {H : Hp} : AllE C H 0 [] := ⟨rfl, fun j v h => by simp at h⟩
theorem AllE.on {C : Nat → Addr} {H H' : Hp} {n : Nat} {vs : List V} (h : AllE C H n vs) (s : Same H H') : AllE C H' n vs := ⟨h.1, fun j v e => by
  obtain ⟨a, ev, x⟩ := h.2 j v e
  exact ⟨a, ev, IsExc.on x s⟩⟩
theorem AllE.snoc {C : Nat → Addr} {H H' : Hp} {n : Nat} {vs : List V} {a : Addr} (h : AllE C H n vs) (s : Same H H') (x : IsExc H' a (.ref (C n))) : AllE C H' (n + 1) (vs ++ [.ref a]) := by
  refine ⟨by rw [List.length_append, h.1]; rfl, fun j v e => ?_⟩
  have hn := h.1
  by_cases hj : j < vs.length
  · rw [List.getElem?_append_left hj] at e
    exact (h.on s).2 j v e
  · rw [List.getElem?_append_right (by omega)] at e
    have e0 : j - vs.length = 0 := by
      cases q : j - vs.length with
      | zero => rfl
      | succ m => rw [q] at e; simp at e
    rw [e0] at e
    have ev : V.ref a = v := by simpa using e
    have ej : j = n := by omega
    subst ej
    exact ⟨a, ev.symm, x⟩
theorem fv_int {K : PySem.W.Frag} {H : Hp} {i : Int} (h1 : (PyData.int i).showable = true) (h2 : (PyData.int i).shown.length ≤ 4000) : FVd K (.int i) H := ⟨.int i, .int i, h1, rfl, h2, by simp only [PyData.depth]; omega, fun x e => by cases e⟩
theorem fv_unit {K : PySem.W.Frag} {H : Hp} {p : Addr} (h : H p = some (.tup [])) : FVd K (.ref p) H := ⟨.tuple [], .tup (.inl (.inl h)) .nil, by decide +kernel, by decide +kernel, by decide +kernel, by decide +kernel, fun x e => by cases e⟩
theorem ifNot {c : Bool} {A B : Prop} (h : c = true) (b : B) : if (!c) = true then A else B := by
  subst h
  exact iteF b
theorem Same.mut {H H' : Hp} {p : Addr} {o : HO} (s : Same H H') (h : H p = none) : Same H (upd H' p o) := fun b u e => by
  rw [upd_ne (ne_of_none e h)]
  exact s b u e
theorem dp_bools {K : PySem.W.Frag} {H : Hp} (f : Nat → Bool) : ∀ l : List Nat, DpAll K H (l.map fun r => V.bl (f r)) (l.map fun r => PyData.bool (f r))
  | [] => .nil
  | r :: l => .cons (.bl _) (dp_bools f l)
theorem lay_bools (f : Nat → Bool) : ∀ l : List Nat, PyData.canLayAll0 (l.map fun r => PyData.bool (f r)) = true ∧ PyData.depthAll (l.map fun r => PyData.bool (f r)) ≤ 1
  | [] => ⟨rfl, by simp only [List.map_nil, PyData.depthAll]; exact Nat.zero_le _⟩
  | r :: l => by
    obtain ⟨h1, h2⟩ := lay_bools f l
    refine ⟨by simp only [List.map_cons, PyData.canLayAll0, PyData.canLay0, h1, Bool.and_self], ?_⟩
    simp only [List.map_cons, PyData.depthAll, PyData.depth]
    omega
theorem shaped_bools (f : Nat → Bool) (l : List Nat) : SeqAt.shaped (.list (l.map fun r => PyData.bool (f r))) = true := by
  obtain ⟨h1, h2⟩ := lay_bools f l
  unfold SeqAt.shaped
  rw [Bool.and_eq_true]
  refine ⟨by simpa only [PyData.canLay0] using h1, decide_eq_true ?_⟩
  simp only [PyData.depth]
  omega
theorem FeedAt.on {H H' : Hp} {p : Addr} (h : FeedAt H p) (s : Same H H') : FeedAt H' p := by
  obtain ⟨d, z, e, r⟩ := h
  exact ⟨d, z, s _ _ e, r⟩
theorem FeedAt.ne {H : Hp} {p b : Addr} (h : FeedAt H p) (n : H b = none) : b ≠ p := fun z => by
  obtain ⟨d, y, e, r⟩ := h
  rw [z, e] at n
  cases n
theorem dec_nat {m i : Nat} : decide (V.int (0 + (m : Int)) = V.int (i : Int)) = decide (m = i) := by
  rw [Int.zero_add]
  by_cases h : m = i
  · rw [h, decide_eq_true rfl, decide_eq_true rfl]
  · have h2 : ¬ (V.int (m : Int) = V.int (i : Int)) := fun z => h (by have e := V.int.inj z; omega)
    rw [decide_eq_false h, decide_eq_false h2]
theorem hundred : ∀ n : Fin 100, (PyData.int (n : Nat)).showable = true ∧ (PyData.int (n : Nat)).shown.length ≤ 4000 := by decide +kernel
theorem fv_small {K : PySem.W.Frag} {H : Hp} {r : Int} (h0 : 0 ≤ r) (h1 : r < 100) : FVd K (.int r) H := by
  obtain ⟨n, rfl⟩ : ∃ n : Nat, r = (n : Int) := ⟨r.toNat, by omega⟩
  have h := hundred ⟨n, by omega⟩
  exact fv_int h.1 h.2
/-- the ten values that are drawn from -/
theorem ten_ok {K : PySem.W.Frag} {H : Hp} {t1 l2 t2 t3 l3 : Addr} {r : Int} (q1 : H t1 = some (.tup [])) (q2 : H l2 = some (.lst [.int 2])) (q3 : H t2 = some (.tup [.int 1, .ref l2])) (q4 : H t3 = some (.tup [.int 4])) (q5 : H l3 = some (.lst [.int 3, .ref t3]))
    (r0 : 0 ≤ r) (r1 : r < 100) : ∀ (i : Nat) (x : V), ([.non, .int 0, .int (-5), .bl true, .str "text", .ref t1, .ref t2, .ref l3, .int (10 ^ (39 : Int).toNat), .int r] : List V)[i]? = some x → FVd K x H := by
  intro i x h
  match i, h with
  | 0, h => cases h; exact ⟨.none, .non, by decide +kernel, by decide +kernel, by decide +kernel, by decide +kernel, fun x e => by cases e⟩
  | 1, h => cases h; exact fv_int (by decide +kernel) (by decide +kernel)
  | 2, h => cases h; exact fv_int (by decide +kernel) (by decide +kernel)
  | 3, h => cases h; exact ⟨.bool true, .bl true, by decide +kernel, by decide +kernel, by decide +kernel, by decide +kernel, fun x e => by cases e⟩
  | 4, h => cases h; exact ⟨.str "text", .str _, by decide +kernel, by decide +kernel, by decide +kernel, by decide +kernel, fun x e => by cases e; decide +kernel⟩
  | 5, h => cases h; exact fv_unit q1
  | 6, h =>
    cases h
    exact ⟨.tuple [.int 1, .list [.int 2]], .tup (.inl (.inl q3)) (.cons (.int 1) (.cons (.lst (SqL.of q2) (.cons (.int 2) .nil)) .nil)), by decide +kernel, by decide +kernel, by decide +kernel, by decide +kernel, fun x e => by cases e⟩
  | 7, h =>
    cases h
    exact ⟨.list [.int 3, .tuple [.int 4]], .lst (SqL.of q5) (.cons (.int 3) (.cons (.tup (.inl (.inl q4)) (.cons (.int 4) .nil)) .nil)), by decide +kernel, by decide +kernel, by decide +kernel, by decide +kernel, fun x e => by cases e⟩
  | 8, h => cases h; exact fv_int (by decide +kernel) (by decide +kernel)
  | 9, h => cases h; exact fv_small r0 r1
  | n + 10, h => simp at h
def spLaw (K : PySem.W.Frag) : Sp := fun vs H Q _ => ∃ (a : Addr) (ns : List Int), vs = [.ref a] ∧ SqL K H a (ns.map V.int) ∧ ns.length ≤ 63 ∧ ∀ H', Q (.bl true) H'
abbrev NL : List Str := ["script", "made", "nth", "thing", "nr", "k", "feed", "some"]
section
variable {P : Program} {w : World} {K : PySem.W.Frag} {mg : Str → Option Value} {base : Heap} {C I : Nat → Addr} {CN : Addr}
theorem scLaw : FnScope NL ["script"] (defScope sLaw) := ⟨rfl, rfl, rfl, by decide +kernel, rfl, by decide +kernel, by decide +kernel⟩
/-- the numbers of a def that the law calls -/
structure Cal (K : PySem.W.Frag) (mg : Str → Option Value) (x : Str) (ps : List Str) (f : Addr) (fd : FuncData) : Prop where
  g : mg x = some (.ref f)
  k : PySem.W.keepIn K (.ref f) = true
  b : Binds K fd ps []
theorem ok_law {f fF fT fP fK fR : Addr} {fd dF dT dP dK dR : FuncData} (F : Fun K "law" "law" sLaw f fd) (T : Blt mg) (Z : Kin K mg C CN) (N : Nears P K mg C I) (Y : Plains K C)
    (GF : FnOk P w K mg base CX0 1 fF dF ["script", "k"] (spFeed K)) (cF : Cal K mg "_law_feed" ["script", "k"] fF dF) (GT : FnOk P w K mg base CX0 1 fT dT ["feed", "many"] spTake) (cT : Cal K mg "_law_take" ["feed", "many"] fT dT)
    (GP : FnOk P w K mg base CX0 2 fP dP ["feed", "some"] (spPick K)) (cP : Cal K mg "_law_pick" ["feed", "some"] fP dP) (GK : FnOk P w K mg base CX0 1 fK dK ["thing"] (spKinds C)) (cK : Cal K mg "_law_kinds" ["thing"] fK dK)
    (GR : FnG P w K mg base CX0 3 fR dR ["odd"] (spFields K)) (cR : Cal K mg "_law_fields_right" ["odd"] fR dR) : FnG P w K mg base CX0 5 f fd ["script"] (spLaw K) := by
  refine F.okG scLaw (fun vs H Q E h => ?_) (fun cdv A outer s H vs Q E hg hr h => ?_)
  · obtain ⟨a, ns, rfl, _⟩ := h
    rfl
  · obtain ⟨a, ns, rfl, hS, h63, q⟩ := h
    have hu := hr.un
    have tx : Texts (cxOf CX0 P w K mg base NL "law" (defScope sLaw) f cdv A outer s H E).nox (FVd K) := texts_d hg (by show (A.deeper _).units + 100 < cLine; omega)
    have hr1 : Room 1 (A.deeper (envOfC "law" (defScope sLaw) s.heap.objs.size f cdv)) := hr.mono (by decide)
    have hr2 : Room 2 (A.deeper (envOfC "law" (defScope sLaw) s.heap.objs.size f cdv)) := hr.mono (by decide)
    have hr3 : Room 3 (A.deeper (envOfC "law" (defScope sLaw) s.heap.objs.size f cdv)) := hr.mono (by decide)
    have rest : ∃ t, PSs (cxOf CX0 P w K mg base NL "law" (defScope sLaw) f cdv A outer s H E).nox ((defBody sLaw).drop 5) t ∧ ∀ (H0 : Hp) (l : Addr) (es : List V), Same H H0 → AllE C H0 22 es → H0 l = some (.lst es) →
        t { nx := fun _ H' => Q .non H', rt := Q } [some (.ref a), some (.ref l), none, none, none, none, none, none] H0 := by
      refine ⟨_, (pss_cons (ps_for PassesOwn.never rfl (pi_enum (by rfl) T.enumerate (pa_cons (pv 1) pa_nil)) (pg_tup rfl (pgs_cons (pg_name (i := 2) scLaw.nd rfl (Or.inr rfl)) (pgs_cons (pg_name (i := 3) scLaw.nd rfl (Or.inl rfl)) pgs_nil)))
        (pss_cons (ps_if (pt_cmpR (op_neD (by show (A.deeper _).units + 64 < cLine; omega)) (pe_call GK hr1 rfl cK.g cK.k cK.b .nil pass0 (pa_cons (pv 3) pa_nil))
            (pe_lc (own := [("nr", 4)]) (g := gName 4) (tt := tYes) rfl scLaw.nd (pi_range1 rfl T.range (pa_cons pe_int pa_nil)) (blkOk_by (own := [("nr", 4)]) (N := NL) (sc := defScope sLaw) (by decide +kernel)) (fun _ _ _ _ _ => pg_name (i := 4) scLaw.nd rfl (Or.inl rfl)) (fun _ _ _ _ _ => pts_nil) (fun _ _ _ _ _ => pe_cmpR op_eq (pv 4) (pv 2) (nomark _))) (nomark _)) (pss_one (ps_ret pe_bl)) pss_nil)
        (pss_one (ps_if (PW.pt (pw_or (pt_not (pt_val (pe_callB call_isX (by rfl) T.isinstance boot_isi (pa_cons (pv 3) (pa_cons (pe_glob (v := .ref CN) rfl Z.gN rfl) pa_nil))))) (pw_or1 (pt_not (pt_val (pe_callB call_isX (by rfl) T.isinstance boot_isi (pa_cons (pv 3) (pa_cons (pe_bltn (v := .ty "ValueError") (by rfl) T.VE L2.boot_ValueError rfl) pa_nil)))))))) (pss_one (ps_ret pe_bl)) pss_nil))))
      (pss_cons (ps_for PassesOwn.never rfl (pi_range1 rfl T.range (pa_cons (pe_callB (call_max2 rfl) (by rfl) T.max (by decide +kernel) (pa_cons pe_int (pa_cons (pe_callB (call_min2 rfl) (by rfl) T.min (by decide +kernel) (pa_cons pe_int (pa_cons (pe_callB call_len_seq (by rfl) T.len PySem.boot_len (pa_cons (pv 0) pa_nil)) pa_nil))) pa_nil))) pa_nil)) (pg_name (i := 5) scLaw.nd rfl (Or.inl rfl))
        (pss_cons (ps_set (i := 6) scLaw.nd rfl (Or.inl rfl) (pe_call GF hr1 rfl cF.g cF.k cF.b .nil pass0 (pa_cons (pv 0) (pa_cons (pv 5) pa_nil))))
        (pss_cons (ps_set (i := 7) scLaw.nd rfl (Or.inl rfl) (pe_lst (pa_cons pe_non (pa_cons pe_int (pa_cons (pe_un un_neg pe_int) (pa_cons pe_bl (pa_cons pe_str (pa_cons (pe_tup pa_nil) (pa_cons (pe_tup (pa_cons pe_int (pa_cons (pe_lst (pa_cons pe_int pa_nil)) pa_nil)))
          (pa_cons (pe_lst (pa_cons pe_int (pa_cons (pe_tup (pa_cons pe_int pa_nil)) pa_nil))) (pa_cons (pe_op op_pow pe_int pe_int) (pa_cons (pe_call GT hr1 rfl cT.g cT.k cT.b .nil pass0 (pa_cons (pv 6) (pa_cons pe_int pa_nil))) pa_nil))))))))))))
        (pss_one (ps_if (pt_not (pt_val (pe_callG GR hg hr3 rfl cR.g cR.k cR.b .nil pass0 (pa_cons (pe_call GP hr2 rfl cP.g cP.k cP.b .nil pass0 (pa_cons (pv 6) (pa_cons (pv 7) pa_nil))) pa_nil)))) (pss_one (ps_ret pe_bl)) pss_nil)))))
      (pss_one (ps_ret (pe_not (pe_callB call_isX (by rfl) T.isinstance boot_isi (pa_cons (pe_ve0 T.VE) (pa_cons (pe_glob (v := .ref CN) rfl Z.gN rfl) pa_nil)))))))), fun H0 l es s0 wE hl => ?_⟩
      have hn := wE.1
      refine ⟨_, rfl, l, es, rfl, SqL.of hl, for_it (walk_enum (K := K) (a := l) (xs := es)) (fun i σ H' => ∃ n2 n3, σ = [some (.ref a), some (.ref l), n2, n3, none, none, none, none] ∧ Same H0 H') ⟨none, none, rfl, Same.refl _⟩ (fun i σ H' _ ⟨_, _, _, s1⟩ => (SqL.of hl).on s1) ?_ ?_⟩
      · rintro i x σ H1 H2 hi ⟨n2, n3, rfl, s1⟩ ⟨T0, x', y, rfl, hT, rfl, ex, ey⟩
        cases ex
        obtain ⟨b, rfl, ib⟩ := wE.2 i y ey
        rw [hn] at hi
        have s2 := Same.new (o := .tup [.int (i : Nat), .ref b]) s1 hT
        refine ⟨T0, _, rfl, .inl (.inl upd_same), rfl, _, _, rfl, _, _, rfl, rfl, ?_⟩
        -- _law_kinds(thing) != [..]
        refine ⟨_, rfl, b, i, rfl, hi, IsExc.on ib s2, fun H3 p s3 np hp => ?_⟩
        refine ⟨22, rfl, by decide, by decide, fun D nD => lc_range (lo := 0) (n := 22) (fun m H' => Same H3 H' ∧ H' D = some (.lst ((List.range m).map fun r => V.bl (decide (r = i))))) ⟨same_new nD, upd_same⟩ ?_ ?_⟩
        · rintro m H' hm ⟨s', hD⟩
          refine ⟨rfl, _, rfl, _, rfl, rfl, _, hD, small1000 (by rw [List.length_map, List.length_range]; omega), Law.Same.mut s' nD, ?_⟩
          rw [upd_same, List.range_succ, List.map_append, dec_nat]
          rfl
        · rintro H' ⟨s', hD⟩
          refine ⟨.list ((List.range 22).map fun r => PyData.bool (decide (r = i))), .list ((List.range 22).map fun r => PyData.bool (decide (r = i))), .lst (SqL.of (s' _ _ hp)) (dp_bools _ _), .lst (SqL.of hD) (dp_bools _ _), shaped_bools _ _, shaped_bools _ _, _, rfl, ?_⟩
          refine ifNot (SeqAt.eqv_refl _ (SeqAt.canLay_of_shaped (shaped_bools _ _))) ?_
          -- the two bases
          have s4 : Same H0 H' := (s2.trans s3).trans s'
          have ek : ExcK K (.ref (C i)) := Or.inl ⟨_, rfl, Z.ek i hi⟩
          refine ⟨_, rfl, b, _, .ref CN, _, true, rfl, IsExc.on ib s4, ek, relC, Z.kitN i hi, _, rfl, iteF ?_⟩
          refine ⟨_, rfl, b, _, .ty "ValueError", _, true, rfl, IsExc.on ib s4, ek, fun u h => h, Z.kitV i hi, _, rfl, iteF ?_⟩
          exact ⟨_, _, rfl, s4⟩
      · rintro σ H1 ⟨n2, n3, rfl, s1⟩
        have hS1 : SqL K H1 a (ns.map V.int) := hS.on (s0.trans s1)
        have hb : ∀ z : Int, 0 ≤ z → -(2 ^ 62) ≤ (if (if z < 2 then z else 2) > 1 then (if z < 2 then z else 2) else 1) ∧ (if (if z < 2 then z else 2) > 1 then (if z < 2 then z else 2) else 1) < 2 ^ 62 ∧ (if (if z < 2 then z else 2) > 1 then (if z < 2 then z else 2) else 1).toNat ≤ 2 := by
          intro z hz
          by_cases h1 : z < 2 <;> by_cases h2 : z > 1 <;> simp [h1, h2] <;> omega
        have hbb := hb ((ns.map V.int).length : Nat) (Int.natCast_nonneg _)
        refine ⟨_, rfl, a, _, rfl, .inl hS1, _, _, rfl, _, _, rfl, _, rfl, hbb.1, hbb.2.1, for_range (lo := 0) (fun i σ H' => ∃ n2 n3 n5 n6 n7, σ = [some (.ref a), some (.ref l), n2, n3, none, n5, n6, n7] ∧ Same H0 H') ⟨_, _, _, _, _, rfl, s1⟩ ?_ ?_⟩
        · rintro i σ H2 hi ⟨m2, m3, m5, m6, m7, rfl, s2⟩
          have hi2 : i < 2 := Nat.lt_of_lt_of_le hi hbb.2.2
          have hS2 : SqL K H2 a (ns.map V.int) := hS.on (s0.trans s2)
          refine ⟨_, rfl, _, rfl, a, ns, i, (by show [V.ref a, V.int (0 + (i : Int))] = [V.ref a, V.int (i : Int)]; rw [Int.zero_add]), hS2, h63, by omega, fun H3 p s3 np fp => ?_⟩
          refine ⟨_, rfl, small (Nat.le_of_ble_eq_true rfl), fun t1 y1 => ?_⟩
          have c1 := same_new (o := .tup []) y1
          refine ⟨small (Nat.le_of_ble_eq_true rfl), fun l2 y2 => ⟨small (Nat.le_of_ble_eq_true rfl), fun t2 y3 => ?_⟩⟩
          have c2 := same_new (o := .lst [V.int 2]) y2
          have c3 := same_new (o := .tup [V.int 1, V.ref l2]) y3
          refine ⟨small (Nat.le_of_ble_eq_true rfl), fun t3 y4 => ⟨small (Nat.le_of_ble_eq_true rfl), fun l3 y5 => ?_⟩⟩
          have c4 := same_new (o := .tup [V.int 4]) y4
          have c5 := same_new (o := .lst [V.int 3, V.ref t3]) y5
          have f1 := fp.on c1
          have f2 := f1.on c2
          have f3 := f2.on c3
          have f4 := f3.on c4
          have f5 := f4.on c5
          refine ⟨_, _, rfl, rfl, ⟨by decide, by decide, by decide⟩, _, rfl, p, 100, rfl, f5, by decide, by decide, fun H4 r b4 f6 r0 r1 => ?_⟩
          refine ⟨small (Nat.le_of_ble_eq_true rfl), fun lo y6 => ?_⟩
          have p1 : H4 t1 = some (.tup []) := b4 _ _ (fp.ne y1) (c5 _ _ (c4 _ _ (c3 _ _ (c2 _ _ upd_same))))
          have p2 : H4 l2 = some (.lst [.int 2]) := b4 _ _ (f1.ne y2) (c5 _ _ (c4 _ _ (c3 _ _ upd_same)))
          have p3 : H4 t2 = some (.tup [.int 1, .ref l2]) := b4 _ _ (f2.ne y3) (c5 _ _ (c4 _ _ upd_same))
          have p4 : H4 t3 = some (.tup [.int 4]) := b4 _ _ (f3.ne y4) (c5 _ _ upd_same)
          have p5 : H4 l3 = some (.lst [.int 3, .ref t3]) := b4 _ _ (f4.ne y5) upd_same
          have c6 := same_new (o := .lst [.non, .int 0, .int (-5), .bl true, .str "text", .ref t1, .ref t2, .ref l3, .int (10 ^ (39 : Int).toNat), .int r]) y6
          have s4 : Same H0 H4 := fun b o e => b4 b o (ne_of_none (s2 b o e) np) (c5 _ _ (c4 _ _ (c3 _ _ (c2 _ _ (c1 _ _ (s3 _ _ (s2 _ _ e)))))))
          refine ⟨_, rfl, _, rfl, p, lo, _, rfl, f6.on c6, SqL.of upd_same, (f6.ne y6).symm, (Nat.le_of_ble_eq_true rfl), (Nat.le_of_ble_eq_true rfl), fun H5 j x b5 f7 hx => ?_⟩
          have g1 := b5 _ _ (fp.ne y1) (c6 _ _ p1)
          have g2 := b5 _ _ (f1.ne y2) (c6 _ _ p2)
          have g3 := b5 _ _ (f2.ne y3) (c6 _ _ p3)
          have g4 := b5 _ _ (f3.ne y4) (c6 _ _ p4)
          have g5 := b5 _ _ (f4.ne y5) (c6 _ _ p5)
          refine ⟨x, rfl, ten_ok g1 g2 g3 g4 g5 r0 r1 j x hx, fun H6 s6 => ⟨_, rfl, iteF ?_⟩⟩
          exact ⟨_, _, _, _, _, rfl, fun b o e => s6 _ _ (b5 b o (ne_of_none (s2 b o e) np) (c6 _ _ (s4 b o e)))⟩
        · rintro σ H2 ⟨m2, m3, m5, m6, m7, rfl, s2⟩
          refine fun e ne => ⟨e, .type "ValueError", .ref CN, _, false, rfl, Or.inr upd_same, Or.inr rfl, relC, Z.kitVN, _, rfl, q _⟩
    obtain ⟨tr, hrest, qr⟩ := rest
    refine ⟨_, (pss_cons (ps_set (i := 1) scLaw.nd rfl (Or.inl rfl) (pe_lst (pa_cons (pe_exc0 Y.x_NoList Z.g_NoList Y.k_NoList)
        (pa_cons (pe_exc0 Y.x_BadWidth Z.g_BadWidth Y.k_BadWidth)
        (pa_cons (pe_exc0 Y.x_BadArity Z.g_BadArity Y.k_BadArity)
        (pa_cons (pe_near N.t_BadRow parts_BadRow tx hr1 (pa_cons pe_int pa_nil))
        (pa_cons (pe_near N.t_BadCell parts_BadCell tx hr1 (pa_cons pe_int pa_nil))
        pa_nil)))))))
      (pss_cons (ps_set (i := 1) scLaw.nd rfl (Or.inl rfl) (pe_op op_cat (pv 1) (pe_lst (pa_cons (pe_exc0 Y.x_BadLength Z.g_BadLength Y.k_BadLength)
        (pa_cons (pe_exc0 Y.x_BadSpots Z.g_BadSpots Y.k_BadSpots)
        (pa_cons (pe_exc0 Y.x_BadOrder Z.g_BadOrder Y.k_BadOrder)
        (pa_cons (pe_exc0 Y.x_Unlike Z.g_Unlike Y.k_Unlike)
        pa_nil)))))))
      (pss_cons (ps_set (i := 1) scLaw.nd rfl (Or.inl rfl) (pe_op op_cat (pv 1) (pe_lst (pa_cons (pe_exc0 Y.x_BadArguments Z.g_BadArguments Y.k_BadArguments)
        (pa_cons (pe_near N.t_BadTable parts_BadTable tx hr1 (pa_cons pe_int pa_nil))
        (pa_cons (pe_near N.t_NoNumber parts_NoNumber tx hr1 (pa_cons pe_int pa_nil))
        (pa_cons (pe_exc0 Y.x_BadPlaces Z.g_BadPlaces Y.k_BadPlaces)
        pa_nil)))))))
      (pss_cons (ps_set (i := 1) scLaw.nd rfl (Or.inl rfl) (pe_op op_cat (pv 1) (pe_lst (pa_cons (pe_near N.t_BadUse parts_BadUse tx hr1 (pa_cons pe_int pa_nil))
        (pa_cons (pe_exc0 Y.x_BadAnswer Z.g_BadAnswer Y.k_BadAnswer)
        (pa_cons (pe_exc0 Y.x_BadChoice Z.g_BadChoice Y.k_BadChoice)
        pa_nil))))))
      (pss_cons (ps_set (i := 1) scLaw.nd rfl (Or.inl rfl) (pe_op op_cat (pv 1) (pe_lst (pa_cons (pe_near N.t_HasAnswer parts_HasAnswer tx hr1 (pa_cons (pe_tup pa_nil) pa_nil))
        (pa_cons (pe_near N.t_NoFold parts_NoFold tx hr1 (pa_cons pe_int pa_nil))
        (pa_cons (pe_exc0 Y.x_NoMeet Z.g_NoMeet Y.k_NoMeet)
        (pa_cons (pe_exc0 Y.x_BadNear Z.g_BadNear Y.k_BadNear)
        (pa_cons (pe_near N.t_NoMark parts_NoMark tx hr1 (pa_cons pe_int pa_nil))
        (pa_cons (pe_near N.t_BadText parts_BadText tx hr1 (pa_cons pe_int pa_nil))
        pa_nil)))))))))
      hrest))))), ?_⟩
    have s0 : Same H H := Same.refl H
    have w0 : AllE C H 0 [] := AllE.nil
    -- made, part 0
    refine fun e0 a0 => ?_
    have s1 := Same.new (o := ExO (.ref (C 0)) e0) s0 a0
    have w1 := w0.snoc (a := e0) (n := 0) (Same.new (o := ExO (.ref (C 0)) e0) (Same.dup s0) a0) (Or.inr upd_same)
    refine fun e1 a1 => ?_
    have s2 := Same.new (o := ExO (.ref (C 1)) e1) s1 a1
    have w2 := w1.snoc (a := e1) (n := 1) (Same.new (o := ExO (.ref (C 1)) e1) (Same.dup s1) a1) (Or.inr upd_same)
    refine fun e2 a2 => ?_
    have s3 := Same.new (o := ExO (.ref (C 2)) e2) s2 a2
    have w3 := w2.snoc (a := e2) (n := 2) (Same.new (o := ExO (.ref (C 2)) e2) (Same.dup s2) a2) (Or.inr upd_same)
    refine ⟨_, rfl, fv_int (by decide +kernel) (by decide +kernel), fun e3 d3 a3 b3 c3 => ?_⟩
    have s4 := Same.new (o := exo e3 (C 3) (some d3)) (Same.new (o := .xd [(("number" : Str), V.int 0)]) s3 b3) ((upd_ne c3.symm).trans a3)
    have w4 := w3.snoc (a := e3) (n := 3) (Same.new (o := exo e3 (C 3) (some d3)) (Same.new (o := .xd [(("number" : Str), V.int 0)]) (Same.dup s3) b3) ((upd_ne c3.symm).trans a3)) (Or.inl ⟨_, d3, _, rfl, upd_same, (upd_ne c3).trans upd_same⟩)
    refine ⟨_, rfl, fv_int (by decide +kernel) (by decide +kernel), fun e4 d4 a4 b4 c4 => ?_⟩
    have s5 := Same.new (o := exo e4 (C 4) (some d4)) (Same.new (o := .xd [(("number" : Str), V.int 0)]) s4 b4) ((upd_ne c4.symm).trans a4)
    have w5 := w4.snoc (a := e4) (n := 4) (Same.new (o := exo e4 (C 4) (some d4)) (Same.new (o := .xd [(("number" : Str), V.int 0)]) (Same.dup s4) b4) ((upd_ne c4.symm).trans a4)) (Or.inl ⟨_, d4, _, rfl, upd_same, (upd_ne c4).trans upd_same⟩)
    refine ⟨small (Nat.le_of_ble_eq_true rfl), fun l0 n0 => ?_⟩
    have s6 := Same.new (o := .lst [V.ref e0, V.ref e1, V.ref e2, V.ref e3, V.ref e4]) s5 n0
    have w6 := w5.on (Same.new (o := .lst [V.ref e0, V.ref e1, V.ref e2, V.ref e3, V.ref e4]) (Same.dup s5) n0)
    have r6 := Same.dup s6
    -- made, part 1
    refine ⟨_, rfl, fun e6 a6 => ?_⟩
    have s7 := Same.new (o := ExO (.ref (C 5)) e6) s6 a6
    have r7 := Same.new (o := ExO (.ref (C 5)) e6) r6 a6
    have w7 := w6.snoc (a := e6) (n := 5) (Same.new (o := ExO (.ref (C 5)) e6) (Same.dup s6) a6) (Or.inr upd_same)
    refine fun e7 a7 => ?_
    have s8 := Same.new (o := ExO (.ref (C 6)) e7) s7 a7
    have r8 := Same.new (o := ExO (.ref (C 6)) e7) r7 a7
    have w8 := w7.snoc (a := e7) (n := 6) (Same.new (o := ExO (.ref (C 6)) e7) (Same.dup s7) a7) (Or.inr upd_same)
    refine fun e8 a8 => ?_
    have s9 := Same.new (o := ExO (.ref (C 7)) e8) s8 a8
    have r9 := Same.new (o := ExO (.ref (C 7)) e8) r8 a8
    have w9 := w8.snoc (a := e8) (n := 7) (Same.new (o := ExO (.ref (C 7)) e8) (Same.dup s8) a8) (Or.inr upd_same)
    refine fun e9 a9 => ?_
    have s10 := Same.new (o := ExO (.ref (C 8)) e9) s9 a9
    have r10 := Same.new (o := ExO (.ref (C 8)) e9) r9 a9
    have w10 := w9.snoc (a := e9) (n := 8) (Same.new (o := ExO (.ref (C 8)) e9) (Same.dup s9) a9) (Or.inr upd_same)
    refine ⟨small (Nat.le_of_ble_eq_true rfl), fun m1 x1 => ?_⟩
    have s11 := Same.new (o := .lst [V.ref e6, V.ref e7, V.ref e8, V.ref e9]) s10 x1
    have r11 := Same.new (o := .lst [V.ref e6, V.ref e7, V.ref e8, V.ref e9]) r10 x1
    have w11 := w10.on (Same.new (o := .lst [V.ref e6, V.ref e7, V.ref e8, V.ref e9]) (Same.dup s10) x1)
    refine ⟨l0, m1, [V.ref e0, V.ref e1, V.ref e2, V.ref e3, V.ref e4], [V.ref e6, V.ref e7, V.ref e8, V.ref e9], rfl, rfl, r11 _ _ upd_same, upd_same, small (Nat.le_of_ble_eq_true rfl), fun l1 n1 => ?_⟩
    have s12 := Same.new (o := .lst ([V.ref e0, V.ref e1, V.ref e2, V.ref e3, V.ref e4] ++ [V.ref e6, V.ref e7, V.ref e8, V.ref e9])) s11 n1
    have w12 := w11.on (Same.new (o := .lst ([V.ref e0, V.ref e1, V.ref e2, V.ref e3, V.ref e4] ++ [V.ref e6, V.ref e7, V.ref e8, V.ref e9])) (Same.dup s11) n1)
    have r12 := Same.dup s12
    -- made, part 2
    refine ⟨_, rfl, fun e12 a12 => ?_⟩
    have s13 := Same.new (o := ExO (.ref (C 9)) e12) s12 a12
    have r13 := Same.new (o := ExO (.ref (C 9)) e12) r12 a12
    have w13 := w12.snoc (a := e12) (n := 9) (Same.new (o := ExO (.ref (C 9)) e12) (Same.dup s12) a12) (Or.inr upd_same)
    refine ⟨_, rfl, fv_int (by decide +kernel) (by decide +kernel), fun e13 d13 a13 b13 c13 => ?_⟩
    have s14 := Same.new (o := exo e13 (C 10) (some d13)) (Same.new (o := .xd [(("number" : Str), V.int 0)]) s13 b13) ((upd_ne c13.symm).trans a13)
    have r14 := Same.new (o := exo e13 (C 10) (some d13)) (Same.new (o := .xd [(("number" : Str), V.int 0)]) r13 b13) ((upd_ne c13.symm).trans a13)
    have w14 := w13.snoc (a := e13) (n := 10) (Same.new (o := exo e13 (C 10) (some d13)) (Same.new (o := .xd [(("number" : Str), V.int 0)]) (Same.dup s13) b13) ((upd_ne c13.symm).trans a13)) (Or.inl ⟨_, d13, _, rfl, upd_same, (upd_ne c13).trans upd_same⟩)
    refine ⟨_, rfl, fv_int (by decide +kernel) (by decide +kernel), fun e14 d14 a14 b14 c14 => ?_⟩
    have s15 := Same.new (o := exo e14 (C 11) (some d14)) (Same.new (o := .xd [(("number" : Str), V.int 0)]) s14 b14) ((upd_ne c14.symm).trans a14)
    have r15 := Same.new (o := exo e14 (C 11) (some d14)) (Same.new (o := .xd [(("number" : Str), V.int 0)]) r14 b14) ((upd_ne c14.symm).trans a14)
    have w15 := w14.snoc (a := e14) (n := 11) (Same.new (o := exo e14 (C 11) (some d14)) (Same.new (o := .xd [(("number" : Str), V.int 0)]) (Same.dup s14) b14) ((upd_ne c14.symm).trans a14)) (Or.inl ⟨_, d14, _, rfl, upd_same, (upd_ne c14).trans upd_same⟩)
    refine fun e15 a15 => ?_
    have s16 := Same.new (o := ExO (.ref (C 12)) e15) s15 a15
    have r16 := Same.new (o := ExO (.ref (C 12)) e15) r15 a15
    have w16 := w15.snoc (a := e15) (n := 12) (Same.new (o := ExO (.ref (C 12)) e15) (Same.dup s15) a15) (Or.inr upd_same)
    refine ⟨small (Nat.le_of_ble_eq_true rfl), fun m2 x2 => ?_⟩
    have s17 := Same.new (o := .lst [V.ref e12, V.ref e13, V.ref e14, V.ref e15]) s16 x2
    have r17 := Same.new (o := .lst [V.ref e12, V.ref e13, V.ref e14, V.ref e15]) r16 x2
    have w17 := w16.on (Same.new (o := .lst [V.ref e12, V.ref e13, V.ref e14, V.ref e15]) (Same.dup s16) x2)
    refine ⟨l1, m2, ([V.ref e0, V.ref e1, V.ref e2, V.ref e3, V.ref e4] ++ [V.ref e6, V.ref e7, V.ref e8, V.ref e9]), [V.ref e12, V.ref e13, V.ref e14, V.ref e15], rfl, rfl, r17 _ _ upd_same, upd_same, small (Nat.le_of_ble_eq_true rfl), fun l2 n2 => ?_⟩
    have s18 := Same.new (o := .lst (([V.ref e0, V.ref e1, V.ref e2, V.ref e3, V.ref e4] ++ [V.ref e6, V.ref e7, V.ref e8, V.ref e9]) ++ [V.ref e12, V.ref e13, V.ref e14, V.ref e15])) s17 n2
    have w18 := w17.on (Same.new (o := .lst (([V.ref e0, V.ref e1, V.ref e2, V.ref e3, V.ref e4] ++ [V.ref e6, V.ref e7, V.ref e8, V.ref e9]) ++ [V.ref e12, V.ref e13, V.ref e14, V.ref e15])) (Same.dup s17) n2)
    have r18 := Same.dup s18
    -- made, part 3
    refine ⟨_, rfl, _, rfl, fv_int (by decide +kernel) (by decide +kernel), fun e18 d18 a18 b18 c18 => ?_⟩
    have s19 := Same.new (o := exo e18 (C 13) (some d18)) (Same.new (o := .xd [(("number" : Str), V.int 0)]) s18 b18) ((upd_ne c18.symm).trans a18)
    have r19 := Same.new (o := exo e18 (C 13) (some d18)) (Same.new (o := .xd [(("number" : Str), V.int 0)]) r18 b18) ((upd_ne c18.symm).trans a18)
    have w19 := w18.snoc (a := e18) (n := 13) (Same.new (o := exo e18 (C 13) (some d18)) (Same.new (o := .xd [(("number" : Str), V.int 0)]) (Same.dup s18) b18) ((upd_ne c18.symm).trans a18)) (Or.inl ⟨_, d18, _, rfl, upd_same, (upd_ne c18).trans upd_same⟩)
    refine fun e19 a19 => ?_
    have s20 := Same.new (o := ExO (.ref (C 14)) e19) s19 a19
    have r20 := Same.new (o := ExO (.ref (C 14)) e19) r19 a19
    have w20 := w19.snoc (a := e19) (n := 14) (Same.new (o := ExO (.ref (C 14)) e19) (Same.dup s19) a19) (Or.inr upd_same)
    refine fun e20 a20 => ?_
    have s21 := Same.new (o := ExO (.ref (C 15)) e20) s20 a20
    have r21 := Same.new (o := ExO (.ref (C 15)) e20) r20 a20
    have w21 := w20.snoc (a := e20) (n := 15) (Same.new (o := ExO (.ref (C 15)) e20) (Same.dup s20) a20) (Or.inr upd_same)
    refine ⟨small (Nat.le_of_ble_eq_true rfl), fun m3 x3 => ?_⟩
    have s22 := Same.new (o := .lst [V.ref e18, V.ref e19, V.ref e20]) s21 x3
    have r22 := Same.new (o := .lst [V.ref e18, V.ref e19, V.ref e20]) r21 x3
    have w22 := w21.on (Same.new (o := .lst [V.ref e18, V.ref e19, V.ref e20]) (Same.dup s21) x3)
    refine ⟨l2, m3, (([V.ref e0, V.ref e1, V.ref e2, V.ref e3, V.ref e4] ++ [V.ref e6, V.ref e7, V.ref e8, V.ref e9]) ++ [V.ref e12, V.ref e13, V.ref e14, V.ref e15]), [V.ref e18, V.ref e19, V.ref e20], rfl, rfl, r22 _ _ upd_same, upd_same, small (Nat.le_of_ble_eq_true rfl), fun l3 n3 => ?_⟩
    have s23 := Same.new (o := .lst ((([V.ref e0, V.ref e1, V.ref e2, V.ref e3, V.ref e4] ++ [V.ref e6, V.ref e7, V.ref e8, V.ref e9]) ++ [V.ref e12, V.ref e13, V.ref e14, V.ref e15]) ++ [V.ref e18, V.ref e19, V.ref e20])) s22 n3
    have w23 := w22.on (Same.new (o := .lst ((([V.ref e0, V.ref e1, V.ref e2, V.ref e3, V.ref e4] ++ [V.ref e6, V.ref e7, V.ref e8, V.ref e9]) ++ [V.ref e12, V.ref e13, V.ref e14, V.ref e15]) ++ [V.ref e18, V.ref e19, V.ref e20])) (Same.dup s22) n3)
    have r23 := Same.dup s23
    -- made, part 4
    refine ⟨_, rfl, small (Nat.le_of_ble_eq_true rfl), fun u23 v23 => ⟨_, rfl, fv_unit upd_same, fun e23 d23 a23 b23 c23 => ?_⟩⟩
    have z23 := Same.new (o := .tup []) s23 v23
    have y23 := Same.new (o := .tup []) r23 v23
    have x23 := w23.on (Same.new (o := .tup []) (Same.dup s23) v23)
    have s24 := Same.new (o := exo e23 (C 16) (some d23)) (Same.new (o := .xd [(("answer" : Str), V.ref u23)]) z23 b23) ((upd_ne c23.symm).trans a23)
    have r24 := Same.new (o := exo e23 (C 16) (some d23)) (Same.new (o := .xd [(("answer" : Str), V.ref u23)]) y23 b23) ((upd_ne c23.symm).trans a23)
    have w24 := x23.snoc (a := e23) (n := 16) (Same.new (o := exo e23 (C 16) (some d23)) (Same.new (o := .xd [(("answer" : Str), V.ref u23)]) (Same.dup z23) b23) ((upd_ne c23.symm).trans a23)) (Or.inl ⟨_, d23, _, rfl, upd_same, (upd_ne c23).trans upd_same⟩)
    refine ⟨_, rfl, fv_int (by decide +kernel) (by decide +kernel), fun e24 d24 a24 b24 c24 => ?_⟩
    have s25 := Same.new (o := exo e24 (C 17) (some d24)) (Same.new (o := .xd [(("number" : Str), V.int 0)]) s24 b24) ((upd_ne c24.symm).trans a24)
    have r25 := Same.new (o := exo e24 (C 17) (some d24)) (Same.new (o := .xd [(("number" : Str), V.int 0)]) r24 b24) ((upd_ne c24.symm).trans a24)
    have w25 := w24.snoc (a := e24) (n := 17) (Same.new (o := exo e24 (C 17) (some d24)) (Same.new (o := .xd [(("number" : Str), V.int 0)]) (Same.dup s24) b24) ((upd_ne c24.symm).trans a24)) (Or.inl ⟨_, d24, _, rfl, upd_same, (upd_ne c24).trans upd_same⟩)
    refine fun e25 a25 => ?_
    have s26 := Same.new (o := ExO (.ref (C 18)) e25) s25 a25
    have r26 := Same.new (o := ExO (.ref (C 18)) e25) r25 a25
    have w26 := w25.snoc (a := e25) (n := 18) (Same.new (o := ExO (.ref (C 18)) e25) (Same.dup s25) a25) (Or.inr upd_same)
    refine fun e26 a26 => ?_
    have s27 := Same.new (o := ExO (.ref (C 19)) e26) s26 a26
    have r27 := Same.new (o := ExO (.ref (C 19)) e26) r26 a26
    have w27 := w26.snoc (a := e26) (n := 19) (Same.new (o := ExO (.ref (C 19)) e26) (Same.dup s26) a26) (Or.inr upd_same)
    refine ⟨_, rfl, fv_int (by decide +kernel) (by decide +kernel), fun e27 d27 a27 b27 c27 => ?_⟩
    have s28 := Same.new (o := exo e27 (C 20) (some d27)) (Same.new (o := .xd [(("number" : Str), V.int 0)]) s27 b27) ((upd_ne c27.symm).trans a27)
    have r28 := Same.new (o := exo e27 (C 20) (some d27)) (Same.new (o := .xd [(("number" : Str), V.int 0)]) r27 b27) ((upd_ne c27.symm).trans a27)
    have w28 := w27.snoc (a := e27) (n := 20) (Same.new (o := exo e27 (C 20) (some d27)) (Same.new (o := .xd [(("number" : Str), V.int 0)]) (Same.dup s27) b27) ((upd_ne c27.symm).trans a27)) (Or.inl ⟨_, d27, _, rfl, upd_same, (upd_ne c27).trans upd_same⟩)
    refine ⟨_, rfl, fv_int (by decide +kernel) (by decide +kernel), fun e28 d28 a28 b28 c28 => ?_⟩
    have s29 := Same.new (o := exo e28 (C 21) (some d28)) (Same.new (o := .xd [(("line" : Str), V.int 1)]) s28 b28) ((upd_ne c28.symm).trans a28)
    have r29 := Same.new (o := exo e28 (C 21) (some d28)) (Same.new (o := .xd [(("line" : Str), V.int 1)]) r28 b28) ((upd_ne c28.symm).trans a28)
    have w29 := w28.snoc (a := e28) (n := 21) (Same.new (o := exo e28 (C 21) (some d28)) (Same.new (o := .xd [(("line" : Str), V.int 1)]) (Same.dup s28) b28) ((upd_ne c28.symm).trans a28)) (Or.inl ⟨_, d28, _, rfl, upd_same, (upd_ne c28).trans upd_same⟩)
    refine ⟨small (Nat.le_of_ble_eq_true rfl), fun m4 x4 => ?_⟩
    have s30 := Same.new (o := .lst [V.ref e23, V.ref e24, V.ref e25, V.ref e26, V.ref e27, V.ref e28]) s29 x4
    have r30 := Same.new (o := .lst [V.ref e23, V.ref e24, V.ref e25, V.ref e26, V.ref e27, V.ref e28]) r29 x4
    have w30 := w29.on (Same.new (o := .lst [V.ref e23, V.ref e24, V.ref e25, V.ref e26, V.ref e27, V.ref e28]) (Same.dup s29) x4)
    refine ⟨l3, m4, ((([V.ref e0, V.ref e1, V.ref e2, V.ref e3, V.ref e4] ++ [V.ref e6, V.ref e7, V.ref e8, V.ref e9]) ++ [V.ref e12, V.ref e13, V.ref e14, V.ref e15]) ++ [V.ref e18, V.ref e19, V.ref e20]), [V.ref e23, V.ref e24, V.ref e25, V.ref e26, V.ref e27, V.ref e28], rfl, rfl, r30 _ _ upd_same, upd_same, small (Nat.le_of_ble_eq_true rfl), fun l4 n4 => ?_⟩
    have s31 := Same.new (o := .lst (((([V.ref e0, V.ref e1, V.ref e2, V.ref e3, V.ref e4] ++ [V.ref e6, V.ref e7, V.ref e8, V.ref e9]) ++ [V.ref e12, V.ref e13, V.ref e14, V.ref e15]) ++ [V.ref e18, V.ref e19, V.ref e20]) ++ [V.ref e23, V.ref e24, V.ref e25, V.ref e26, V.ref e27, V.ref e28])) s30 n4
    have w31 := w30.on (Same.new (o := .lst (((([V.ref e0, V.ref e1, V.ref e2, V.ref e3, V.ref e4] ++ [V.ref e6, V.ref e7, V.ref e8, V.ref e9]) ++ [V.ref e12, V.ref e13, V.ref e14, V.ref e15]) ++ [V.ref e18, V.ref e19, V.ref e20]) ++ [V.ref e23, V.ref e24, V.ref e25, V.ref e26, V.ref e27, V.ref e28])) (Same.dup s30) n4)
    have r31 := Same.dup s31
    have eL : (((((((((((((((((((((([] ++ [V.ref e0]) ++ [V.ref e1]) ++ [V.ref e2]) ++ [V.ref e3]) ++ [V.ref e4]) ++ [V.ref e6]) ++ [V.ref e7]) ++ [V.ref e8]) ++ [V.ref e9]) ++ [V.ref e12]) ++ [V.ref e13]) ++ [V.ref e14]) ++ [V.ref e15]) ++ [V.ref e18]) ++ [V.ref e19]) ++ [V.ref e20]) ++ [V.ref e23]) ++ [V.ref e24]) ++ [V.ref e25]) ++ [V.ref e26]) ++ [V.ref e27]) ++ [V.ref e28]) = (((([V.ref e0, V.ref e1, V.ref e2, V.ref e3, V.ref e4] ++ [V.ref e6, V.ref e7, V.ref e8, V.ref e9]) ++ [V.ref e12, V.ref e13, V.ref e14, V.ref e15]) ++ [V.ref e18, V.ref e19, V.ref e20]) ++ [V.ref e23, V.ref e24, V.ref e25, V.ref e26, V.ref e27, V.ref e28]) := by simp only [List.nil_append, List.cons_append]
    rw [eL] at w31
    exact qr _ l4 _ s31 w31 upd_same
end
end Law
set_option Elab.async false
set_option linter.all false
set_option maxRecDepth 100000
set_option maxHeartbeats 4000000
/-! The end of a law whose promise is an FnG: the law is called where no repr is under way. -/
namespace L2
open PySem PySem.Spec PyProof.Rows
section
variable {P : Program} {w : World} {K : PySem.W.Frag} {mg mb : Str → Option Value} {CX : CXT} {k : Nat} {fa a : Addr} {fd : FuncData} {x : Str} {sp : Sp} {s₁ : Shared} {vs : List Value} {ns : List Int}
/-- what the caller of the law finds behind the call -/
def LawEnd (s₁ : Shared) : Result → Shared → Prop := fun r s' => r = .ok (.ret (.bool true)) ∧ OldK s₁.heap s'.heap ∧ s'.os = s₁.os ∧ AllBare s'.gens
/-- from a heap H in which at most the script is told, and that as a thing that is only read -/
theorem law_goG {H : Hp} (KX : K.In s₁.heap) (hns : s₁.heap.Ns mainGlobals mg) (hb : s₁.heap.Ns builtinsNs mb) (hbb : ∀ x : Str, x ≠ "__name__" → mb x = bootBuiltins x) (hlim : s₁.heap.NoLimit) (hg : s₁.gens = #[])
    (ho : ∀ b o, H b = some o → b = a ∧ K.lookup a = none ∧ ∃ ob xs, o = .frz ob (.lst xs)) (hl : ∀ es ep, ∀ o, s₁.heap.get? a = some o → o.data ≠ .dict es ep) (hok : HOk P w H s₁.heap) (hr : Room k callerA)
    (F : ∀ base : Heap, K.In base → base.Ns mainGlobals mg → FnG P w K mg base CX k fa fd [x] sp) (hbind : ∀ (s : Shared) (u : Value), BindsTo s fd ⟨[u], []⟩ [(x, u)])
    (hsp : sp [.ref a] H (fun v _ => v = .bl true) fun _ _ _ => False) (hCX : ∀ e s', CX [] H s₁ (fun _ _ _ => False) e s' → False) :
    codeAny (model P w) callerA (.call (.ref fa) ⟨[.ref a], []⟩) (LawEnd s₁) s₁ := by
  have free : ∀ {b : Addr} {o : Obj}, s₁.heap.get? b = some o → (b = a → False) → H b = none := fun {b o} _ hb => by
    cases q : H b with
    | none => rfl
    | some u => exact (hb (ho b u q).1).elim
  have hid : ∀ {b : Addr} {m : Str → Option Value}, s₁.heap.Ns b m → (hidT s₁.heap H).Ns b m := by
    rintro b m ⟨o, es, ep, e, d, r⟩
    exact ⟨o, es, ep, hidT_get e (free e fun z => hl es ep o (z ▸ e) d), d, r⟩
  have hK : K.In (hidT s₁.heap H) := fun b o e => by
    refine hidT_get (KX b o e) ?_
    cases q : H b with
    | none => rfl
    | some u =>
      obtain ⟨z, n, _⟩ := ho b u q
      rw [z, n] at e
      cases e
  have M : Mod K mg (hidT s₁.heap H) := ⟨hK, hid hns, ⟨mb, hid hb, hbb⟩, let ⟨mc, h1, h2⟩ := hlim; ⟨mc, hid h1, h2⟩⟩
  have e0 : Env0 P w K mg (hidT s₁.heap H) callerA [] s₁ H :=
    ⟨rfl, M, fun b o e => of_hidT e, Nat.le_of_eq (hidT_size _ _), trivial, (fun b z => absurd (show b ∈ ([] : List Addr) from z) (by simp)), hok, .of_eq hg⟩
  refine codeAny_mono ((F _ hK (hid hns)).go callerA rfl [] s₁ H ⟨[.ref a], []⟩ [.ref a] [.ref a] _ _ hr e0 (hbind s₁ (.ref a)) (.cons rfl .nil) hsp) fun r s' h => ?_
  match r, h with
  | .error e, h => exact (hCX e s' h).elim
  | .ok (.ret u), ⟨v, H', os, bare, un, hok', rv, q⟩ =>
    cases q
    cases rv
    refine ⟨rfl, .of_keep fun b o e => ?_, os, bare⟩
    cases q : H b with
    | none => exact un.keep b o e q (by intro z; exact absurd (show b ∈ ([] : List Addr) from z) (by simp)) (by simp)
    | some u =>
      obtain ⟨_, _, ob, xs, rfl⟩ := ho b u q
      obtain ⟨e1, _⟩ := hok b _ q
      obtain ⟨e2, _⟩ := hok' b _ (un.frzs b ob _ q)
      rw [e] at e1
      cases e1
      exact e2
end
theorem walk_ofG {l : PySem.W.OpenLaw} {n k : Nat} {q : Program} {loose : List Str} {XP : (Str → Option Value) → Heap → Prop} {YP : World → Heap → Prop} {d : DefRec} {K : Params → PySem.W.Frag} {sp : PySem.W.Frag → Sp} {x : Str}
    (hn : l.most = some n) (hn2 : n ≤ sizeLine) (hdf : d.params.defaults = []) (hr : Room k callerA) (hY : ∀ (w : World) (h : Heap), YP w h → (K w.params).In h)
    (F : ∀ (w : World) (mg : Str → Option Value) (fa : Addr) (h : Heap), (K w.params).In h → h.Ns mainGlobals mg → mg d.name = some (.ref fa) →
      ∃ fd : FuncData, (∀ (s : Shared) (u : Value), BindsTo s fd ⟨[u], []⟩ [(x, u)]) ∧ ∀ base : Heap, (K w.params).In base → base.Ns mainGlobals mg → FnG l.prog w (K w.params) mg base CX0 k fa fd [x] (sp (K w.params)))
    (hsp : ∀ (K : PySem.W.Frag) (H : Hp) (a : Addr) (ns : List Int), ns.length ≤ n → SqL K H a (ns.map V.int) → sp K [.ref a] H (fun v _ => v = .bl true) fun _ _ _ => False) :
    PySem.W.WalkO q loose XP YP l.row.toRowW d [] (fun f vs => PySem.call f vs) := by
  refine Att.attach_call hn hdf fun w s₀ s₁ mg mb fa o pm cd doc a vs ns G Y ho hd hcd hmg hobj hints hlen hg => ?_
  have KX := hY w _ Y
  obtain ⟨fd, hb, hF⟩ := F w mg fa _ KX G.T.g hmg
  have rv := vals_ints hints
  have lv : vs.length = ns.length := hints.length
  have hsz : ns.length ≤ sizeLine := Nat.le_trans hlen hn2
  have nod : ∀ es ep, ∀ o, s₁.heap.get? a = some o → o.data ≠ .dict es ep := by
    rintro es ep o e
    rw [hobj] at e
    cases e
    intro z
    cases z
  cases hk : (K w.params).lookup a with
  | some o =>
    have e : (some o : Option Obj) = _ := (KX a o hk).symm.trans hobj
    cases e
    exact law_goG (H := fun _ => none) KX G.T.g G.T.b G.T.builtins G.T.nolimit hg (fun b o z => by cases z) nod (fun b o z => by cases z) hr hF hb
      (hsp _ _ a ns hlen (.inr ⟨_, vs.toArray, _, hk, rfl, rfl, rfl, by rw [List.size_toArray, lv]; exact hsz, by simpa using rv⟩)) fun e s' z => z.elim
  | none =>
    refine law_goG (H := fun b => if b = a then some (.frz { cls := .type "list", data := .seq vs.toArray } (.lst (ns.map V.int))) else none) KX G.T.g G.T.b G.T.builtins G.T.nolimit hg (fun b o z => ?_) nod (fun b o z => ?_) hr hF hb
      (hsp _ _ a ns hlen (.inl (.inr ⟨_, if_pos rfl⟩))) fun e s' z => z.elim
    · by_cases h : b = a
      · have z' := (if_pos h).symm.trans z
        cases z'
        exact ⟨h, hk, _, _, rfl⟩
      · have z' := (if_neg h).symm.trans z
        cases z'
    · by_cases h : b = a
      · have z' := (if_pos h).symm.trans z
        cases z'
        subst h
        exact ⟨hobj, by rw [List.length_map]; exact hsz, vs, _, rv, hobj⟩
      · have z' := (if_neg h).symm.trans z
        cases z'
end L2
set_option Elab.async false
set_option linter.all false
set_option maxRecDepth 100000
set_option maxHeartbeats 8000000
namespace Law
open PySem PySem.Spec PyProof.Rows L2 PySem.NearX
/-- which of the classes an instance of the j-th is of: the j-th alone -/
def kitAll (K : PySem.W.Frag) (cs : List Addr) : Bool := (List.range cs.length).all fun i => (List.range cs.length).all fun j => PySem.W.kitOne K (.ref (cs.getD j 0)) (.ref (cs.getD i 0)) == some (decide (i = j))
theorem kit_all {K : PySem.W.Frag} {cs : List Addr} (h : kitAll K cs = true) {i j : Nat} (hi : i < cs.length) (hj : j < cs.length) : PySem.W.kitOne K (.ref (cs.getD j 0)) (.ref (cs.getD i 0)) = some (decide (i = j)) := by
  unfold kitAll at h
  rw [List.all_eq_true] at h
  have h1 := h i (List.mem_range.mpr hi)
  rw [List.all_eq_true] at h1
  exact eq_of_beq (h1 j (List.mem_range.mpr hj))
def kitTo (K : PySem.W.Frag) (cs : List Addr) (v : Value) : Bool := (List.range cs.length).all fun j => PySem.W.kitOne K (.ref (cs.getD j 0)) v == some true
theorem kit_to {K : PySem.W.Frag} {cs : List Addr} {v : Value} (h : kitTo K cs v = true) {j : Nat} (hj : j < cs.length) : PySem.W.kitOne K (.ref (cs.getD j 0)) v = some true := by
  unfold kitTo at h
  rw [List.all_eq_true] at h
  exact eq_of_beq (h j (List.mem_range.mpr hj))
theorem exm_own {K : PySem.W.Frag} {S : Addr} (h1 : PySem.W.subIn K (.ref S) (.type "BaseException") = some true) (h2 : PySem.W.isClsIn K S = true) (h3 : PySem.W.typeIn K (.ref S) = some (.type "type")) (h4 : PySem.W.subIn K (.ref S) (.ref S) = some true) : PySem.W.exmOne K (.ref S) (.ref S) = some true := by
  have e1 : (PySem.W.subIn K (.ref S) (.type "BaseException") == some true) = true := by rw [h1] <;> rfl
  have e2 : ((PySem.W.clsIn K S).isSome && PySem.W.typeIn K (.ref S) == some (.type "type")) = true := by
    have h2' : (PySem.W.clsIn K S).isSome = true := h2
    rw [h2', h3] <;> rfl
  show (if (PySem.W.subIn K (.ref S) (.type "BaseException") == some true) = true then (if ((PySem.W.clsIn K S).isSome && PySem.W.typeIn K (.ref S) == some (.type "type")) = true then PySem.W.subIn K (.ref S) (.ref S) else none) else none) = some true
  rw [if_pos e1, if_pos e2]
  exact h4
theorem all_mk {l : PySem.W.OpenLaw} {w : World} {K : PySem.W.Frag} {h : Heap} {mg : Str → Option Value} {fa : Addr} (X : K.In h) (G : h.Ns mainGlobals mg) (hfa : mg "law" = some (.ref fa)) (hl : l.prog = PySem.Challenge.pw_nearsettled_k62_errors_and_fields)
    {C0 C1 C2 C3 C4 C5 C6 C7 C8 C9 C10 C11 C12 C13 C14 C15 C16 C17 C18 C19 C20 C21 CN : Addr}
    {fF fT fP fK fR fL : Addr}
    {odF anF odT anT odP anP odK anK odR anR odL anL : Option Addr} {slF slT slP slK slR slL : Array (Option Value)} {ocF kVF dcF pmF cdF ctF ocT kVT dcT pmT cdT ctT ocP kVP dcP pmP cdP ctP ocK kVK dcK pmK cdK ctK ocR kVR dcR pmR cdR ctR ocL kVL dcL pmL cdL ctL : Value}
    {nm3 q3 file3 : Str} {N3 I3 cda3 cc3 : Addr} {bs3 bm3 sub3 : List Value} {sn3 : List Str} {ab3 : Bool} {col3 : Option Bool} {dd3 id3 ian3 cdd3 ced3 : Option Addr} {m03 m13 m23 m33 m53 : Option Value} {io3 ic_dc3 ipm3 ict3 cdc3 cec3 : Value} {isl3 cdl3 cel3 : Array (Option Value)} {cvs3 : Array Value} {tf3 : Tok}
    {nm4 q4 file4 : Str} {N4 I4 cda4 cc4 : Addr} {bs4 bm4 sub4 : List Value} {sn4 : List Str} {ab4 : Bool} {col4 : Option Bool} {dd4 id4 ian4 cdd4 ced4 : Option Addr} {m04 m14 m24 m34 m54 : Option Value} {io4 ic_dc4 ipm4 ict4 cdc4 cec4 : Value} {isl4 cdl4 cel4 : Array (Option Value)} {cvs4 : Array Value} {tf4 : Tok}
    {nm10 q10 file10 : Str} {N10 I10 cda10 cc10 : Addr} {bs10 bm10 sub10 : List Value} {sn10 : List Str} {ab10 : Bool} {col10 : Option Bool} {dd10 id10 ian10 cdd10 ced10 : Option Addr} {m010 m110 m210 m310 m510 : Option Value} {io10 ic_dc10 ipm10 ict10 cdc10 cec10 : Value} {isl10 cdl10 cel10 : Array (Option Value)} {cvs10 : Array Value} {tf10 : Tok}
    {nm11 q11 file11 : Str} {N11 I11 cda11 cc11 : Addr} {bs11 bm11 sub11 : List Value} {sn11 : List Str} {ab11 : Bool} {col11 : Option Bool} {dd11 id11 ian11 cdd11 ced11 : Option Addr} {m011 m111 m211 m311 m511 : Option Value} {io11 ic_dc11 ipm11 ict11 cdc11 cec11 : Value} {isl11 cdl11 cel11 : Array (Option Value)} {cvs11 : Array Value} {tf11 : Tok}
    {nm13 q13 file13 : Str} {N13 I13 cda13 cc13 : Addr} {bs13 bm13 sub13 : List Value} {sn13 : List Str} {ab13 : Bool} {col13 : Option Bool} {dd13 id13 ian13 cdd13 ced13 : Option Addr} {m013 m113 m213 m313 m513 : Option Value} {io13 ic_dc13 ipm13 ict13 cdc13 cec13 : Value} {isl13 cdl13 cel13 : Array (Option Value)} {cvs13 : Array Value} {tf13 : Tok}
    {nm16 q16 file16 : Str} {N16 I16 cda16 cc16 : Addr} {bs16 bm16 sub16 : List Value} {sn16 : List Str} {ab16 : Bool} {col16 : Option Bool} {dd16 id16 ian16 cdd16 ced16 : Option Addr} {m016 m116 m216 m316 m516 : Option Value} {io16 ic_dc16 ipm16 ict16 cdc16 cec16 : Value} {isl16 cdl16 cel16 : Array (Option Value)} {cvs16 : Array Value} {tf16 : Tok}
    {nm17 q17 file17 : Str} {N17 I17 cda17 cc17 : Addr} {bs17 bm17 sub17 : List Value} {sn17 : List Str} {ab17 : Bool} {col17 : Option Bool} {dd17 id17 ian17 cdd17 ced17 : Option Addr} {m017 m117 m217 m317 m517 : Option Value} {io17 ic_dc17 ipm17 ict17 cdc17 cec17 : Value} {isl17 cdl17 cel17 : Array (Option Value)} {cvs17 : Array Value} {tf17 : Tok}
    {nm20 q20 file20 : Str} {N20 I20 cda20 cc20 : Addr} {bs20 bm20 sub20 : List Value} {sn20 : List Str} {ab20 : Bool} {col20 : Option Bool} {dd20 id20 ian20 cdd20 ced20 : Option Addr} {m020 m120 m220 m320 m520 : Option Value} {io20 ic_dc20 ipm20 ict20 cdc20 cec20 : Value} {isl20 cdl20 cel20 : Array (Option Value)} {cvs20 : Array Value} {tf20 : Tok}
    {nm21 q21 file21 : Str} {N21 I21 cda21 cc21 : Addr} {bs21 bm21 sub21 : List Value} {sn21 : List Str} {ab21 : Bool} {col21 : Option Bool} {dd21 id21 ian21 cdd21 ced21 : Option Addr} {m021 m121 m221 m321 m521 : Option Value} {io21 ic_dc21 ipm21 ict21 cdc21 cec21 : Value} {isl21 cdl21 cel21 : Array (Option Value)} {cvs21 : Array Value} {tf21 : Tok}
    (a0 : PySem.W.nsIn K mainGlobals "NoList" = some (some (.ref C0)))
    (a1 : PySem.W.nsIn K mainGlobals "BadWidth" = some (some (.ref C1)))
    (a2 : PySem.W.nsIn K mainGlobals "BadArity" = some (some (.ref C2)))
    (a3 : PySem.W.nsIn K mainGlobals "BadRow" = some (some (.ref C3)))
    (a4 : PySem.W.nsIn K mainGlobals "BadCell" = some (some (.ref C4)))
    (a5 : PySem.W.nsIn K mainGlobals "BadLength" = some (some (.ref C5)))
    (a6 : PySem.W.nsIn K mainGlobals "BadSpots" = some (some (.ref C6)))
    (a7 : PySem.W.nsIn K mainGlobals "BadOrder" = some (some (.ref C7)))
    (a8 : PySem.W.nsIn K mainGlobals "Unlike" = some (some (.ref C8)))
    (a9 : PySem.W.nsIn K mainGlobals "BadArguments" = some (some (.ref C9)))
    (a10 : PySem.W.nsIn K mainGlobals "BadTable" = some (some (.ref C10)))
    (a11 : PySem.W.nsIn K mainGlobals "NoNumber" = some (some (.ref C11)))
    (a12 : PySem.W.nsIn K mainGlobals "BadPlaces" = some (some (.ref C12)))
    (a13 : PySem.W.nsIn K mainGlobals "BadUse" = some (some (.ref C13)))
    (a14 : PySem.W.nsIn K mainGlobals "BadAnswer" = some (some (.ref C14)))
    (a15 : PySem.W.nsIn K mainGlobals "BadChoice" = some (some (.ref C15)))
    (a16 : PySem.W.nsIn K mainGlobals "HasAnswer" = some (some (.ref C16)))
    (a17 : PySem.W.nsIn K mainGlobals "NoFold" = some (some (.ref C17)))
    (a18 : PySem.W.nsIn K mainGlobals "NoMeet" = some (some (.ref C18)))
    (a19 : PySem.W.nsIn K mainGlobals "BadNear" = some (some (.ref C19)))
    (a20 : PySem.W.nsIn K mainGlobals "NoMark" = some (some (.ref C20)))
    (a21 : PySem.W.nsIn K mainGlobals "BadText" = some (some (.ref C21)))
    (aN : PySem.W.nsIn K mainGlobals "NearError" = some (some (.ref CN)))
    (m_len : PySem.W.nsIn K mainGlobals "len" = some none)
    (m_max : PySem.W.nsIn K mainGlobals "max" = some none)
    (m_min : PySem.W.nsIn K mainGlobals "min" = some none)
    (m_abs : PySem.W.nsIn K mainGlobals "abs" = some none)
    (m_int : PySem.W.nsIn K mainGlobals "int" = some none)
    (m_range : PySem.W.nsIn K mainGlobals "range" = some none)
    (m_enumerate : PySem.W.nsIn K mainGlobals "enumerate" = some none)
    (m_isinstance : PySem.W.nsIn K mainGlobals "isinstance" = some none)
    (m_repr : PySem.W.nsIn K mainGlobals "repr" = some none)
    (m_ValueError : PySem.W.nsIn K mainGlobals "ValueError" = some none)
    (m_super : PySem.W.nsIn K mainGlobals "super" = some none)
    (aF : PySem.W.nsIn K mainGlobals "_law_feed" = some (some (.ref fF)))
    (lF : K.lookup fF = some ⟨ocF, odF, .func (PySem.W.fnOf "_law_feed" "_law_feed" (defArgs sFeed) (defBody sFeed) (defScope sFeed) .none kVF dcF pmF anF cdF ctF), slF⟩)
    (cF : PySem.W.codeIn K cdF "_law_feed" = true)
    (kF : PySem.W.keepIn K (.ref fF) = true)
    (aT : PySem.W.nsIn K mainGlobals "_law_take" = some (some (.ref fT)))
    (lT : K.lookup fT = some ⟨ocT, odT, .func (PySem.W.fnOf "_law_take" "_law_take" (defArgs sTake) (defBody sTake) (defScope sTake) .none kVT dcT pmT anT cdT ctT), slT⟩)
    (cT : PySem.W.codeIn K cdT "_law_take" = true)
    (kT : PySem.W.keepIn K (.ref fT) = true)
    (aP : PySem.W.nsIn K mainGlobals "_law_pick" = some (some (.ref fP)))
    (lP : K.lookup fP = some ⟨ocP, odP, .func (PySem.W.fnOf "_law_pick" "_law_pick" (defArgs sPick) (defBody sPick) (defScope sPick) .none kVP dcP pmP anP cdP ctP), slP⟩)
    (cP : PySem.W.codeIn K cdP "_law_pick" = true)
    (kP : PySem.W.keepIn K (.ref fP) = true)
    (aK : PySem.W.nsIn K mainGlobals "_law_kinds" = some (some (.ref fK)))
    (lK : K.lookup fK = some ⟨ocK, odK, .func (PySem.W.fnOf "_law_kinds" "_law_kinds" (defArgs sKinds) (defBody sKinds) (defScope sKinds) .none kVK dcK pmK anK cdK ctK), slK⟩)
    (cK : PySem.W.codeIn K cdK "_law_kinds" = true)
    (kK : PySem.W.keepIn K (.ref fK) = true)
    (aR : PySem.W.nsIn K mainGlobals "_law_fields_right" = some (some (.ref fR)))
    (lR : K.lookup fR = some ⟨ocR, odR, .func (PySem.W.fnOf "_law_fields_right" "_law_fields_right" (defArgs sFields) (defBody sFields) (defScope sFields) .none kVR dcR pmR anR cdR ctR), slR⟩)
    (cR : PySem.W.codeIn K cdR "_law_fields_right" = true)
    (kR : PySem.W.keepIn K (.ref fR) = true)
    (aL : PySem.W.nsIn K mainGlobals "law" = some (some (.ref fL)))
    (lL : K.lookup fL = some ⟨ocL, odL, .func (PySem.W.fnOf "law" "law" (defArgs sLaw) (defBody sLaw) (defScope sLaw) .none kVL dcL pmL anL cdL ctL), slL⟩)
    (cL : PySem.W.codeIn K cdL "law" = true)
    (kL : PySem.W.keepIn K (.ref fL) = true)
    (hn : PySem.W.specialIn K (.builtin "object.__class__") "__get__" = some (some (.builtin "getset_descriptor.__get__")))
    (ht : PySem.W.takesIn K (.builtin "object.__class__") = some true)
    (tp : PySem.W.nsIn K cStatics "thirdparty.any" = some none)
    (ga0 : PySem.W.findIn K (.ref C0) "__getattribute__" = some (some (.builtin "BaseException.__getattribute__")))
    (gg0 : PySem.W.findIn K (.ref C0) "__getattr__" = some none)
    (ex0 : PySem.W.subIn K (.ref C0) (.type "BaseException") = some true)
    (hd0 : PySem.W.hasDictIn K C0 = true)
    (cl0 : PySem.W.findIn K (.ref C0) "__class__" = some (some (.builtin "object.__class__")))
    (ob0 : PySem.W.mroIn K C0 (.type "object") = some true)
    (kc0 : PySem.W.keepIn K (.ref C0) = true)
    (xc0 : PySem.W.excIn K C0 [.type "ValueError", .type "Exception", .type "BaseException", .type "object"] "ValueError.__new__" = true)
    (ga1 : PySem.W.findIn K (.ref C1) "__getattribute__" = some (some (.builtin "BaseException.__getattribute__")))
    (gg1 : PySem.W.findIn K (.ref C1) "__getattr__" = some none)
    (ex1 : PySem.W.subIn K (.ref C1) (.type "BaseException") = some true)
    (hd1 : PySem.W.hasDictIn K C1 = true)
    (cl1 : PySem.W.findIn K (.ref C1) "__class__" = some (some (.builtin "object.__class__")))
    (ob1 : PySem.W.mroIn K C1 (.type "object") = some true)
    (kc1 : PySem.W.keepIn K (.ref C1) = true)
    (xc1 : PySem.W.excIn K C1 [.type "ValueError", .type "Exception", .type "BaseException", .type "object"] "ValueError.__new__" = true)
    (ga2 : PySem.W.findIn K (.ref C2) "__getattribute__" = some (some (.builtin "BaseException.__getattribute__")))
    (gg2 : PySem.W.findIn K (.ref C2) "__getattr__" = some none)
    (ex2 : PySem.W.subIn K (.ref C2) (.type "BaseException") = some true)
    (hd2 : PySem.W.hasDictIn K C2 = true)
    (cl2 : PySem.W.findIn K (.ref C2) "__class__" = some (some (.builtin "object.__class__")))
    (ob2 : PySem.W.mroIn K C2 (.type "object") = some true)
    (kc2 : PySem.W.keepIn K (.ref C2) = true)
    (xc2 : PySem.W.excIn K C2 [.type "ValueError", .type "Exception", .type "BaseException", .type "object"] "ValueError.__new__" = true)
    (ga3 : PySem.W.findIn K (.ref C3) "__getattribute__" = some (some (.builtin "BaseException.__getattribute__")))
    (gg3 : PySem.W.findIn K (.ref C3) "__getattr__" = some none)
    (ex3 : PySem.W.subIn K (.ref C3) (.type "BaseException") = some true)
    (hd3 : PySem.W.hasDictIn K C3 = true)
    (cl3 : PySem.W.findIn K (.ref C3) "__class__" = some (some (.builtin "object.__class__")))
    (ob3 : PySem.W.mroIn K C3 (.type "object") = some true)
    (kc3 : PySem.W.keepIn K (.ref C3) = true)
    (xl3 : K.lookup C3 = some (excClassObj nm3 q3 C3 N3 bs3 bm3 true sn3 sub3 ab3 col3 dd3 m03 m13 m23 m33 m53 "ValueError.__new__"))
    (rv3 : PySem.HandSPX.refsVE bm3 = true)
    (sa3 : PySem.W.findIn K (.ref C3) "__setattr__" = some (some (.builtin "object.__setattr__")))
    (no3 : PySem.W.findIn K (.ref C3) "number" = some none)
    (ic3 : PySem.W.findIn K (.ref C3) "__init__" = some (some (.ref I3)))
    (ti3 : PySem.W.typeIn K (.ref I3) = some (.type "function"))
    (ty3 : PySem.W.typeIn K (.ref C3) = some (.type "type"))
    (is3 : PySem.W.isClsIn K C3 = true)
    (ss3 : PySem.W.subIn K (.ref C3) (.ref C3) = some true)
    (sv3 : PySem.W.subIn K (.ref C3) (.type "ValueError") = some true)
    (sm3 : PySem.W.mroIn K C3 (.ref C3) = some true)
    (su3 : PySem.W.ks_superIn K C3 C3 "__init__" = some (some (.builtin "ValueError.__init__")))
    (li3 : K.lookup I3 = some ⟨io3, id3, .func (PySem.W.ksFn "__init__" "BadRow.__init__" (defArgs (inClass (top 5) 0)) (defBody (inClass (top 5) 0)) (defScope (inClass (top 5) 0)) .none .none ic_dc3 ipm3 ian3 (.ref cda3) ict3 cc3), isl3⟩)
    (ci3 : PySem.W.codeIn K (.ref cda3) "BadRow.__init__" = true)
    (cd3 : K.lookup cda3 = some ⟨cdc3, cdd3, .fields cvs3, cdl3⟩)
    (vs3 : cvs3[2]? = some (.str file3 tf3))
    (fi3 : ((PySem.Challenge.pw_nearsettled_k62_errors_and_fields.main.file : Str) == file3) = true)
    (ce3 : K.lookup cc3 = some ⟨cec3, ced3, .cell (some (.ref C3)), cel3⟩)
    (ga4 : PySem.W.findIn K (.ref C4) "__getattribute__" = some (some (.builtin "BaseException.__getattribute__")))
    (gg4 : PySem.W.findIn K (.ref C4) "__getattr__" = some none)
    (ex4 : PySem.W.subIn K (.ref C4) (.type "BaseException") = some true)
    (hd4 : PySem.W.hasDictIn K C4 = true)
    (cl4 : PySem.W.findIn K (.ref C4) "__class__" = some (some (.builtin "object.__class__")))
    (ob4 : PySem.W.mroIn K C4 (.type "object") = some true)
    (kc4 : PySem.W.keepIn K (.ref C4) = true)
    (xl4 : K.lookup C4 = some (excClassObj nm4 q4 C4 N4 bs4 bm4 true sn4 sub4 ab4 col4 dd4 m04 m14 m24 m34 m54 "ValueError.__new__"))
    (rv4 : PySem.HandSPX.refsVE bm4 = true)
    (sa4 : PySem.W.findIn K (.ref C4) "__setattr__" = some (some (.builtin "object.__setattr__")))
    (no4 : PySem.W.findIn K (.ref C4) "number" = some none)
    (ic4 : PySem.W.findIn K (.ref C4) "__init__" = some (some (.ref I4)))
    (ti4 : PySem.W.typeIn K (.ref I4) = some (.type "function"))
    (ty4 : PySem.W.typeIn K (.ref C4) = some (.type "type"))
    (is4 : PySem.W.isClsIn K C4 = true)
    (ss4 : PySem.W.subIn K (.ref C4) (.ref C4) = some true)
    (sv4 : PySem.W.subIn K (.ref C4) (.type "ValueError") = some true)
    (sm4 : PySem.W.mroIn K C4 (.ref C4) = some true)
    (su4 : PySem.W.ks_superIn K C4 C4 "__init__" = some (some (.builtin "ValueError.__init__")))
    (li4 : K.lookup I4 = some ⟨io4, id4, .func (PySem.W.ksFn "__init__" "BadCell.__init__" (defArgs (inClass (top 6) 0)) (defBody (inClass (top 6) 0)) (defScope (inClass (top 6) 0)) .none .none ic_dc4 ipm4 ian4 (.ref cda4) ict4 cc4), isl4⟩)
    (ci4 : PySem.W.codeIn K (.ref cda4) "BadCell.__init__" = true)
    (cd4 : K.lookup cda4 = some ⟨cdc4, cdd4, .fields cvs4, cdl4⟩)
    (vs4 : cvs4[2]? = some (.str file4 tf4))
    (fi4 : ((PySem.Challenge.pw_nearsettled_k62_errors_and_fields.main.file : Str) == file4) = true)
    (ce4 : K.lookup cc4 = some ⟨cec4, ced4, .cell (some (.ref C4)), cel4⟩)
    (ga5 : PySem.W.findIn K (.ref C5) "__getattribute__" = some (some (.builtin "BaseException.__getattribute__")))
    (gg5 : PySem.W.findIn K (.ref C5) "__getattr__" = some none)
    (ex5 : PySem.W.subIn K (.ref C5) (.type "BaseException") = some true)
    (hd5 : PySem.W.hasDictIn K C5 = true)
    (cl5 : PySem.W.findIn K (.ref C5) "__class__" = some (some (.builtin "object.__class__")))
    (ob5 : PySem.W.mroIn K C5 (.type "object") = some true)
    (kc5 : PySem.W.keepIn K (.ref C5) = true)
    (xc5 : PySem.W.excIn K C5 [.type "ValueError", .type "Exception", .type "BaseException", .type "object"] "ValueError.__new__" = true)
    (ga6 : PySem.W.findIn K (.ref C6) "__getattribute__" = some (some (.builtin "BaseException.__getattribute__")))
    (gg6 : PySem.W.findIn K (.ref C6) "__getattr__" = some none)
    (ex6 : PySem.W.subIn K (.ref C6) (.type "BaseException") = some true)
    (hd6 : PySem.W.hasDictIn K C6 = true)
    (cl6 : PySem.W.findIn K (.ref C6) "__class__" = some (some (.builtin "object.__class__")))
    (ob6 : PySem.W.mroIn K C6 (.type "object") = some true)
    (kc6 : PySem.W.keepIn K (.ref C6) = true)
    (xc6 : PySem.W.excIn K C6 [.type "ValueError", .type "Exception", .type "BaseException", .type "object"] "ValueError.__new__" = true)
    (ga7 : PySem.W.findIn K (.ref C7) "__getattribute__" = some (some (.builtin "BaseException.__getattribute__")))
    (gg7 : PySem.W.findIn K (.ref C7) "__getattr__" = some none)
    (ex7 : PySem.W.subIn K (.ref C7) (.type "BaseException") = some true)
    (hd7 : PySem.W.hasDictIn K C7 = true)
    (cl7 : PySem.W.findIn K (.ref C7) "__class__" = some (some (.builtin "object.__class__")))
    (ob7 : PySem.W.mroIn K C7 (.type "object") = some true)
    (kc7 : PySem.W.keepIn K (.ref C7) = true)
    (xc7 : PySem.W.excIn K C7 [.type "ValueError", .type "Exception", .type "BaseException", .type "object"] "ValueError.__new__" = true)
    (ga8 : PySem.W.findIn K (.ref C8) "__getattribute__" = some (some (.builtin "BaseException.__getattribute__")))
    (gg8 : PySem.W.findIn K (.ref C8) "__getattr__" = some none)
    (ex8 : PySem.W.subIn K (.ref C8) (.type "BaseException") = some true)
    (hd8 : PySem.W.hasDictIn K C8 = true)
    (cl8 : PySem.W.findIn K (.ref C8) "__class__" = some (some (.builtin "object.__class__")))
    (ob8 : PySem.W.mroIn K C8 (.type "object") = some true)
    (kc8 : PySem.W.keepIn K (.ref C8) = true)
    (xc8 : PySem.W.excIn K C8 [.type "ValueError", .type "Exception", .type "BaseException", .type "object"] "ValueError.__new__" = true)
    (ga9 : PySem.W.findIn K (.ref C9) "__getattribute__" = some (some (.builtin "BaseException.__getattribute__")))
    (gg9 : PySem.W.findIn K (.ref C9) "__getattr__" = some none)
    (ex9 : PySem.W.subIn K (.ref C9) (.type "BaseException") = some true)
    (hd9 : PySem.W.hasDictIn K C9 = true)
    (cl9 : PySem.W.findIn K (.ref C9) "__class__" = some (some (.builtin "object.__class__")))
    (ob9 : PySem.W.mroIn K C9 (.type "object") = some true)
    (kc9 : PySem.W.keepIn K (.ref C9) = true)
    (xc9 : PySem.W.excIn K C9 [.type "ValueError", .type "Exception", .type "BaseException", .type "object"] "ValueError.__new__" = true)
    (ga10 : PySem.W.findIn K (.ref C10) "__getattribute__" = some (some (.builtin "BaseException.__getattribute__")))
    (gg10 : PySem.W.findIn K (.ref C10) "__getattr__" = some none)
    (ex10 : PySem.W.subIn K (.ref C10) (.type "BaseException") = some true)
    (hd10 : PySem.W.hasDictIn K C10 = true)
    (cl10 : PySem.W.findIn K (.ref C10) "__class__" = some (some (.builtin "object.__class__")))
    (ob10 : PySem.W.mroIn K C10 (.type "object") = some true)
    (kc10 : PySem.W.keepIn K (.ref C10) = true)
    (xl10 : K.lookup C10 = some (excClassObj nm10 q10 C10 N10 bs10 bm10 true sn10 sub10 ab10 col10 dd10 m010 m110 m210 m310 m510 "ValueError.__new__"))
    (rv10 : PySem.HandSPX.refsVE bm10 = true)
    (sa10 : PySem.W.findIn K (.ref C10) "__setattr__" = some (some (.builtin "object.__setattr__")))
    (no10 : PySem.W.findIn K (.ref C10) "number" = some none)
    (ic10 : PySem.W.findIn K (.ref C10) "__init__" = some (some (.ref I10)))
    (ti10 : PySem.W.typeIn K (.ref I10) = some (.type "function"))
    (ty10 : PySem.W.typeIn K (.ref C10) = some (.type "type"))
    (is10 : PySem.W.isClsIn K C10 = true)
    (ss10 : PySem.W.subIn K (.ref C10) (.ref C10) = some true)
    (sv10 : PySem.W.subIn K (.ref C10) (.type "ValueError") = some true)
    (sm10 : PySem.W.mroIn K C10 (.ref C10) = some true)
    (su10 : PySem.W.ks_superIn K C10 C10 "__init__" = some (some (.builtin "ValueError.__init__")))
    (li10 : K.lookup I10 = some ⟨io10, id10, .func (PySem.W.ksFn "__init__" "BadTable.__init__" (defArgs (inClass (top 12) 0)) (defBody (inClass (top 12) 0)) (defScope (inClass (top 12) 0)) .none .none ic_dc10 ipm10 ian10 (.ref cda10) ict10 cc10), isl10⟩)
    (ci10 : PySem.W.codeIn K (.ref cda10) "BadTable.__init__" = true)
    (cd10 : K.lookup cda10 = some ⟨cdc10, cdd10, .fields cvs10, cdl10⟩)
    (vs10 : cvs10[2]? = some (.str file10 tf10))
    (fi10 : ((PySem.Challenge.pw_nearsettled_k62_errors_and_fields.main.file : Str) == file10) = true)
    (ce10 : K.lookup cc10 = some ⟨cec10, ced10, .cell (some (.ref C10)), cel10⟩)
    (ga11 : PySem.W.findIn K (.ref C11) "__getattribute__" = some (some (.builtin "BaseException.__getattribute__")))
    (gg11 : PySem.W.findIn K (.ref C11) "__getattr__" = some none)
    (ex11 : PySem.W.subIn K (.ref C11) (.type "BaseException") = some true)
    (hd11 : PySem.W.hasDictIn K C11 = true)
    (cl11 : PySem.W.findIn K (.ref C11) "__class__" = some (some (.builtin "object.__class__")))
    (ob11 : PySem.W.mroIn K C11 (.type "object") = some true)
    (kc11 : PySem.W.keepIn K (.ref C11) = true)
    (xl11 : K.lookup C11 = some (excClassObj nm11 q11 C11 N11 bs11 bm11 true sn11 sub11 ab11 col11 dd11 m011 m111 m211 m311 m511 "ValueError.__new__"))
    (rv11 : PySem.HandSPX.refsVE bm11 = true)
    (sa11 : PySem.W.findIn K (.ref C11) "__setattr__" = some (some (.builtin "object.__setattr__")))
    (no11 : PySem.W.findIn K (.ref C11) "number" = some none)
    (ic11 : PySem.W.findIn K (.ref C11) "__init__" = some (some (.ref I11)))
    (ti11 : PySem.W.typeIn K (.ref I11) = some (.type "function"))
    (ty11 : PySem.W.typeIn K (.ref C11) = some (.type "type"))
    (is11 : PySem.W.isClsIn K C11 = true)
    (ss11 : PySem.W.subIn K (.ref C11) (.ref C11) = some true)
    (sv11 : PySem.W.subIn K (.ref C11) (.type "ValueError") = some true)
    (sm11 : PySem.W.mroIn K C11 (.ref C11) = some true)
    (su11 : PySem.W.ks_superIn K C11 C11 "__init__" = some (some (.builtin "ValueError.__init__")))
    (li11 : K.lookup I11 = some ⟨io11, id11, .func (PySem.W.ksFn "__init__" "NoNumber.__init__" (defArgs (inClass (top 13) 0)) (defBody (inClass (top 13) 0)) (defScope (inClass (top 13) 0)) .none .none ic_dc11 ipm11 ian11 (.ref cda11) ict11 cc11), isl11⟩)
    (ci11 : PySem.W.codeIn K (.ref cda11) "NoNumber.__init__" = true)
    (cd11 : K.lookup cda11 = some ⟨cdc11, cdd11, .fields cvs11, cdl11⟩)
    (vs11 : cvs11[2]? = some (.str file11 tf11))
    (fi11 : ((PySem.Challenge.pw_nearsettled_k62_errors_and_fields.main.file : Str) == file11) = true)
    (ce11 : K.lookup cc11 = some ⟨cec11, ced11, .cell (some (.ref C11)), cel11⟩)
    (ga12 : PySem.W.findIn K (.ref C12) "__getattribute__" = some (some (.builtin "BaseException.__getattribute__")))
    (gg12 : PySem.W.findIn K (.ref C12) "__getattr__" = some none)
    (ex12 : PySem.W.subIn K (.ref C12) (.type "BaseException") = some true)
    (hd12 : PySem.W.hasDictIn K C12 = true)
    (cl12 : PySem.W.findIn K (.ref C12) "__class__" = some (some (.builtin "object.__class__")))
    (ob12 : PySem.W.mroIn K C12 (.type "object") = some true)
    (kc12 : PySem.W.keepIn K (.ref C12) = true)
    (xc12 : PySem.W.excIn K C12 [.type "ValueError", .type "Exception", .type "BaseException", .type "object"] "ValueError.__new__" = true)
    (ga13 : PySem.W.findIn K (.ref C13) "__getattribute__" = some (some (.builtin "BaseException.__getattribute__")))
    (gg13 : PySem.W.findIn K (.ref C13) "__getattr__" = some none)
    (ex13 : PySem.W.subIn K (.ref C13) (.type "BaseException") = some true)
    (hd13 : PySem.W.hasDictIn K C13 = true)
    (cl13 : PySem.W.findIn K (.ref C13) "__class__" = some (some (.builtin "object.__class__")))
    (ob13 : PySem.W.mroIn K C13 (.type "object") = some true)
    (kc13 : PySem.W.keepIn K (.ref C13) = true)
    (xl13 : K.lookup C13 = some (excClassObj nm13 q13 C13 N13 bs13 bm13 true sn13 sub13 ab13 col13 dd13 m013 m113 m213 m313 m513 "ValueError.__new__"))
    (rv13 : PySem.HandSPX.refsVE bm13 = true)
    (sa13 : PySem.W.findIn K (.ref C13) "__setattr__" = some (some (.builtin "object.__setattr__")))
    (no13 : PySem.W.findIn K (.ref C13) "number" = some none)
    (ic13 : PySem.W.findIn K (.ref C13) "__init__" = some (some (.ref I13)))
    (ti13 : PySem.W.typeIn K (.ref I13) = some (.type "function"))
    (ty13 : PySem.W.typeIn K (.ref C13) = some (.type "type"))
    (is13 : PySem.W.isClsIn K C13 = true)
    (ss13 : PySem.W.subIn K (.ref C13) (.ref C13) = some true)
    (sv13 : PySem.W.subIn K (.ref C13) (.type "ValueError") = some true)
    (sm13 : PySem.W.mroIn K C13 (.ref C13) = some true)
    (su13 : PySem.W.ks_superIn K C13 C13 "__init__" = some (some (.builtin "ValueError.__init__")))
    (li13 : K.lookup I13 = some ⟨io13, id13, .func (PySem.W.ksFn "__init__" "BadUse.__init__" (defArgs (inClass (top 15) 0)) (defBody (inClass (top 15) 0)) (defScope (inClass (top 15) 0)) .none .none ic_dc13 ipm13 ian13 (.ref cda13) ict13 cc13), isl13⟩)
    (ci13 : PySem.W.codeIn K (.ref cda13) "BadUse.__init__" = true)
    (cd13 : K.lookup cda13 = some ⟨cdc13, cdd13, .fields cvs13, cdl13⟩)
    (vs13 : cvs13[2]? = some (.str file13 tf13))
    (fi13 : ((PySem.Challenge.pw_nearsettled_k62_errors_and_fields.main.file : Str) == file13) = true)
    (ce13 : K.lookup cc13 = some ⟨cec13, ced13, .cell (some (.ref C13)), cel13⟩)
    (ga14 : PySem.W.findIn K (.ref C14) "__getattribute__" = some (some (.builtin "BaseException.__getattribute__")))
    (gg14 : PySem.W.findIn K (.ref C14) "__getattr__" = some none)
    (ex14 : PySem.W.subIn K (.ref C14) (.type "BaseException") = some true)
    (hd14 : PySem.W.hasDictIn K C14 = true)
    (cl14 : PySem.W.findIn K (.ref C14) "__class__" = some (some (.builtin "object.__class__")))
    (ob14 : PySem.W.mroIn K C14 (.type "object") = some true)
    (kc14 : PySem.W.keepIn K (.ref C14) = true)
    (xc14 : PySem.W.excIn K C14 [.type "ValueError", .type "Exception", .type "BaseException", .type "object"] "ValueError.__new__" = true)
    (ga15 : PySem.W.findIn K (.ref C15) "__getattribute__" = some (some (.builtin "BaseException.__getattribute__")))
    (gg15 : PySem.W.findIn K (.ref C15) "__getattr__" = some none)
    (ex15 : PySem.W.subIn K (.ref C15) (.type "BaseException") = some true)
    (hd15 : PySem.W.hasDictIn K C15 = true)
    (cl15 : PySem.W.findIn K (.ref C15) "__class__" = some (some (.builtin "object.__class__")))
    (ob15 : PySem.W.mroIn K C15 (.type "object") = some true)
    (kc15 : PySem.W.keepIn K (.ref C15) = true)
    (xc15 : PySem.W.excIn K C15 [.type "ValueError", .type "Exception", .type "BaseException", .type "object"] "ValueError.__new__" = true)
    (ga16 : PySem.W.findIn K (.ref C16) "__getattribute__" = some (some (.builtin "BaseException.__getattribute__")))
    (gg16 : PySem.W.findIn K (.ref C16) "__getattr__" = some none)
    (ex16 : PySem.W.subIn K (.ref C16) (.type "BaseException") = some true)
    (hd16 : PySem.W.hasDictIn K C16 = true)
    (cl16 : PySem.W.findIn K (.ref C16) "__class__" = some (some (.builtin "object.__class__")))
    (ob16 : PySem.W.mroIn K C16 (.type "object") = some true)
    (kc16 : PySem.W.keepIn K (.ref C16) = true)
    (xl16 : K.lookup C16 = some (excClassObj nm16 q16 C16 N16 bs16 bm16 true sn16 sub16 ab16 col16 dd16 m016 m116 m216 m316 m516 "ValueError.__new__"))
    (rv16 : PySem.HandSPX.refsVE bm16 = true)
    (sa16 : PySem.W.findIn K (.ref C16) "__setattr__" = some (some (.builtin "object.__setattr__")))
    (no16 : PySem.W.findIn K (.ref C16) "answer" = some none)
    (ic16 : PySem.W.findIn K (.ref C16) "__init__" = some (some (.ref I16)))
    (ti16 : PySem.W.typeIn K (.ref I16) = some (.type "function"))
    (ty16 : PySem.W.typeIn K (.ref C16) = some (.type "type"))
    (is16 : PySem.W.isClsIn K C16 = true)
    (ss16 : PySem.W.subIn K (.ref C16) (.ref C16) = some true)
    (sv16 : PySem.W.subIn K (.ref C16) (.type "ValueError") = some true)
    (sm16 : PySem.W.mroIn K C16 (.ref C16) = some true)
    (su16 : PySem.W.ks_superIn K C16 C16 "__init__" = some (some (.builtin "ValueError.__init__")))
    (li16 : K.lookup I16 = some ⟨io16, id16, .func (PySem.W.ksFn "__init__" "HasAnswer.__init__" (defArgs (inClass (top 18) 0)) (defBody (inClass (top 18) 0)) (defScope (inClass (top 18) 0)) .none .none ic_dc16 ipm16 ian16 (.ref cda16) ict16 cc16), isl16⟩)
    (ci16 : PySem.W.codeIn K (.ref cda16) "HasAnswer.__init__" = true)
    (cd16 : K.lookup cda16 = some ⟨cdc16, cdd16, .fields cvs16, cdl16⟩)
    (vs16 : cvs16[2]? = some (.str file16 tf16))
    (fi16 : ((PySem.Challenge.pw_nearsettled_k62_errors_and_fields.main.file : Str) == file16) = true)
    (ce16 : K.lookup cc16 = some ⟨cec16, ced16, .cell (some (.ref C16)), cel16⟩)
    (ga17 : PySem.W.findIn K (.ref C17) "__getattribute__" = some (some (.builtin "BaseException.__getattribute__")))
    (gg17 : PySem.W.findIn K (.ref C17) "__getattr__" = some none)
    (ex17 : PySem.W.subIn K (.ref C17) (.type "BaseException") = some true)
    (hd17 : PySem.W.hasDictIn K C17 = true)
    (cl17 : PySem.W.findIn K (.ref C17) "__class__" = some (some (.builtin "object.__class__")))
    (ob17 : PySem.W.mroIn K C17 (.type "object") = some true)
    (kc17 : PySem.W.keepIn K (.ref C17) = true)
    (xl17 : K.lookup C17 = some (excClassObj nm17 q17 C17 N17 bs17 bm17 true sn17 sub17 ab17 col17 dd17 m017 m117 m217 m317 m517 "ValueError.__new__"))
    (rv17 : PySem.HandSPX.refsVE bm17 = true)
    (sa17 : PySem.W.findIn K (.ref C17) "__setattr__" = some (some (.builtin "object.__setattr__")))
    (no17 : PySem.W.findIn K (.ref C17) "number" = some none)
    (ic17 : PySem.W.findIn K (.ref C17) "__init__" = some (some (.ref I17)))
    (ti17 : PySem.W.typeIn K (.ref I17) = some (.type "function"))
    (ty17 : PySem.W.typeIn K (.ref C17) = some (.type "type"))
    (is17 : PySem.W.isClsIn K C17 = true)
    (ss17 : PySem.W.subIn K (.ref C17) (.ref C17) = some true)
    (sv17 : PySem.W.subIn K (.ref C17) (.type "ValueError") = some true)
    (sm17 : PySem.W.mroIn K C17 (.ref C17) = some true)
    (su17 : PySem.W.ks_superIn K C17 C17 "__init__" = some (some (.builtin "ValueError.__init__")))
    (li17 : K.lookup I17 = some ⟨io17, id17, .func (PySem.W.ksFn "__init__" "NoFold.__init__" (defArgs (inClass (top 19) 0)) (defBody (inClass (top 19) 0)) (defScope (inClass (top 19) 0)) .none .none ic_dc17 ipm17 ian17 (.ref cda17) ict17 cc17), isl17⟩)
    (ci17 : PySem.W.codeIn K (.ref cda17) "NoFold.__init__" = true)
    (cd17 : K.lookup cda17 = some ⟨cdc17, cdd17, .fields cvs17, cdl17⟩)
    (vs17 : cvs17[2]? = some (.str file17 tf17))
    (fi17 : ((PySem.Challenge.pw_nearsettled_k62_errors_and_fields.main.file : Str) == file17) = true)
    (ce17 : K.lookup cc17 = some ⟨cec17, ced17, .cell (some (.ref C17)), cel17⟩)
    (ga18 : PySem.W.findIn K (.ref C18) "__getattribute__" = some (some (.builtin "BaseException.__getattribute__")))
    (gg18 : PySem.W.findIn K (.ref C18) "__getattr__" = some none)
    (ex18 : PySem.W.subIn K (.ref C18) (.type "BaseException") = some true)
    (hd18 : PySem.W.hasDictIn K C18 = true)
    (cl18 : PySem.W.findIn K (.ref C18) "__class__" = some (some (.builtin "object.__class__")))
    (ob18 : PySem.W.mroIn K C18 (.type "object") = some true)
    (kc18 : PySem.W.keepIn K (.ref C18) = true)
    (xc18 : PySem.W.excIn K C18 [.type "ValueError", .type "Exception", .type "BaseException", .type "object"] "ValueError.__new__" = true)
    (ga19 : PySem.W.findIn K (.ref C19) "__getattribute__" = some (some (.builtin "BaseException.__getattribute__")))
    (gg19 : PySem.W.findIn K (.ref C19) "__getattr__" = some none)
    (ex19 : PySem.W.subIn K (.ref C19) (.type "BaseException") = some true)
    (hd19 : PySem.W.hasDictIn K C19 = true)
    (cl19 : PySem.W.findIn K (.ref C19) "__class__" = some (some (.builtin "object.__class__")))
    (ob19 : PySem.W.mroIn K C19 (.type "object") = some true)
    (kc19 : PySem.W.keepIn K (.ref C19) = true)
    (xc19 : PySem.W.excIn K C19 [.type "ValueError", .type "Exception", .type "BaseException", .type "object"] "ValueError.__new__" = true)
    (ga20 : PySem.W.findIn K (.ref C20) "__getattribute__" = some (some (.builtin "BaseException.__getattribute__")))
    (gg20 : PySem.W.findIn K (.ref C20) "__getattr__" = some none)
    (ex20 : PySem.W.subIn K (.ref C20) (.type "BaseException") = some true)
    (hd20 : PySem.W.hasDictIn K C20 = true)
    (cl20 : PySem.W.findIn K (.ref C20) "__class__" = some (some (.builtin "object.__class__")))
    (ob20 : PySem.W.mroIn K C20 (.type "object") = some true)
    (kc20 : PySem.W.keepIn K (.ref C20) = true)
    (xl20 : K.lookup C20 = some (excClassObj nm20 q20 C20 N20 bs20 bm20 true sn20 sub20 ab20 col20 dd20 m020 m120 m220 m320 m520 "ValueError.__new__"))
    (rv20 : PySem.HandSPX.refsVE bm20 = true)
    (sa20 : PySem.W.findIn K (.ref C20) "__setattr__" = some (some (.builtin "object.__setattr__")))
    (no20 : PySem.W.findIn K (.ref C20) "number" = some none)
    (ic20 : PySem.W.findIn K (.ref C20) "__init__" = some (some (.ref I20)))
    (ti20 : PySem.W.typeIn K (.ref I20) = some (.type "function"))
    (ty20 : PySem.W.typeIn K (.ref C20) = some (.type "type"))
    (is20 : PySem.W.isClsIn K C20 = true)
    (ss20 : PySem.W.subIn K (.ref C20) (.ref C20) = some true)
    (sv20 : PySem.W.subIn K (.ref C20) (.type "ValueError") = some true)
    (sm20 : PySem.W.mroIn K C20 (.ref C20) = some true)
    (su20 : PySem.W.ks_superIn K C20 C20 "__init__" = some (some (.builtin "ValueError.__init__")))
    (li20 : K.lookup I20 = some ⟨io20, id20, .func (PySem.W.ksFn "__init__" "NoMark.__init__" (defArgs (inClass (top 22) 0)) (defBody (inClass (top 22) 0)) (defScope (inClass (top 22) 0)) .none .none ic_dc20 ipm20 ian20 (.ref cda20) ict20 cc20), isl20⟩)
    (ci20 : PySem.W.codeIn K (.ref cda20) "NoMark.__init__" = true)
    (cd20 : K.lookup cda20 = some ⟨cdc20, cdd20, .fields cvs20, cdl20⟩)
    (vs20 : cvs20[2]? = some (.str file20 tf20))
    (fi20 : ((PySem.Challenge.pw_nearsettled_k62_errors_and_fields.main.file : Str) == file20) = true)
    (ce20 : K.lookup cc20 = some ⟨cec20, ced20, .cell (some (.ref C20)), cel20⟩)
    (ga21 : PySem.W.findIn K (.ref C21) "__getattribute__" = some (some (.builtin "BaseException.__getattribute__")))
    (gg21 : PySem.W.findIn K (.ref C21) "__getattr__" = some none)
    (ex21 : PySem.W.subIn K (.ref C21) (.type "BaseException") = some true)
    (hd21 : PySem.W.hasDictIn K C21 = true)
    (cl21 : PySem.W.findIn K (.ref C21) "__class__" = some (some (.builtin "object.__class__")))
    (ob21 : PySem.W.mroIn K C21 (.type "object") = some true)
    (kc21 : PySem.W.keepIn K (.ref C21) = true)
    (xl21 : K.lookup C21 = some (excClassObj nm21 q21 C21 N21 bs21 bm21 true sn21 sub21 ab21 col21 dd21 m021 m121 m221 m321 m521 "ValueError.__new__"))
    (rv21 : PySem.HandSPX.refsVE bm21 = true)
    (sa21 : PySem.W.findIn K (.ref C21) "__setattr__" = some (some (.builtin "object.__setattr__")))
    (no21 : PySem.W.findIn K (.ref C21) "line" = some none)
    (ic21 : PySem.W.findIn K (.ref C21) "__init__" = some (some (.ref I21)))
    (ti21 : PySem.W.typeIn K (.ref I21) = some (.type "function"))
    (ty21 : PySem.W.typeIn K (.ref C21) = some (.type "type"))
    (is21 : PySem.W.isClsIn K C21 = true)
    (ss21 : PySem.W.subIn K (.ref C21) (.ref C21) = some true)
    (sv21 : PySem.W.subIn K (.ref C21) (.type "ValueError") = some true)
    (sm21 : PySem.W.mroIn K C21 (.ref C21) = some true)
    (su21 : PySem.W.ks_superIn K C21 C21 "__init__" = some (some (.builtin "ValueError.__init__")))
    (li21 : K.lookup I21 = some ⟨io21, id21, .func (PySem.W.ksFn "__init__" "BadText.__init__" (defArgs (inClass (top 23) 0)) (defBody (inClass (top 23) 0)) (defScope (inClass (top 23) 0)) .none .none ic_dc21 ipm21 ian21 (.ref cda21) ict21 cc21), isl21⟩)
    (ci21 : PySem.W.codeIn K (.ref cda21) "BadText.__init__" = true)
    (cd21 : K.lookup cda21 = some ⟨cdc21, cdd21, .fields cvs21, cdl21⟩)
    (vs21 : cvs21[2]? = some (.str file21 tf21))
    (fi21 : ((PySem.Challenge.pw_nearsettled_k62_errors_and_fields.main.file : Str) == file21) = true)
    (ce21 : K.lookup cc21 = some ⟨cec21, ced21, .cell (some (.ref C21)), cel21⟩)
    (kA : kitAll K [C0, C1, C2, C3, C4, C5, C6, C7, C8, C9, C10, C11, C12, C13, C14, C15, C16, C17, C18, C19, C20, C21] = true)
    (kN : kitTo K [C0, C1, C2, C3, C4, C5, C6, C7, C8, C9, C10, C11, C12, C13, C14, C15, C16, C17, C18, C19, C20, C21] (.ref CN) = true)
    (kV : kitTo K [C0, C1, C2, C3, C4, C5, C6, C7, C8, C9, C10, C11, C12, C13, C14, C15, C16, C17, C18, C19, C20, C21] (.type "ValueError") = true)
    (kVN : PySem.W.kitOne K (.type "ValueError") (.ref CN) = some false) :
    ∃ fd : FuncData, (∀ (s : Shared) (u : Value), BindsTo s fd ⟨[u], []⟩ [("script", u)]) ∧ ∀ base : Heap, K.In base → base.Ns mainGlobals mg → FnG l.prog w K mg base CX0 5 fa fd ["script"] (spLaw K) := by
  have e := hfa.symm.trans (PySem.W.mg_of X G aL)
  cases e
  rw [hl]
  let C : Nat → Addr := fun i => ([C0, C1, C2, C3, C4, C5, C6, C7, C8, C9, C10, C11, C12, C13, C14, C15, C16, C17, C18, C19, C20, C21] : List Addr).getD i 0
  let I : Nat → Addr := fun i => ([0, 0, 0, I3, I4, 0, 0, 0, 0, 0, I10, I11, 0, I13, 0, 0, I16, I17, 0, 0, I20, I21] : List Addr).getD i 0
  have T : Blt mg := ⟨PySem.W.mg_none_of X G m_len, PySem.W.mg_none_of X G m_max, PySem.W.mg_none_of X G m_min, PySem.W.mg_none_of X G m_abs, PySem.W.mg_none_of X G m_int, PySem.W.mg_none_of X G m_range, PySem.W.mg_none_of X G m_enumerate, PySem.W.mg_none_of X G m_isinstance, PySem.W.mg_none_of X G m_repr, PySem.W.mg_none_of X G m_ValueError⟩
  have ek : ∀ j : Nat, j < 22 → ExcC K (C j) := by
    intro j hj
    match j, hj with
    | 0, _ => exact ⟨ga0, gg0, ex0, hd0, cl0, hn, ht, ob0⟩
    | 1, _ => exact ⟨ga1, gg1, ex1, hd1, cl1, hn, ht, ob1⟩
    | 2, _ => exact ⟨ga2, gg2, ex2, hd2, cl2, hn, ht, ob2⟩
    | 3, _ => exact ⟨ga3, gg3, ex3, hd3, cl3, hn, ht, ob3⟩
    | 4, _ => exact ⟨ga4, gg4, ex4, hd4, cl4, hn, ht, ob4⟩
    | 5, _ => exact ⟨ga5, gg5, ex5, hd5, cl5, hn, ht, ob5⟩
    | 6, _ => exact ⟨ga6, gg6, ex6, hd6, cl6, hn, ht, ob6⟩
    | 7, _ => exact ⟨ga7, gg7, ex7, hd7, cl7, hn, ht, ob7⟩
    | 8, _ => exact ⟨ga8, gg8, ex8, hd8, cl8, hn, ht, ob8⟩
    | 9, _ => exact ⟨ga9, gg9, ex9, hd9, cl9, hn, ht, ob9⟩
    | 10, _ => exact ⟨ga10, gg10, ex10, hd10, cl10, hn, ht, ob10⟩
    | 11, _ => exact ⟨ga11, gg11, ex11, hd11, cl11, hn, ht, ob11⟩
    | 12, _ => exact ⟨ga12, gg12, ex12, hd12, cl12, hn, ht, ob12⟩
    | 13, _ => exact ⟨ga13, gg13, ex13, hd13, cl13, hn, ht, ob13⟩
    | 14, _ => exact ⟨ga14, gg14, ex14, hd14, cl14, hn, ht, ob14⟩
    | 15, _ => exact ⟨ga15, gg15, ex15, hd15, cl15, hn, ht, ob15⟩
    | 16, _ => exact ⟨ga16, gg16, ex16, hd16, cl16, hn, ht, ob16⟩
    | 17, _ => exact ⟨ga17, gg17, ex17, hd17, cl17, hn, ht, ob17⟩
    | 18, _ => exact ⟨ga18, gg18, ex18, hd18, cl18, hn, ht, ob18⟩
    | 19, _ => exact ⟨ga19, gg19, ex19, hd19, cl19, hn, ht, ob19⟩
    | 20, _ => exact ⟨ga20, gg20, ex20, hd20, cl20, hn, ht, ob20⟩
    | 21, _ => exact ⟨ga21, gg21, ex21, hd21, cl21, hn, ht, ob21⟩
    | n + 22, h => exact absurd h (by omega)
  have Z : Kin K mg C CN := ⟨PySem.W.mg_of X G a0, PySem.W.mg_of X G a1, PySem.W.mg_of X G a2, PySem.W.mg_of X G a3, PySem.W.mg_of X G a4, PySem.W.mg_of X G a5, PySem.W.mg_of X G a6, PySem.W.mg_of X G a7, PySem.W.mg_of X G a8, PySem.W.mg_of X G a9, PySem.W.mg_of X G a10, PySem.W.mg_of X G a11, PySem.W.mg_of X G a12, PySem.W.mg_of X G a13, PySem.W.mg_of X G a14, PySem.W.mg_of X G a15, PySem.W.mg_of X G a16, PySem.W.mg_of X G a17, PySem.W.mg_of X G a18, PySem.W.mg_of X G a19, PySem.W.mg_of X G a20, PySem.W.mg_of X G a21, PySem.W.mg_of X G aN, fun i j hi hj => kit_all kA hi hj, fun j hj => kit_to kN hj, fun j hj => kit_to kV hj, kVN, ek⟩
  have t3 : NearTxt PySem.Challenge.pw_nearsettled_k62_errors_and_fields K mg "BadRow" "number" (C 3) (I 3) (jsOf (inClass (top 5) 0)).1 (jsOf (inClass (top 5) 0)).2 :=
    { fs := .inl rfl, gC := PySem.W.mg_of X G a3, cls := ⟨nm3, q3, N3, bs3, bm3, sn3, sub3, ab3, col3, dd3, m03, m13, m23, m33, m53, xl3, rv3⟩, sa := sa3, ga := ga3, gg := gg3, noN := no3, iC := ic3, tC := ti3, kC := kc3, exC := ex3, tyC := ty3, hdC := hd3, te := exm_own ex3 is3 ty3 ss3,
      subV := sv3, subC := sm3, tp := tp, sup := su3, nosup := PySem.W.mg_none_of X G m_super, htop := (by decide +kernel),
      fn := ⟨io3, id3, ic_dc3, ipm3, ian3, cda3, ict3, isl3, cc3, "BadRow.__init__", _, _, _, _, _, _, _, _, _, _, _, li3, ci3, ⟨cdc3, cdd3, cvs3, cdl3, file3, tf3, cd3, vs3, fi3⟩, ⟨cec3, ced3, cel3, ce3⟩, ⟨_, fun env => rfl⟩⟩ }
  have t4 : NearTxt PySem.Challenge.pw_nearsettled_k62_errors_and_fields K mg "BadCell" "number" (C 4) (I 4) (jsOf (inClass (top 6) 0)).1 (jsOf (inClass (top 6) 0)).2 :=
    { fs := .inl rfl, gC := PySem.W.mg_of X G a4, cls := ⟨nm4, q4, N4, bs4, bm4, sn4, sub4, ab4, col4, dd4, m04, m14, m24, m34, m54, xl4, rv4⟩, sa := sa4, ga := ga4, gg := gg4, noN := no4, iC := ic4, tC := ti4, kC := kc4, exC := ex4, tyC := ty4, hdC := hd4, te := exm_own ex4 is4 ty4 ss4,
      subV := sv4, subC := sm4, tp := tp, sup := su4, nosup := PySem.W.mg_none_of X G m_super, htop := (by decide +kernel),
      fn := ⟨io4, id4, ic_dc4, ipm4, ian4, cda4, ict4, isl4, cc4, "BadCell.__init__", _, _, _, _, _, _, _, _, _, _, _, li4, ci4, ⟨cdc4, cdd4, cvs4, cdl4, file4, tf4, cd4, vs4, fi4⟩, ⟨cec4, ced4, cel4, ce4⟩, ⟨_, fun env => rfl⟩⟩ }
  have t10 : NearTxt PySem.Challenge.pw_nearsettled_k62_errors_and_fields K mg "BadTable" "number" (C 10) (I 10) (jsOf (inClass (top 12) 0)).1 (jsOf (inClass (top 12) 0)).2 :=
    { fs := .inl rfl, gC := PySem.W.mg_of X G a10, cls := ⟨nm10, q10, N10, bs10, bm10, sn10, sub10, ab10, col10, dd10, m010, m110, m210, m310, m510, xl10, rv10⟩, sa := sa10, ga := ga10, gg := gg10, noN := no10, iC := ic10, tC := ti10, kC := kc10, exC := ex10, tyC := ty10, hdC := hd10, te := exm_own ex10 is10 ty10 ss10,
      subV := sv10, subC := sm10, tp := tp, sup := su10, nosup := PySem.W.mg_none_of X G m_super, htop := (by decide +kernel),
      fn := ⟨io10, id10, ic_dc10, ipm10, ian10, cda10, ict10, isl10, cc10, "BadTable.__init__", _, _, _, _, _, _, _, _, _, _, _, li10, ci10, ⟨cdc10, cdd10, cvs10, cdl10, file10, tf10, cd10, vs10, fi10⟩, ⟨cec10, ced10, cel10, ce10⟩, ⟨_, fun env => rfl⟩⟩ }
  have t11 : NearTxt PySem.Challenge.pw_nearsettled_k62_errors_and_fields K mg "NoNumber" "number" (C 11) (I 11) (jsOf (inClass (top 13) 0)).1 (jsOf (inClass (top 13) 0)).2 :=
    { fs := .inl rfl, gC := PySem.W.mg_of X G a11, cls := ⟨nm11, q11, N11, bs11, bm11, sn11, sub11, ab11, col11, dd11, m011, m111, m211, m311, m511, xl11, rv11⟩, sa := sa11, ga := ga11, gg := gg11, noN := no11, iC := ic11, tC := ti11, kC := kc11, exC := ex11, tyC := ty11, hdC := hd11, te := exm_own ex11 is11 ty11 ss11,
      subV := sv11, subC := sm11, tp := tp, sup := su11, nosup := PySem.W.mg_none_of X G m_super, htop := (by decide +kernel),
      fn := ⟨io11, id11, ic_dc11, ipm11, ian11, cda11, ict11, isl11, cc11, "NoNumber.__init__", _, _, _, _, _, _, _, _, _, _, _, li11, ci11, ⟨cdc11, cdd11, cvs11, cdl11, file11, tf11, cd11, vs11, fi11⟩, ⟨cec11, ced11, cel11, ce11⟩, ⟨_, fun env => rfl⟩⟩ }
  have t13 : NearTxt PySem.Challenge.pw_nearsettled_k62_errors_and_fields K mg "BadUse" "number" (C 13) (I 13) (jsOf (inClass (top 15) 0)).1 (jsOf (inClass (top 15) 0)).2 :=
    { fs := .inl rfl, gC := PySem.W.mg_of X G a13, cls := ⟨nm13, q13, N13, bs13, bm13, sn13, sub13, ab13, col13, dd13, m013, m113, m213, m313, m513, xl13, rv13⟩, sa := sa13, ga := ga13, gg := gg13, noN := no13, iC := ic13, tC := ti13, kC := kc13, exC := ex13, tyC := ty13, hdC := hd13, te := exm_own ex13 is13 ty13 ss13,
      subV := sv13, subC := sm13, tp := tp, sup := su13, nosup := PySem.W.mg_none_of X G m_super, htop := (by decide +kernel),
      fn := ⟨io13, id13, ic_dc13, ipm13, ian13, cda13, ict13, isl13, cc13, "BadUse.__init__", _, _, _, _, _, _, _, _, _, _, _, li13, ci13, ⟨cdc13, cdd13, cvs13, cdl13, file13, tf13, cd13, vs13, fi13⟩, ⟨cec13, ced13, cel13, ce13⟩, ⟨_, fun env => rfl⟩⟩ }
  have t16 : NearTxt PySem.Challenge.pw_nearsettled_k62_errors_and_fields K mg "HasAnswer" "answer" (C 16) (I 16) (jsOf (inClass (top 18) 0)).1 (jsOf (inClass (top 18) 0)).2 :=
    { fs := .inr (.inl rfl), gC := PySem.W.mg_of X G a16, cls := ⟨nm16, q16, N16, bs16, bm16, sn16, sub16, ab16, col16, dd16, m016, m116, m216, m316, m516, xl16, rv16⟩, sa := sa16, ga := ga16, gg := gg16, noN := no16, iC := ic16, tC := ti16, kC := kc16, exC := ex16, tyC := ty16, hdC := hd16, te := exm_own ex16 is16 ty16 ss16,
      subV := sv16, subC := sm16, tp := tp, sup := su16, nosup := PySem.W.mg_none_of X G m_super, htop := (by decide +kernel),
      fn := ⟨io16, id16, ic_dc16, ipm16, ian16, cda16, ict16, isl16, cc16, "HasAnswer.__init__", _, _, _, _, _, _, _, _, _, _, _, li16, ci16, ⟨cdc16, cdd16, cvs16, cdl16, file16, tf16, cd16, vs16, fi16⟩, ⟨cec16, ced16, cel16, ce16⟩, ⟨_, fun env => rfl⟩⟩ }
  have t17 : NearTxt PySem.Challenge.pw_nearsettled_k62_errors_and_fields K mg "NoFold" "number" (C 17) (I 17) (jsOf (inClass (top 19) 0)).1 (jsOf (inClass (top 19) 0)).2 :=
    { fs := .inl rfl, gC := PySem.W.mg_of X G a17, cls := ⟨nm17, q17, N17, bs17, bm17, sn17, sub17, ab17, col17, dd17, m017, m117, m217, m317, m517, xl17, rv17⟩, sa := sa17, ga := ga17, gg := gg17, noN := no17, iC := ic17, tC := ti17, kC := kc17, exC := ex17, tyC := ty17, hdC := hd17, te := exm_own ex17 is17 ty17 ss17,
      subV := sv17, subC := sm17, tp := tp, sup := su17, nosup := PySem.W.mg_none_of X G m_super, htop := (by decide +kernel),
      fn := ⟨io17, id17, ic_dc17, ipm17, ian17, cda17, ict17, isl17, cc17, "NoFold.__init__", _, _, _, _, _, _, _, _, _, _, _, li17, ci17, ⟨cdc17, cdd17, cvs17, cdl17, file17, tf17, cd17, vs17, fi17⟩, ⟨cec17, ced17, cel17, ce17⟩, ⟨_, fun env => rfl⟩⟩ }
  have t20 : NearTxt PySem.Challenge.pw_nearsettled_k62_errors_and_fields K mg "NoMark" "number" (C 20) (I 20) (jsOf (inClass (top 22) 0)).1 (jsOf (inClass (top 22) 0)).2 :=
    { fs := .inl rfl, gC := PySem.W.mg_of X G a20, cls := ⟨nm20, q20, N20, bs20, bm20, sn20, sub20, ab20, col20, dd20, m020, m120, m220, m320, m520, xl20, rv20⟩, sa := sa20, ga := ga20, gg := gg20, noN := no20, iC := ic20, tC := ti20, kC := kc20, exC := ex20, tyC := ty20, hdC := hd20, te := exm_own ex20 is20 ty20 ss20,
      subV := sv20, subC := sm20, tp := tp, sup := su20, nosup := PySem.W.mg_none_of X G m_super, htop := (by decide +kernel),
      fn := ⟨io20, id20, ic_dc20, ipm20, ian20, cda20, ict20, isl20, cc20, "NoMark.__init__", _, _, _, _, _, _, _, _, _, _, _, li20, ci20, ⟨cdc20, cdd20, cvs20, cdl20, file20, tf20, cd20, vs20, fi20⟩, ⟨cec20, ced20, cel20, ce20⟩, ⟨_, fun env => rfl⟩⟩ }
  have t21 : NearTxt PySem.Challenge.pw_nearsettled_k62_errors_and_fields K mg "BadText" "line" (C 21) (I 21) (jsOf (inClass (top 23) 0)).1 (jsOf (inClass (top 23) 0)).2 :=
    { fs := .inr (.inr rfl), gC := PySem.W.mg_of X G a21, cls := ⟨nm21, q21, N21, bs21, bm21, sn21, sub21, ab21, col21, dd21, m021, m121, m221, m321, m521, xl21, rv21⟩, sa := sa21, ga := ga21, gg := gg21, noN := no21, iC := ic21, tC := ti21, kC := kc21, exC := ex21, tyC := ty21, hdC := hd21, te := exm_own ex21 is21 ty21 ss21,
      subV := sv21, subC := sm21, tp := tp, sup := su21, nosup := PySem.W.mg_none_of X G m_super, htop := (by decide +kernel),
      fn := ⟨io21, id21, ic_dc21, ipm21, ian21, cda21, ict21, isl21, cc21, "BadText.__init__", _, _, _, _, _, _, _, _, _, _, _, li21, ci21, ⟨cdc21, cdd21, cvs21, cdl21, file21, tf21, cd21, vs21, fi21⟩, ⟨cec21, ced21, cel21, ce21⟩, ⟨_, fun env => rfl⟩⟩ }
  have N : Nears PySem.Challenge.pw_nearsettled_k62_errors_and_fields K mg C I := ⟨t3, t4, t10, t11, t13, t16, t17, t20, t21⟩
  have Y : Plains K C := ⟨xc0, kc0, xc1, kc1, xc2, kc2, xc5, kc5, xc6, kc6, xc7, kc7, xc8, kc8, xc9, kc9, xc12, kc12, xc14, kc14, xc15, kc15, xc18, kc18, xc19, kc19⟩
  have FF := fun_mk (st := sFeed) lF cF kF
  have c_F : Cal K mg "_law_feed" ["script", "k"] fF _ := ⟨PySem.W.mg_of X G aF, kF, FF.binds (ps := ["script", "k"]) fun _ _ _ _ _ _ us hl => match us, hl with | [_, _], _ => rfl⟩
  have FT := fun_mk (st := sTake) lT cT kT
  have c_T : Cal K mg "_law_take" ["feed", "many"] fT _ := ⟨PySem.W.mg_of X G aT, kT, FT.binds (ps := ["feed", "many"]) fun _ _ _ _ _ _ us hl => match us, hl with | [_, _], _ => rfl⟩
  have FP := fun_mk (st := sPick) lP cP kP
  have c_P : Cal K mg "_law_pick" ["feed", "some"] fP _ := ⟨PySem.W.mg_of X G aP, kP, FP.binds (ps := ["feed", "some"]) fun _ _ _ _ _ _ us hl => match us, hl with | [_, _], _ => rfl⟩
  have FK := fun_mk (st := sKinds) lK cK kK
  have c_K : Cal K mg "_law_kinds" ["thing"] fK _ := ⟨PySem.W.mg_of X G aK, kK, FK.binds (ps := ["thing"]) fun _ _ _ _ _ _ us hl => match us, hl with | [_], _ => rfl⟩
  have FR := fun_mk (st := sFields) lR cR kR
  have c_R : Cal K mg "_law_fields_right" ["odd"] fR _ := ⟨PySem.W.mg_of X G aR, kR, FR.binds (ps := ["odd"]) fun _ _ _ _ _ _ us hl => match us, hl with | [_], _ => rfl⟩
  have FL := fun_mk (st := sLaw) lL cL kL
  refine ⟨PySem.W.fnOf "law" "law" (defArgs sLaw) (defBody sLaw) (defScope sLaw) .none kVL dcL pmL anL cdL ctL, fun s v => .of_eq rfl, fun base _ _ => ?_⟩
  have GT := ok_take (P := PySem.Challenge.pw_nearsettled_k62_errors_and_fields) (w := w) (base := base) FT T
  exact ok_law FL T Z N Y (ok_feed FF T) c_F GT c_T (ok_pick FP T GT c_T.g c_T.k c_T.b) c_P (ok_kinds FK T Z) c_K (ok_fields FR T N) c_R
end Law
open PySem PySem.W PyProof.Rows
set_option maxRecDepth 100000 in
set_option maxHeartbeats 0 in
theorem PySem.Challenge.cw_nearsettled_k62_errors_and_fields_holds : PySem.Challenge.rw_nearsettled_k62_errors_and_fields.Holds := by
  w_on; o_law; k_head; (case hw => w_witness2)
  k_fill
  refine L2.walk_ofG (l := PySem.Challenge.rw_nearsettled_k62_errors_and_fields) (n := 63) (k := 5) (x := "script") (sp := Law.spLaw) rfl (by decide) rfl ⟨rfl, by decide, by decide⟩ (fun w h Y => PySem.W.kIn_of Y) ?F (fun K H a ns hl hS => ⟨a, ns, rfl, hS, hl, fun _ => rfl⟩)
  case F =>
    intro w mg fa h KX G hmg
    refine' Law.all_mk KX G hmg rfl ?a0 ?a1 ?a2 ?a3 ?a4 ?a5 ?a6 ?a7 ?a8 ?a9 ?a10 ?a11 ?a12 ?a13 ?a14 ?a15 ?a16 ?a17 ?a18 ?a19 ?a20 ?a21 ?aN ?m_len ?m_max ?m_min ?m_abs ?m_int ?m_range ?m_enumerate ?m_isinstance ?m_repr ?m_ValueError ?m_super ?aF ?lF ?cF ?kF ?aT ?lT ?cT ?kT ?aP ?lP ?cP ?kP ?aK ?lK ?cK ?kK ?aR ?lR ?cR ?kR ?aL ?lL ?cL ?kL ?hn ?ht ?tp ?ga0 ?gg0 ?ex0 ?hd0 ?cl0 ?ob0 ?kc0 ?xc0 ?ga1 ?gg1 ?ex1 ?hd1 ?cl1 ?ob1 ?kc1 ?xc1 ?ga2 ?gg2 ?ex2 ?hd2 ?cl2 ?ob2 ?kc2 ?xc2 ?ga3 ?gg3 ?ex3 ?hd3 ?cl3 ?ob3 ?kc3 ?xl3 ?rv3 ?sa3 ?no3 ?ic3 ?ti3 ?ty3 ?is3 ?ss3 ?sv3 ?sm3 ?su3 ?li3 ?ci3 ?cd3 ?vs3 ?fi3 ?ce3 ?ga4 ?gg4 ?ex4 ?hd4 ?cl4 ?ob4 ?kc4 ?xl4 ?rv4 ?sa4 ?no4 ?ic4 ?ti4 ?ty4 ?is4 ?ss4 ?sv4 ?sm4 ?su4 ?li4 ?ci4 ?cd4 ?vs4 ?fi4 ?ce4 ?ga5 ?gg5 ?ex5 ?hd5 ?cl5 ?ob5 ?kc5 ?xc5 ?ga6 ?gg6 ?ex6 ?hd6 ?cl6 ?ob6 ?kc6 ?xc6 ?ga7 ?gg7 ?ex7 ?hd7 ?cl7 ?ob7 ?kc7 ?xc7 ?ga8 ?gg8 ?ex8 ?hd8 ?cl8 ?ob8 ?kc8 ?xc8 ?ga9 ?gg9 ?ex9 ?hd9 ?cl9 ?ob9 ?kc9 ?xc9 ?ga10 ?gg10 ?ex10 ?hd10 ?cl10 ?ob10 ?kc10 ?xl10 ?rv10 ?sa10 ?no10 ?ic10 ?ti10 ?ty10 ?is10 ?ss10 ?sv10 ?sm10 ?su10 ?li10 ?ci10 ?cd10 ?vs10 ?fi10 ?ce10 ?ga11 ?gg11 ?ex11 ?hd11 ?cl11 ?ob11 ?kc11 ?xl11 ?rv11 ?sa11 ?no11 ?ic11 ?ti11 ?ty11 ?is11 ?ss11 ?sv11 ?sm11 ?su11 ?li11 ?ci11 ?cd11 ?vs11 ?fi11 ?ce11 ?ga12 ?gg12 ?ex12 ?hd12 ?cl12 ?ob12 ?kc12 ?xc12 ?ga13 ?gg13 ?ex13 ?hd13 ?cl13 ?ob13 ?kc13 ?xl13 ?rv13 ?sa13 ?no13 ?ic13 ?ti13 ?ty13 ?is13 ?ss13 ?sv13 ?sm13 ?su13 ?li13 ?ci13 ?cd13 ?vs13 ?fi13 ?ce13 ?ga14 ?gg14 ?ex14 ?hd14 ?cl14 ?ob14 ?kc14 ?xc14 ?ga15 ?gg15 ?ex15 ?hd15 ?cl15 ?ob15 ?kc15 ?xc15 ?ga16 ?gg16 ?ex16 ?hd16 ?cl16 ?ob16 ?kc16 ?xl16 ?rv16 ?sa16 ?no16 ?ic16 ?ti16 ?ty16 ?is16 ?ss16 ?sv16 ?sm16 ?su16 ?li16 ?ci16 ?cd16 ?vs16 ?fi16 ?ce16 ?ga17 ?gg17 ?ex17 ?hd17 ?cl17 ?ob17 ?kc17 ?xl17 ?rv17 ?sa17 ?no17 ?ic17 ?ti17 ?ty17 ?is17 ?ss17 ?sv17 ?sm17 ?su17 ?li17 ?ci17 ?cd17 ?vs17 ?fi17 ?ce17 ?ga18 ?gg18 ?ex18 ?hd18 ?cl18 ?ob18 ?kc18 ?xc18 ?ga19 ?gg19 ?ex19 ?hd19 ?cl19 ?ob19 ?kc19 ?xc19 ?ga20 ?gg20 ?ex20 ?hd20 ?cl20 ?ob20 ?kc20 ?xl20 ?rv20 ?sa20 ?no20 ?ic20 ?ti20 ?ty20 ?is20 ?ss20 ?sv20 ?sm20 ?su20 ?li20 ?ci20 ?cd20 ?vs20 ?fi20 ?ce20 ?ga21 ?gg21 ?ex21 ?hd21 ?cl21 ?ob21 ?kc21 ?xl21 ?rv21 ?sa21 ?no21 ?ic21 ?ti21 ?ty21 ?is21 ?ss21 ?sv21 ?sm21 ?su21 ?li21 ?ci21 ?cd21 ?vs21 ?fi21 ?ce21 ?kA ?kN ?kV ?kVN
    (case a0 => k_is)
    (case a1 => k_is)
    (case a2 => k_is)
    (case a3 => k_is)
    (case a4 => k_is)
    (case a5 => k_is)
    (case a6 => k_is)
    (case a7 => k_is)
    (case a8 => k_is)
    (case a9 => k_is)
    (case a10 => k_is)
    (case a11 => k_is)
    (case a12 => k_is)
    (case a13 => k_is)
    (case a14 => k_is)
    (case a15 => k_is)
    (case a16 => k_is)
    (case a17 => k_is)
    (case a18 => k_is)
    (case a19 => k_is)
    (case a20 => k_is)
    (case a21 => k_is)
    (case aN => k_is)
    (case m_len => k_is)
    (case m_max => k_is)
    (case m_min => k_is)
    (case m_abs => k_is)
    (case m_int => k_is)
    (case m_range => k_is)
    (case m_enumerate => k_is)
    (case m_isinstance => k_is)
    (case m_repr => k_is)
    (case m_ValueError => k_is)
    (case m_super => k_is)
    (case aF => k_is)
    (case lF => k_is)
    (case cF => k_is)
    (case kF => k_is)
    (case aT => k_is)
    (case lT => k_is)
    (case cT => k_is)
    (case kT => k_is)
    (case aP => k_is)
    (case lP => k_is)
    (case cP => k_is)
    (case kP => k_is)
    (case aK => k_is)
    (case lK => k_is)
    (case cK => k_is)
    (case kK => k_is)
    (case aR => k_is)
    (case lR => k_is)
    (case cR => k_is)
    (case kR => k_is)
    (case aL => k_is)
    (case lL => k_is)
    (case cL => k_is)
    (case kL => k_is)
    (case hn => k_is)
    (case ht => k_is)
    (case tp => k_is)
    (case ga0 => k_is)
    (case gg0 => k_is)
    (case ex0 => k_is)
    (case hd0 => k_is)
    (case cl0 => k_is)
    (case ob0 => k_is)
    (case kc0 => k_is)
    (case xc0 => first | k_exc | k_is)
    (case ga1 => k_is)
    (case gg1 => k_is)
    (case ex1 => k_is)
    (case hd1 => k_is)
    (case cl1 => k_is)
    (case ob1 => k_is)
    (case kc1 => k_is)
    (case xc1 => first | k_exc | k_is)
    (case ga2 => k_is)
    (case gg2 => k_is)
    (case ex2 => k_is)
    (case hd2 => k_is)
    (case cl2 => k_is)
    (case ob2 => k_is)
    (case kc2 => k_is)
    (case xc2 => first | k_exc | k_is)
    (case ga3 => k_is)
    (case gg3 => k_is)
    (case ex3 => k_is)
    (case hd3 => k_is)
    (case cl3 => k_is)
    (case ob3 => k_is)
    (case kc3 => k_is)
    (case xl3 => k_is)
    (case rv3 => decide +kernel)
    (case sa3 => k_is)
    (case no3 => k_is)
    (case ic3 => k_is)
    (case ti3 => k_is)
    (case ty3 => k_is)
    (case is3 => k_is)
    (case ss3 => first | rfl | k_is)
    (case sv3 => k_is)
    (case sm3 => k_is)
    (case su3 => first | k_is | ks_is | kernel_rfl)
    (case li3 => k_is)
    (case ci3 => k_is)
    (case cd3 => k_is)
    (case vs3 => rfl)
    (case fi3 => decide +kernel)
    (case ce3 => k_is)
    (case ga4 => k_is)
    (case gg4 => k_is)
    (case ex4 => k_is)
    (case hd4 => k_is)
    (case cl4 => k_is)
    (case ob4 => k_is)
    (case kc4 => k_is)
    (case xl4 => k_is)
    (case rv4 => decide +kernel)
    (case sa4 => k_is)
    (case no4 => k_is)
    (case ic4 => k_is)
    (case ti4 => k_is)
    (case ty4 => k_is)
    (case is4 => k_is)
    (case ss4 => first | rfl | k_is)
    (case sv4 => k_is)
    (case sm4 => k_is)
    (case su4 => first | k_is | ks_is | kernel_rfl)
    (case li4 => k_is)
    (case ci4 => k_is)
    (case cd4 => k_is)
    (case vs4 => rfl)
    (case fi4 => decide +kernel)
    (case ce4 => k_is)
    (case ga5 => k_is)
    (case gg5 => k_is)
    (case ex5 => k_is)
    (case hd5 => k_is)
    (case cl5 => k_is)
    (case ob5 => k_is)
    (case kc5 => k_is)
    (case xc5 => first | k_exc | k_is)
    (case ga6 => k_is)
    (case gg6 => k_is)
    (case ex6 => k_is)
    (case hd6 => k_is)
    (case cl6 => k_is)
    (case ob6 => k_is)
    (case kc6 => k_is)
    (case xc6 => first | k_exc | k_is)
    (case ga7 => k_is)
    (case gg7 => k_is)
    (case ex7 => k_is)
    (case hd7 => k_is)
    (case cl7 => k_is)
    (case ob7 => k_is)
    (case kc7 => k_is)
    (case xc7 => first | k_exc | k_is)
    (case ga8 => k_is)
    (case gg8 => k_is)
    (case ex8 => k_is)
    (case hd8 => k_is)
    (case cl8 => k_is)
    (case ob8 => k_is)
    (case kc8 => k_is)
    (case xc8 => first | k_exc | k_is)
    (case ga9 => k_is)
    (case gg9 => k_is)
    (case ex9 => k_is)
    (case hd9 => k_is)
    (case cl9 => k_is)
    (case ob9 => k_is)
    (case kc9 => k_is)
    (case xc9 => first | k_exc | k_is)
    (case ga10 => k_is)
    (case gg10 => k_is)
    (case ex10 => k_is)
    (case hd10 => k_is)
    (case cl10 => k_is)
    (case ob10 => k_is)
    (case kc10 => k_is)
    (case xl10 => k_is)
    (case rv10 => decide +kernel)
    (case sa10 => k_is)
    (case no10 => k_is)
    (case ic10 => k_is)
    (case ti10 => k_is)
    (case ty10 => k_is)
    (case is10 => k_is)
    (case ss10 => first | rfl | k_is)
    (case sv10 => k_is)
    (case sm10 => k_is)
    (case su10 => first | k_is | ks_is | kernel_rfl)
    (case li10 => k_is)
    (case ci10 => k_is)
    (case cd10 => k_is)
    (case vs10 => rfl)
    (case fi10 => decide +kernel)
    (case ce10 => k_is)
    (case ga11 => k_is)
    (case gg11 => k_is)
    (case ex11 => k_is)
    (case hd11 => k_is)
    (case cl11 => k_is)
    (case ob11 => k_is)
    (case kc11 => k_is)
    (case xl11 => k_is)
    (case rv11 => decide +kernel)
    (case sa11 => k_is)
    (case no11 => k_is)
    (case ic11 => k_is)
    (case ti11 => k_is)
    (case ty11 => k_is)
    (case is11 => k_is)
    (case ss11 => first | rfl | k_is)
    (case sv11 => k_is)
    (case sm11 => k_is)
    (case su11 => first | k_is | ks_is | kernel_rfl)
    (case li11 => k_is)
    (case ci11 => k_is)
    (case cd11 => k_is)
    (case vs11 => rfl)
    (case fi11 => decide +kernel)
    (case ce11 => k_is)
    (case ga12 => k_is)
    (case gg12 => k_is)
    (case ex12 => k_is)
    (case hd12 => k_is)
    (case cl12 => k_is)
    (case ob12 => k_is)
    (case kc12 => k_is)
    (case xc12 => first | k_exc | k_is)
    (case ga13 => k_is)
    (case gg13 => k_is)
    (case ex13 => k_is)
    (case hd13 => k_is)
    (case cl13 => k_is)
    (case ob13 => k_is)
    (case kc13 => k_is)
    (case xl13 => k_is)
    (case rv13 => decide +kernel)
    (case sa13 => k_is)
    (case no13 => k_is)
    (case ic13 => k_is)
    (case ti13 => k_is)
    (case ty13 => k_is)
    (case is13 => k_is)
    (case ss13 => first | rfl | k_is)
    (case sv13 => k_is)
    (case sm13 => k_is)
    (case su13 => first | k_is | ks_is | kernel_rfl)
    (case li13 => k_is)
    (case ci13 => k_is)
    (case cd13 => k_is)
    (case vs13 => rfl)
    (case fi13 => decide +kernel)
    (case ce13 => k_is)
    (case ga14 => k_is)
    (case gg14 => k_is)
    (case ex14 => k_is)
    (case hd14 => k_is)
    (case cl14 => k_is)
    (case ob14 => k_is)
    (case kc14 => k_is)
    (case xc14 => first | k_exc | k_is)
    (case ga15 => k_is)
    (case gg15 => k_is)
    (case ex15 => k_is)
    (case hd15 => k_is)
    (case cl15 => k_is)
    (case ob15 => k_is)
    (case kc15 => k_is)
    (case xc15 => first | k_exc | k_is)
    (case ga16 => k_is)
    (case gg16 => k_is)
    (case ex16 => k_is)
    (case hd16 => k_is)
    (case cl16 => k_is)
    (case ob16 => k_is)
    (case kc16 => k_is)
    (case xl16 => k_is)
    (case rv16 => decide +kernel)
    (case sa16 => k_is)
    (case no16 => k_is)
    (case ic16 => k_is)
    (case ti16 => k_is)
    (case ty16 => k_is)
    (case is16 => k_is)
    (case ss16 => first | rfl | k_is)
    (case sv16 => k_is)
    (case sm16 => k_is)
    (case su16 => first | k_is | ks_is | kernel_rfl)
    (case li16 => k_is)
    (case ci16 => k_is)
    (case cd16 => k_is)
    (case vs16 => rfl)
    (case fi16 => decide +kernel)
    (case ce16 => k_is)
    (case ga17 => k_is)
    (case gg17 => k_is)
    (case ex17 => k_is)
    (case hd17 => k_is)
    (case cl17 => k_is)
    (case ob17 => k_is)
    (case kc17 => k_is)
    (case xl17 => k_is)
    (case rv17 => decide +kernel)
    (case sa17 => k_is)
    (case no17 => k_is)
    (case ic17 => k_is)
    (case ti17 => k_is)
    (case ty17 => k_is)
    (case is17 => k_is)
    (case ss17 => first | rfl | k_is)
    (case sv17 => k_is)
    (case sm17 => k_is)
    (case su17 => first | k_is | ks_is | kernel_rfl)
    (case li17 => k_is)
    (case ci17 => k_is)
    (case cd17 => k_is)
    (case vs17 => rfl)
    (case fi17 => decide +kernel)
    (case ce17 => k_is)
    (case ga18 => k_is)
    (case gg18 => k_is)
    (case ex18 => k_is)
    (case hd18 => k_is)
    (case cl18 => k_is)
    (case ob18 => k_is)
    (case kc18 => k_is)
    (case xc18 => first | k_exc | k_is)
    (case ga19 => k_is)
    (case gg19 => k_is)
    (case ex19 => k_is)
    (case hd19 => k_is)
    (case cl19 => k_is)
    (case ob19 => k_is)
    (case kc19 => k_is)
    (case xc19 => first | k_exc | k_is)
    (case ga20 => k_is)
    (case gg20 => k_is)
    (case ex20 => k_is)
    (case hd20 => k_is)
    (case cl20 => k_is)
    (case ob20 => k_is)
    (case kc20 => k_is)
    (case xl20 => k_is)
    (case rv20 => decide +kernel)
    (case sa20 => k_is)
    (case no20 => k_is)
    (case ic20 => k_is)
    (case ti20 => k_is)
    (case ty20 => k_is)
    (case is20 => k_is)
    (case ss20 => first | rfl | k_is)
    (case sv20 => k_is)
    (case sm20 => k_is)
    (case su20 => first | k_is | ks_is | kernel_rfl)
    (case li20 => k_is)
    (case ci20 => k_is)
    (case cd20 => k_is)
    (case vs20 => rfl)
    (case fi20 => decide +kernel)
    (case ce20 => k_is)
    (case ga21 => k_is)
    (case gg21 => k_is)
    (case ex21 => k_is)
    (case hd21 => k_is)
    (case cl21 => k_is)
    (case ob21 => k_is)
    (case kc21 => k_is)
    (case xl21 => k_is)
    (case rv21 => decide +kernel)
    (case sa21 => k_is)
    (case no21 => k_is)
    (case ic21 => k_is)
    (case ti21 => k_is)
    (case ty21 => k_is)
    (case is21 => k_is)
    (case ss21 => first | rfl | k_is)
    (case sv21 => k_is)
    (case sm21 => k_is)
    (case su21 => first | k_is | ks_is | kernel_rfl)
    (case li21 => k_is)
    (case ci21 => k_is)
    (case cd21 => k_is)
    (case vs21 => rfl)
    (case fi21 => decide +kernel)
    (case ce21 => k_is)
    (case kA => kernel_rfl)
    (case kN => kernel_rfl)
    (case kV => kernel_rfl)
    (case kVN => kernel_rfl)
